import PyProof.Rows.All
import Wide.All
import OpenK.AllK
import Wide.FinOn
import Lean
import PyProof.EqAt
import PyProof.EqKinds
import PyProof.TupleCall
import KE.KDictList
import KE.LcSums
import PyProof.ZipIter
import PyProof.NeKinds
import PyProof.StrWalks
import PyProof.DictWalks
import PyProof.AttrMissSeq
import KE.KSortTup
import KE.KRevSl
import PyProof.ListRange
import PyProof.WalksMore
import PyProof.SumWalk
import PyProof.Rows.SumGenD
import PyProof.EnumStmt
import KE.KDictOf
import PyProof.ListOps
import PyProof.SeqRoads2
import PyProof.TupleOfGen
import PySem.Challenge.RW_wantway_k05_bodies_and_places
set_option Elab.async false
set_option linter.all false
set_option maxRecDepth 100000
set_option maxHeartbeats 8000000
-- CHANGE: your row's module here, as the last of these rows
namespace L2
open PySem PySem.Spec PyProof.Rows
abbrev Key := Sum Int Str
def JB : Key -> Value -> Bool
  | .inl k, v => Value.isInt k v
  | .inr x, v => Value.isStrOf x v
def keyH (w : World) : Key -> Int
  | .inl k => hashInt k
  | .inr x => hashStr w x
theorem Z1 : ∀ {k : Key} {v : Value}, JB k v = true -> (∃ i t, k = Sum.inl i /\ v = Value.int i t) ∨ (∃ x t, k = Sum.inr x /\ v = Value.str x t)
  | .inl i, v, h => by
    obtain ⟨t, e⟩ := Value.isInt_shape (k := i) (v := v) h
    exact .inl ⟨i, t, rfl, e⟩
  | .inr x, v, h => by
    obtain ⟨t, e⟩ := Value.isStrOf_shape (x := x) (v := v) h
    exact .inr ⟨x, t, rfl, e⟩
theorem keyIs_int (i : Int) (t : Tok) : JB (.inl i) (.int i t) = true := by simp [JB, Value.isInt]
theorem keyIs_str (x : Str) (t : Tok) : JB (.inr x) (.str x t) = true := by simp [JB, Value.isStrOf]
theorem key_ll (a b : Int) : decide ((Sum.inl a : Key) = Sum.inl b) = (a == b) := by
  by_cases e : a = b
  · subst e; simp
  · have h : ¬ (Sum.inl a : Key) = Sum.inl b := fun q => e (Sum.inl.inj q)
    rw [decide_eq_false h]
    exact (beq_eq_false_iff_ne.mpr e).symm
theorem key_rr (a b : Str) : decide ((Sum.inr a : Key) = Sum.inr b) = decide (a = b) := by
  by_cases e : a = b
  · subst e; simp
  · have h : ¬ (Sum.inr a : Key) = Sum.inr b := fun q => e (Sum.inr.inj q)
    rw [decide_eq_false h, decide_eq_false e]
theorem key_lr (a : Int) (b : Str) : decide ((Sum.inl a : Key) = Sum.inr b) = false := decide_eq_false (fun q => nomatch q)
theorem key_rl (a : Str) (b : Int) : decide ((Sum.inr a : Key) = Sum.inl b) = false := decide_eq_false (fun q => nomatch q)
def Zx (prog : Program) (w : World) : PySem.KeyKind prog w Key where
  is := JB
  hash := keyH w
  inj := fun v a b ha hb => by
    rcases Z1 ha with ⟨i, t, rfl, rfl⟩ | ⟨x, t, rfl, rfl⟩
    · rcases Z1 hb with ⟨j, u, rfl, e⟩ | ⟨y, u, rfl, e⟩
      · injection e with e1 _; rw [e1]
      · exact nomatch e
    · rcases Z1 hb with ⟨j, u, rfl, e⟩ | ⟨y, u, rfl, e⟩
      · exact nomatch e
      · injection e with e1 _; rw [e1]
  byValue := fun k v h => by
    rcases Z1 h with ⟨i, t, rfl, rfl⟩ | ⟨x, t, rfl, rfl⟩ <;> rfl
  pyHash := fun hv h => by
    rcases Z1 hv with ⟨i, t, rfl, rfl⟩ | ⟨x, t, rfl, rfl⟩
    · exact wpAny_pyHash_int h
    · exact wpAny_pyHash_str h
  eqBool := fun hu hv h => by
    rcases Z1 hu with ⟨i, t, rfl, rfl⟩ | ⟨x, t, rfl, rfl⟩
    · rcases Z1 hv with ⟨j, u, rfl, rfl⟩ | ⟨y, u, rfl, rfl⟩
      · rw [key_ll] at h; exact wpAny_eqBool_int h
      · rw [key_lr] at h; exact SeqAt.EqAt.int_str i t y u _ _ _ _ h
    · rcases Z1 hv with ⟨j, u, rfl, rfl⟩ | ⟨y, u, rfl, rfl⟩
      · rw [key_rl] at h; exact SeqAt.EqAt.str_int x t j u _ _ _ _ h
      · rw [key_rr] at h; exact wpAny_eqBool_str h
  «strs» := fun k x t v h => by
    rcases Z1 h with ⟨i, u, rfl, e⟩ | ⟨y, u, rfl, e⟩
    · exact nomatch e
    · injection e with e1 _
      subst e1
      cases v <;> rfl
theorem mixKind_int (prog : Program) (w : World) (i : Int) (t : Tok) : (Zx prog w).is (.inl i) (.int i t) = true := keyIs_int i t
theorem mixKind_str (prog : Program) (w : World) (x : Str) (t : Tok) : (Zx prog w).is (.inr x) (.str x t) = true := keyIs_str x t
end L2
namespace L2
open PySem PySem.Spec PyProof.Rows
inductive V where
  | non | bl (b : Bool) | int (i : Int) | str (x : Str) | byt (b : Array UInt8) | flt (b : UInt64) | ref (a : Addr) | ty (n : String)
  deriving DecidableEq
def RelV : V -> Value -> Prop
  | .non, u => u = Value.none
  | .bl b, u => u = Value.bool b
  | .int i, u => ∃ t, u = Value.int i t
  | .str x, u => ∃ t, u = Value.str x t
  | .byt b, u => ∃ t, u = Value.bytes b t
  | .flt b, u => ∃ t, u = Value.float b t
  | .ref a, u => u = Value.ref a
  | .ty n, u => u = Value.type n
abbrev Vals : List V -> List Value -> Prop := Paired RelV
theorem Vals.length {xs : List V} {us : List Value} (r : Vals xs us) : xs.length = us.length := Paired.length r
theorem Vals.get : ∀ {xs : List V} {us : List Value} {i : Nat} {x : V}, Vals xs us -> xs[i]? = some x -> ∃ u, us[i]? = some u /\ RelV x u
  | _, _, _, _, .nil, e => by simp at e
  | _, _, 0, _, .cons r _, e => by simp at e; subst e; exact ⟨_, rfl, r⟩
  | _, _, i + 1, x, .cons _ t, e => by
    obtain ⟨u, h1, h2⟩ := Vals.get (i := i) (x := x) t (by simpa using e)
    exact ⟨u, by simpa using h1, h2⟩
theorem Vals.set {x : V} {u : Value} (r : RelV x u) : ∀ {xs : List V} {us : List Value} (i : Nat), Vals xs us -> Vals (xs.set i x) (us.set i u)
  | _, _, _, .nil => .nil
  | _, _, 0, .cons _ t => .cons r t
  | _, _, i + 1, .cons q t => .cons q (Vals.set r i t)
theorem Vals.append : ∀ {xs ys : List V} {us ws : List Value}, Vals xs us -> Vals ys ws -> Vals (xs ++ ys) (us ++ ws)
  | _, _, _, _, .nil, s => s
  | _, _, _, _, .cons r t, s => .cons r (Vals.append t s)
theorem Vals.take : ∀ {xs : List V} {us : List Value} (n : Nat), Vals xs us -> Vals (xs.take n) (us.take n)
  | _, _, 0, _ => .nil
  | _, _, _ + 1, .nil => .nil
  | _, _, n + 1, .cons r t => .cons r (Vals.take n t)
theorem Vals.drop : ∀ {xs : List V} {us : List Value} (n : Nat), Vals xs us -> Vals (xs.drop n) (us.drop n)
  | _, _, 0, r => r
  | _, _, _ + 1, .nil => .nil
  | _, _, n + 1, .cons _ t => Vals.drop n t
def RelO : Option V -> Option Value -> Prop
  | some v, some u => RelV v u
  | none, none => True
  | _, _ => False
def KV {κ : Type} : List (κ × V) -> List (κ × Value) -> Prop := Paired fun (p : κ × V) (q : κ × Value) => p.1 = q.1 /\ RelV p.2 q.2
def kV : Key -> V
  | .inl i => .int i
  | .inr x => .str x
inductive HO where
  /-- a list -/
  | lst (xs : List V)
  /-- a tuple (never changes) -/
  | tup (xs : List V)
  /-- a dict whose keys are ints and texts; one whose keys are tuples of ints and texts (the empty one is both) -/
  | dK (kvs : List (Key × V)) | dT (kvs : List (List Key × V))
  /-- a set of ints: its members, its size -/
  | set (S : Int -> Bool) (n : Nat)
  /-- an instance of the class at C, its dict at dx, its attributes -/
  | ins (C dx : Addr) (fs : List (Str × V))
  /-- the dict of the instance at x -/
  | own (x : Addr)
  /-- the dict of an exception -/
  | xd (fs : List (Str × V))
  /-- a bound method, f of x -/
  | met (f x : Addr)
  /-- a range object lo, lo + 1, .. below hi -/
  | rng (lo hi : Int)
  /-- a thing that is known to the object (the script; a dict while a loop walks it): read, never written while it is so -/
  | frz (o : Obj) (u : HO)
  /-- a code object's table -/
  | tbl (ps : Array Value)
  /-- any other thing, by what is true of its one object (a def of one's own: SetO a S n := HO.ext fun h => ..) -/
  | ext (φ : Heap -> Prop)
abbrev Hp := Addr -> Option HO
def upd (H : Hp) (a : Addr) (o : HO) : Hp := fun b => if b = a then some o else H b
theorem ZD {H : Hp} {a : Addr} {o : HO} : upd H a o a = some o := by unfold upd; rw [if_pos rfl]
theorem ZJ {H : Hp} {a b : Addr} {o : HO} (h : b ≠ a) : upd H a o b = H b := by unfold upd; rw [if_neg h]
theorem upd_upd {H : Hp} {a : Addr} {o u : HO} : upd (upd H a o) a u = upd H a u := by
  funext b; unfold upd; split <;> rfl
theorem VZ {H : Hp} {a b : Addr} {o u : HO} (h : H a = some o) (h' : H b = some u) (d : o ≠ u) : a ≠ b := by
  intro e; subst e; rw [h] at h'; exact d (Option.some.inj h')
theorem ZO {H : Hp} {a b : Addr} {o : HO} (h : H a = some o) (h' : H b = none) : a ≠ b := by
  intro e; subst e; rw [h] at h'; cases h'
def Jk (h : Heap) (a : Addr) (items : Array Value) : Prop := ∃ o, h.get? a = some o /\ o.dict = none /\ o.cls = .type "tuple" /\ ∃ n, o.data = .seq items n
theorem Jk.is {h : Heap} {a : Addr} {items : Array Value} (x : Jk h a items) : IsTup h a items := let ⟨o, h1, _, h2, h3⟩ := x; ⟨o, h1, h2, h3⟩
theorem Jk.keeps {h h' : Heap} {a : Addr} {items : Array Value} (x : Jk h a items) (hk : ∀ b o, h.get? b = some o -> h'.get? b = some o) : Jk h' a items := let ⟨o, ho, r⟩ := x; ⟨o, hk a o ho, r⟩
theorem Jk.new (h : Heap) (items : Array Value) : Jk (h.push { cls := .type "tuple", data := .seq items }) h.objs.size items := ⟨_, Heap.get?_push_size _ rfl, rfl, rfl, _, rfl⟩
section
variable (P : Program) (w : World)
def Z2 (H : Hp) (h : Heap) (a : Addr) : HO -> Prop
  | .lst xs => xs.length <= sizeLine /\ ∃ (its : List Value) (n : Nat), Vals xs its /\ h.get? a = some { cls := .type "list", data := .seq its.toArray n }
  | .tup xs => xs.length <= sizeLine /\ ∃ its : List Value, Vals xs its /\ Jk h a its.toArray
  | .dK kvs => kvs.length <= sizeLine /\ (a == sysModules) = false /\ ∃ vs, KV kvs vs /\ h.DictOf (Zx P w) a vs
  | .dT kvs => kvs.length <= sizeLine /\ (a == sysModules) = false /\ ∃ xs : List (List Key × Addr × Value),
      Paired (fun (p : List Key × V) (q : List Key × Addr × Value) => p.1 = q.1 /\ H q.2.1 = some (.tup (p.1.map kV)) /\ RelV p.2 q.2.2) kvs xs /\
      ∃ o es ep, h.get? a = some o /\ o.ExactDict /\ o.data = .dict es ep /\ es.toList = xs.map (entryOfKey (tupleKind (Zx P w))) /\ (xs.map (·.1)).Nodup
  | .set S n => h.SetOf (intKind P w) a S n
  | .ins C dx fs => H dx = some (.own a) /\ fs.length <= 1000 /\ dx ≠ a /\ h.get? a = some (PySem.W.instObj C dx) /\
      ∃ mA, h.Ns1 dx mA /\ (∀ f, RelO (fs.lookup f) (mA f)) /\ PySem.Within mA (fs.map (·.1))
  | .own _ => ∃ o, h.get? a = some o
  | .xd fs => ∃ mA, h.Ns1 a mA /\ ∀ f, RelO (fs.lookup f) (mA f)
  | .rng lo hi => ∃ t u v, h.get? a = some { cls := .type "range", data := .fields #[.int lo t, .int hi u, .int 1 v] }
  | .frz o u => h.get? a = some o /\ Z2 H h a u
  | .tbl ps => h.get? a = some { cls := .none, data := .fields ps }
  | .met f x => h.get? a = some (PySem.W.methodObj (.ref f) (.ref x))
  | .ext φ => φ h /\ (∃ o, h.get? a = some o) /\ ∀ h1 h2 : Heap, φ h1 -> (∀ o, h1.get? a = some o -> h2.get? a = some o) -> φ h2
def HOk (H : Hp) (h : Heap) : Prop := ∀ a o, H a = some o -> Z2 P w H h a o
end
section
variable {P : Program} {w : World} {H H' : Hp} {h h' : Heap} {a : Addr} {o : HO}
theorem Z2.lt (x : Z2 P w H h a o) : a < h.objs.size := by
  cases o with
  | lst xs => obtain ⟨_, _, _, _, e⟩ := x; exact Heap.lt_size e
  | tup xs => obtain ⟨_, _, _, p⟩ := x; exact p.is.lt
  | dK kvs => obtain ⟨_, _, _, _, o, _, _, e, _⟩ := x; exact Heap.lt_size e
  | dT kvs => obtain ⟨_, _, _, _, o, _, _, e, _⟩ := x; exact Heap.lt_size e
  | set S n => obtain ⟨o, _, _, _, e, _⟩ := x; exact Heap.lt_size e
  | ins C dx fs => obtain ⟨_, _, _, e, _⟩ := x; exact Heap.lt_size e
  | own y => obtain ⟨_, e⟩ := x; exact Heap.lt_size e
  | xd fs => obtain ⟨_, ⟨_, _, _, e, _⟩, _⟩ := x; exact Heap.lt_size e
  | rng lo hi => obtain ⟨_, _, _, e⟩ := x; exact Heap.lt_size e
  | frz ob u => obtain ⟨e, _⟩ := x; exact Heap.lt_size e
  | tbl ps => exact Heap.lt_size (show h.get? a = some _ from x)
  | met f y => exact Heap.lt_size (show h.get? a = some _ from x)
  | ext φ => obtain ⟨_, ⟨_, e⟩, _⟩ := x; exact Heap.lt_size e
theorem Paired.mapP {α β : Type} {F G : α -> β -> Prop} : ∀ {l₁ : List α} {l₂ : List β}, Paired F l₁ l₂ -> (∀ a b, F a b -> G a b) -> Paired G l₁ l₂
  | _, _, .nil, _ => .nil
  | _, _, .cons r t, f => .cons (f _ _ r) (Paired.mapP t f)
theorem Z2.stay (x : Z2 P w H h a o) (k : ∀ b u, (b = a ∨ H b = some (.own a)) -> h.get? b = some u -> h'.get? b = some u)
    (ho : ∀ b, H b = some (.own a) -> H' b = some (.own a)) (ht : ∀ b xs, H b = some (.tup xs) -> H' b = some (.tup xs)) : Z2 P w H' h' a o := by
  induction o with
  | lst xs => obtain ⟨z, its, n, r, e⟩ := x; exact ⟨z, its, n, r, k _ _ (.inl rfl) e⟩
  | tup xs => obtain ⟨z, its, r, ob, e, c⟩ := x; exact ⟨z, its, r, ob, k _ _ (.inl rfl) e, c⟩
  | dK kvs => obtain ⟨z, y, vs, r, ob, es, ep, e, c⟩ := x; exact ⟨z, y, vs, r, ob, es, ep, k _ _ (.inl rfl) e, c⟩
  | dT kvs =>
    obtain ⟨z, y, xs, r, ob, es, ep, e, c⟩ := x
    exact ⟨z, y, xs, Paired.mapP r fun p q z => ⟨z.1, ht _ _ z.2.1, z.2.2⟩, ob, es, ep, k _ _ (.inl rfl) e, c⟩
  | set S n => obtain ⟨ob, es, ep, t, e, c⟩ := x; exact ⟨ob, es, ep, t, k _ _ (.inl rfl) e, c⟩
  | ins C dx fs =>
    obtain ⟨d, z, ne, e, mA, ⟨od, es, ep, e2, c⟩, r⟩ := x
    exact ⟨ho _ d, z, ne, k _ _ (.inl rfl) e, mA, ⟨od, es, ep, k _ _ (.inr d) e2, c⟩, r⟩
  | own y => obtain ⟨ob, e⟩ := x; exact ⟨ob, k _ _ (.inl rfl) e⟩
  | xd fs => obtain ⟨mA, ⟨od, es, ep, e, c⟩, r⟩ := x; exact ⟨mA, ⟨od, es, ep, k _ _ (.inl rfl) e, c⟩, r⟩
  | rng lo hi => obtain ⟨t, u, v, e⟩ := x; exact ⟨t, u, v, k _ _ (.inl rfl) e⟩
  | frz ob u ih => obtain ⟨e, q⟩ := x; exact ⟨k _ _ (.inl rfl) e, ih q⟩
  | tbl ps =>
    have e : h.get? a = some { cls := .none, data := .fields ps } := x
    show h'.get? a = some { cls := .none, data := .fields ps }
    exact k a _ (.inl rfl) e
  | met f y =>
    have e : h.get? a = some (PySem.W.methodObj (.ref f) (.ref y)) := x
    show h'.get? a = some (PySem.W.methodObj (.ref f) (.ref y))
    exact k a _ (.inl rfl) e
  | ext φ => obtain ⟨p, ⟨o, e⟩, st⟩ := x; exact ⟨st _ _ p fun o q => k _ _ (.inl rfl) q, ⟨o, k _ _ (.inl rfl) e⟩, st⟩
theorem HOk.lt (x : HOk P w H h) (e : H a = some o) : a < h.objs.size := (x a o e).lt
theorem HOk.fresh (x : HOk P w H h) (e : h.objs.size <= a) : H a = none := by
  cases q : H a with
  | none => rfl
  | some u => exact absurd (Nat.lt_of_lt_of_le (x.lt q) e) (Nat.lt_irrefl _)
theorem HOk.kept (x : HOk P w H h) (k : ∀ b u, h.get? b = some u -> h'.get? b = some u) : HOk P w H h' := fun a o e =>
  (x a o e).stay (fun b u _ q => k b u q) (fun _ q => q) fun _ _ q => q
theorem HOk.laid (x : HOk P w H h) (k : ∀ b u, h.get? b = some u -> h'.get? b = some u) (hp : h.objs.size <= a) (new : Z2 P w (upd H a o) h' a o) : HOk P w (upd H a o) h' := fun b u e => by
  have hn := x.fresh hp
  by_cases hb : b = a
  · subst hb; rw [ZD] at e; cases e; exact new
  · rw [ZJ hb] at e
    exact (x b u e).stay (fun c v _ q => k c v q) (fun c q => by rw [ZJ (ZO q hn)]; exact q) fun c xs q => by rw [ZJ (ZO q hn)]; exact q
end
def Rd (H : Hp) (a : Addr) (u : HO) : Prop := H a = some u ∨ ∃ o, H a = some (.frz o u)
theorem Rd.ok {P : Program} {w : World} {H : Hp} {h : Heap} {a : Addr} {u : HO} (r : Rd H a u) (x : HOk P w H h) : Z2 P w H h a u := by
  rcases r with r | ⟨o, r⟩
  · exact x a u r
  · obtain ⟨_, q⟩ := x a _ r
    exact q
def Mut : Option HO -> Prop
  | some (.lst _) => True
  | some (.dK _) => True
  | some (.dT _) => True
  | some (.set _ _) => True
  | some (.ins _ _ _) => True
  | some (.ext _) => True
  | _ => False
section
variable {P : Program} {w : World} {H : Hp} {h h' : Heap} {x e : Addr} {o' : HO}
theorem HOk.write (ok : HOk P w H h) (mu : Mut (H x)) (he : e = x ∨ H e = some (.own x)) (k : ∀ b u, b ≠ e -> h.get? b = some u -> h'.get? b = some u) (heo : ∃ u, h'.get? e = some u)
    (new : Z2 P w (upd H x o') h' x o') : HOk P w (upd H x o') h' := fun b u q => by
  have nown : ∀ c y, H c = some (.own y) -> c ≠ x := fun c y r z => by subst z; rw [r] at mu; exact mu
  have ntup : ∀ c xs, H c = some (.tup xs) -> c ≠ x := fun c xs r z => by subst z; rw [r] at mu; exact mu
  by_cases hb : b = x
  · subst hb; rw [ZD] at q; cases q; exact new
  · rw [ZJ hb] at q
    by_cases hbe : b = e
    · have q' : H b = some (.own x) := by
        rcases he with z | z
        · exact absurd (hbe.trans z) hb
        · rw [hbe]; exact z
      rw [q] at q'; cases q'
      obtain ⟨v, hv⟩ := heo
      exact ⟨v, by rw [hbe]; exact hv⟩
    · refine (ok b u q).stay (fun c v hc r => k c v ?_ r) (fun c r => by rw [ZJ (nown c b r)]; exact r) fun c xs r => by rw [ZJ (ntup c xs r)]; exact r
      rcases hc with rfl | hc
      · exact hbe
      · rintro rfl
        rcases he with z | z
        · exact nown c b hc z
        · rw [hc] at z; cases z; exact hb rfl
end
structure Un (fs ex : List Addr) (H H' : Hp) (h h' : Heap) : Prop where
  keep : ∀ b o, h.get? b = some o -> H b = none -> b ∉ fs -> b ∉ ex -> h'.get? b = some o
  slot : ∀ b o, h.get? b = some o -> H b = none -> b ∈ fs -> b ∉ ex -> ∃ sl, h'.get? b = some { o with slots := sl }
  free : ∀ b o, h.get? b = some o -> H b = none -> b ∉ ex -> H' b = none
  there : ∀ b o, h.get? b = some o -> b ∉ ex -> ∃ o', h'.get? b = some o'
  tups : ∀ b xs, H b = some (.tup xs) -> H' b = some (.tup xs)
  frzs : ∀ b o u, H b = some (.frz o u) -> H' b = some (.frz o u)
  tbls : ∀ b ps, H b = some (.tbl ps) -> ∃ more, H' b = some (.tbl (ps ++ more))
section
variable {fs fs' ex ex' : List Addr} {H H1 H2 : Hp} {h h1 h2 h' : Heap} {a x e : Addr} {o : HO}
theorem Un.any (u : Un fs ex H H1 h h1) {b : Addr} {ob : Obj} (q : h.get? b = some ob) (n : H b = none) (hx : b ∉ ex) : ∃ sl, h1.get? b = some { ob with slots := sl } := by
  by_cases hb : b ∈ fs
  · exact u.slot b ob q n hb hx
  · exact ⟨ob.slots, u.keep b ob q n hb hx⟩
theorem Un.kept (k : ∀ b u, h.get? b = some u -> h'.get? b = some u) : Un fs ex H H h h' :=
  ⟨fun b ob q _ _ _ => k b ob q, fun b ob q _ _ _ => ⟨ob.slots, k b ob q⟩, fun _ _ _ n _ => n, fun b ob q _ => ⟨ob, k b ob q⟩, fun _ _ q => q, fun _ _ _ q => q, fun _ ps q => ⟨#[], by rw [q]; simp⟩⟩
theorem Un.refl : Un fs ex H H h h := Un.kept fun _ _ q => q
theorem Un.laid (k : ∀ b u, h.get? b = some u -> h'.get? b = some u) (hp : h.objs.size <= a) (hn : H a = none) : Un fs ex H (upd H a o) h h' where
  keep := fun b u q _ _ _ => k b u q
  slot := fun b u q _ _ _ => ⟨u.slots, k b u q⟩
  free := fun b u q n _ => by rw [ZJ (Nat.ne_of_lt (Nat.lt_of_lt_of_le (Heap.lt_size q) hp))]; exact n
  there := fun b u q _ => ⟨u, k b u q⟩
  tups := fun b xs q => by rw [ZJ (ZO q hn)]; exact q
  frzs := fun b u xs q => by rw [ZJ (ZO q hn)]; exact q
  tbls := fun b ps q => ⟨#[], by rw [ZJ (ZO q hn), q]; simp⟩
theorem Un.write (mu : Mut (H x)) (he : e = x ∨ H e = some (.own x)) (k : ∀ b u, b ≠ e -> h.get? b = some u -> h'.get? b = some u) (heo : ∃ u, h'.get? e = some u) : Un fs ex H (upd H x o) h h' := by
  have hx : ∀ b, H b = none -> b ≠ x := fun b n z => by subst z; rw [n] at mu; exact mu
  have hb : ∀ b, H b = none -> b ≠ e := fun b n z => by
    subst z
    rcases he with r | r
    · exact hx b n r
    · rw [n] at r; cases r
  have hm : ∀ b u, H b = some u -> ¬ Mut (some u) -> b ≠ x := fun b u q nm z => by subst z; rw [q] at mu; exact nm mu
  refine ⟨fun b u q n _ _ => k b u (hb b n) q, fun b u q n _ _ => ⟨u.slots, k b u (hb b n) q⟩, fun b u q n _ => by rw [ZJ (hx b n)]; exact n, fun b u q _ => ?_,
    fun b xs q => by rw [ZJ (hm b _ q fun z => z)]; exact q, fun b u xs q => by rw [ZJ (hm b _ q fun z => z)]; exact q, fun b ps q => ⟨#[], by rw [ZJ (hm b _ q fun z => z), q]; simp⟩⟩
  by_cases hbe : b = e
  · subst hbe; exact heo
  · exact ⟨u, k b u hbe q⟩
end
def trk (h : Heap) (H : Hp) : List Addr := (List.range h.objs.size).filter fun a => (H a).isSome
def hidT (h : Heap) (H : Hp) : Heap := PySem.W.hideAll h (trk h H)
theorem hidT_size (h : Heap) (H : Hp) : (hidT h H).objs.size = h.objs.size := PySem.W.hideAll_size _ _
theorem hidT_get {h : Heap} {H : Hp} {b : Addr} {o : Obj} (e : h.get? b = some o) (n : H b = none) : (hidT h H).get? b = some o :=
  PySem.W.hideAll_get _ e fun hm => by
    have q : (H b).isSome = true := (List.mem_filter.mp hm).2
    rw [n] at q; simp at q
theorem of_hidT {h : Heap} {H : Hp} {b : Addr} {o : Obj} (e : (hidT h H).get? b = some o) : h.get? b = some o /\ H b = none := by
  have e' : h.get? b = some o := PySem.W.of_hideAll (trk h H) e
  refine ⟨e', ?_⟩
  cases q : H b with
  | none => rfl
  | some x =>
    have hm : b ∈ trk h H := List.mem_filter.mpr ⟨List.mem_range.mpr (Heap.lt_size e'), by simp [q]⟩
    have z : (hidT h H).get? b = none := PySem.W.hideAll_none (trk h H) hm
    rw [z] at e; cases e
end L2
namespace L2
open PySem PySem.Spec PyProof.Rows
structure Mod (K : PySem.W.Frag) (mg : Str -> Option Value) (base : Heap) : Prop where
  kin : K.In base
  glob : base.Ns mainGlobals mg
  blt : ∃ mb, base.Ns builtinsNs mb /\ ∀ x : Str, x ≠ "__name__" -> mb x = bootBuiltins x
  nolimit : base.NoLimit
structure Cx where
  prog : Program
  w : World
  K : PySem.W.Frag
  mg : Str -> Option Value
  base : Heap
  A : Around
  N : List Str
  s₀ : Shared
  H₀ : Hp
  env : Env
  outer : List Env
  stack : List Env
  ex : List Addr
  fn : Str -> Bool
  calm : Bool
  pn : List (Addr × Obj)
  xe : Value -> Shared -> Prop
def frs (l : List Env) : List Addr := l.filterMap (·.frame)
abbrev Cx.fs (X : Cx) : List Addr := frs X.outer
def Vis (sc : Scope) (x : Str) : Prop := sc.names.lookup x = some .local ∨ sc.names.lookup x = some .cell ∨ sc.names.lookup x = some .free
def Loc (sc : Scope) (x : Str) : Prop := sc.names.lookup x = some .local ∨ sc.names.lookup x = some .cell
def Look (env : Env) (h : Heap) (m : Str -> Option Value) (x : Str) (u : Value) : Prop :=
  (env.kindOf x = some .local /\ m x = some u) ∨ ((env.kindOf x = some .cell ∨ env.kindOf x = some .free) /\ ∃ c, env.cells.lookup x = some c /\ h.IsCell c (some u))
structure Cx.Ok (X : Cx) : Prop where
  mod : Mod X.K X.mg X.base
  kind : X.env.scope.kind = .function
  glob : X.env.globals = mainGlobals
  blt : X.env.builtins = builtinsNs
  above : X.s₀.heap.objs.size <= X.env.locals
  inj : ∀ x y c, X.env.cells.lookup x = some c -> X.env.cells.lookup y = some c -> x = y
  has : ∀ x, (X.env.kindOf x = some .cell ∨ X.env.kindOf x = some .free) -> ∃ c, X.env.cells.lookup x = some c
  cab : ∀ x c, X.fn x = true -> X.env.cells.lookup x = some c -> X.s₀.heap.objs.size <= c
  hd : X.calm = true -> X.A.handled = none
  frames : X.A.frames = some X.stack
  stk : X.stack = X.outer ∨ (X.stack = X.env :: X.outer /\ X.env.frame = some X.env.locals)
  exf : ∀ b ∈ X.ex, b ≠ X.env.locals /\ ∀ x c, X.env.cells.lookup x = some c -> c ≠ b
  bs : ∀ b o, X.base.get? b = some o -> X.s₀.heap.get? b = some o /\ X.H₀ b = none
  bsz : X.base.objs.size <= X.s₀.heap.objs.size
  noex : ∀ b o, X.base.get? b = some o -> b ∉ X.ex
  exfs : ∀ b ∈ X.ex, b ∉ X.fs
  funs : X.s₀.heap.FunFrames X.base X.outer
  frf : ∀ b ∈ X.fs, X.H₀ b = none
structure Inv (X : Cx) (pins : List (Addr × Obj)) (σ : List (Option V)) (H : Hp) (s : Shared) : Prop where
  ok : X.Ok
  os : s.os = X.s₀.os
  bare : AllBare s.gens
  base : Un X.fs X.ex X.H₀ H X.s₀.heap s.heap
  loc : ∃ m, s.heap.Ns X.env.locals m /\ ∀ (i : Nat) (x : Str) (v : V), X.N[i]? = some x -> σ[i]? = some (some v) -> Vis X.env.scope x -> ∃ u, RelV v u /\ Look X.env s.heap m x u
  cell : ∀ x c, X.env.cells.lookup x = some c -> ∃ v, s.heap.IsCell c v
  free : H X.env.locals = none
  freeC : ∀ x c, X.env.cells.lookup x = some c -> H c = none
  pin : ∀ p ∈ X.pn ++ pins, s.heap.get? p.1 = some p.2 /\ H p.1 = none /\ p.1 ≠ X.env.locals /\ p.1 ∉ X.fs /\ ∀ v, p.2.data ≠ .cell v
  hok : HOk X.prog X.w H s.heap
  len : σ.length = X.N.length
section
variable {X : Cx} {pins : List (Addr × Obj)} {σ : List (Option V)} {H H' : Hp} {s : Shared} {h' : Heap}
theorem Cx.Ok.nofr (ok : X.Ok) {b : Addr} {o : Obj} (e : X.base.get? b = some o) : b ∉ X.fs := fun hb => by
  have := (ok.funs.mem hb).1
  rw [e] at this; cases this
theorem Inv.bs (I : Inv X pins σ H s) : ∀ b o, X.base.get? b = some o -> s.heap.get? b = some o /\ H b = none := fun b o e =>
  ⟨I.base.keep b o (I.ok.bs b o e).1 (I.ok.bs b o e).2 (I.ok.nofr e) (I.ok.noex b o e), I.base.free b o (I.ok.bs b o e).1 (I.ok.bs b o e).2 (I.ok.noex b o e)⟩
theorem Inv.bk (I : Inv X pins σ H s) : ∀ b o, X.base.get? b = some o -> s.heap.get? b = some o := fun b o e => (I.bs b o e).1
theorem Inv.mod (I : Inv X pins σ H s) : Mod X.K X.mg X.base := I.ok.mod
theorem Inv.kIn (I : Inv X pins σ H s) : X.K.In s.heap := I.ok.mod.kin.keeps I.bk
theorem Inv.fr (I : Inv X pins σ H s) : ∃ m, Fr X.base X.env.locals s.heap m :=
  let ⟨m, hn, _⟩ := I.loc
  ⟨m, hn, I.bk, Nat.le_trans I.ok.bsz I.ok.above⟩
theorem Inv.lt (I : Inv X pins σ H s) : X.env.locals < s.heap.objs.size := let ⟨_, hn, _⟩ := I.loc; hn.lt
theorem Inv.sz (I : Inv X pins σ H s) : X.s₀.heap.objs.size <= s.heap.objs.size := Nat.le_trans I.ok.above (Nat.le_of_lt I.lt)
theorem Inv.nofs (I : Inv X pins σ H s) {a : Addr} (h : s.heap.objs.size <= a) : a ∉ X.fs := fun hb => by
  obtain ⟨_, o, ho, _⟩ := I.ok.funs.mem hb
  exact absurd (Nat.lt_of_lt_of_le (Heap.lt_size ho) (Nat.le_trans I.sz h)) (Nat.lt_irrefl _)
theorem Inv.cne (I : Inv X pins σ H s) : ∀ x c, X.env.cells.lookup x = some c -> c ≠ X.env.locals := fun x c e z => by
  obtain ⟨v, o, ho, hd⟩ := I.cell x c e
  obtain ⟨m, ⟨o', es, ep, ho', hd', _⟩, _⟩ := I.loc
  rw [z, ho'] at ho; cases ho; rw [hd'] at hd; cases hd
theorem Inv.funs (I : Inv X pins σ H s) : s.heap.FunFrames X.base X.outer := by
  have all : ∀ (l : List Env), (∀ b ∈ frs l, b ∈ X.fs) -> X.s₀.heap.FunFrames X.base l -> s.heap.FunFrames X.base l := by
    intro l
    induction l with
    | nil => intro _ _; trivial
    | cons env r ih =>
      intro hs hl
      obtain ⟨hk, ⟨L, o, hf, hn, ho, hd⟩, hr⟩ := hl
      have hL : L ∈ X.fs := hs L (by unfold frs; rw [List.filterMap_cons, hf]; exact List.mem_cons_self)
      obtain ⟨sl, e⟩ := I.base.slot L o ho (I.ok.frf L hL) hL fun z => I.ok.exfs L z hL
      exact ⟨hk, ⟨L, _, hf, hn, e, hd⟩, ih (fun b hb => hs b (by unfold frs; rw [List.filterMap_cons, hf]; exact List.mem_cons_of_mem _ hb)) hr⟩
  exact all X.outer (fun _ hb => hb) I.ok.funs
theorem Inv.stack (I : Inv X pins σ H s) : s.heap.FunFrames X.base X.stack := by
  rcases I.ok.stk with e | ⟨e, hf⟩
  · rw [e]; exact I.funs
  · rw [e]
    obtain ⟨m, hn, _⟩ := I.loc
    refine .cons (by rw [I.ok.kind]; decide) hf hn ?_ I.funs
    exact Heap.get?_none_of_le (Nat.le_trans I.ok.bsz I.ok.above)
theorem Inv.stkSub (I : Inv X pins σ H s) : ∀ b ∈ frs X.stack, b ∈ X.env.locals :: X.fs := fun b hb => by
  rcases I.ok.stk with e | ⟨e, hf⟩
  · rw [e] at hb; exact List.mem_cons_of_mem _ hb
  · rw [e] at hb
    unfold frs at hb
    rw [List.filterMap_cons, hf] at hb
    exact hb
theorem Inv.stkFree (I : Inv X pins σ H s) : ∀ b ∈ frs X.stack, H b = none := fun b hb => by
  rcases List.mem_cons.mp (I.stkSub b hb) with e | hb
  · rw [e]; exact I.free
  · obtain ⟨_, o, ho, _⟩ := I.ok.funs.mem hb
    exact I.base.free b o ho (I.ok.frf b hb) fun z => I.ok.exfs b z hb
theorem Inv.step {g' : Array GenState} {t' : Nat} {d' : Drawn} {ch : List Addr} (I : Inv X pins σ H s)
    (hch : ∀ b ∈ ch, (b ∈ X.ex ∨ X.s₀.heap.objs.size <= b) /\ b ≠ X.env.locals /\ (∀ x c, X.env.cells.lookup x = some c -> c ≠ b) /\ ∀ p ∈ X.pn ++ pins, p.1 ≠ b)
    (keep : ∀ b o, b ≠ X.env.locals -> b ∉ X.fs -> b ∉ ch -> s.heap.get? b = some o -> H b = none -> h'.get? b = some o)
    (slot : ∀ b o, b ≠ X.env.locals -> b ∈ X.fs -> b ∉ ch -> s.heap.get? b = some o -> H b = none -> ∃ sl, h'.get? b = some { o with slots := sl }) (free : ∀ b o, b ∉ ch -> s.heap.get? b = some o -> H b = none -> H' b = none)
    (there : ∀ b o, b ∉ ch -> s.heap.get? b = some o -> ∃ o', h'.get? b = some o')
    (tups : ∀ b xs, H b = some (.tup xs) -> H' b = some (.tup xs)) (frzs : ∀ b o u, H b = some (.frz o u) -> H' b = some (.frz o u)) (tbls : ∀ b ps, H b = some (.tbl ps) -> ∃ more, H' b = some (.tbl (ps ++ more)))
    (ns : ∀ m, s.heap.Ns X.env.locals m -> h'.Ns X.env.locals m) (hok : HOk X.prog X.w H' h') (hg : AllBare g') :
    Inv X pins σ H' { s with heap := h', gens := g', drawn := d', toks := t' } := by
  have neL : ∀ b o, X.s₀.heap.get? b = some o -> b ≠ X.env.locals := fun b o e => Nat.ne_of_lt (Nat.lt_of_lt_of_le (Heap.lt_size e) I.ok.above)
  have neC : ∀ b o, X.s₀.heap.get? b = some o -> b ∉ X.ex -> b ∉ ch := fun b o e hx hb => by
    rcases (hch b hb).1 with z | z
    · exact hx z
    · exact absurd (Nat.lt_of_lt_of_le (Heap.lt_size e) z) (Nat.lt_irrefl _)
  have cellK : ∀ x c, X.env.cells.lookup x = some c -> ∀ v, s.heap.IsCell c v -> h'.IsCell c v := fun x c e v ⟨o, ho, hd⟩ => by
    have nch : c ∉ ch := fun z => (hch c z).2.2.1 x c e rfl
    by_cases hc : c ∈ X.fs
    · obtain ⟨sl, q⟩ := slot c o (I.cne x c e) hc nch ho (I.freeC x c e)
      exact ⟨_, q, hd⟩
    · exact ⟨o, keep c o (I.cne x c e) hc nch ho (I.freeC x c e), hd⟩
  refine ⟨I.ok, I.os, hg, ⟨fun b o e n hb hx => ?_, fun b o e n hb hx => ?_, fun b o e n hx => ?_, fun b o e hx => ?_, fun b xs e => tups b xs (I.base.tups b xs e), fun b o xs e => frzs b o xs (I.base.frzs b o xs e), fun b ps e => ?_⟩, ?_, fun x c e => ?_, ?_, fun x c e => ?_, fun p hp => ?_, hok, I.len⟩
  · exact keep b o (neL b o e) hb (neC b o e hx) (I.base.keep b o e n hb hx) (I.base.free b o e n hx)
  · obtain ⟨sl, e1⟩ := I.base.slot b o e n hb hx
    obtain ⟨sl', e2⟩ := slot b _ (neL b o e) hb (neC b o e hx) e1 (I.base.free b o e n hx)
    exact ⟨sl', e2⟩
  · obtain ⟨o', e1⟩ := I.base.there b o e hx
    exact free b o' (neC b o e hx) e1 (I.base.free b o e n hx)
  · obtain ⟨o', e1⟩ := I.base.there b o e hx
    exact there b o' (neC b o e hx) e1
  · obtain ⟨m1, e1⟩ := I.base.tbls b ps e
    obtain ⟨m2, e2⟩ := tbls b _ e1
    exact ⟨m1 ++ m2, by rw [e2, Array.append_assoc]⟩
  · obtain ⟨m, hn, hl⟩ := I.loc
    refine ⟨m, ns m hn, fun i x v e1 e2 e3 => ?_⟩
    obtain ⟨u, r, l⟩ := hl i x v e1 e2 e3
    refine ⟨u, r, ?_⟩
    rcases l with l | ⟨k, c, e, z⟩
    · exact .inl l
    · exact .inr ⟨k, c, e, cellK x c e _ z⟩
  · obtain ⟨v, z⟩ := I.cell x c e
    exact ⟨v, cellK x c e v z⟩
  · obtain ⟨m, ⟨o, _, _, ho, _⟩, _⟩ := I.loc
    exact free _ o (fun z => (hch _ z).2.1 rfl) ho I.free
  · obtain ⟨v, o, ho, hd⟩ := I.cell x c e
    exact free c o (fun z => (hch c z).2.2.1 x c e rfl) ho (I.freeC x c e)
  · obtain ⟨e, n, ne, nf, d⟩ := I.pin p hp
    have nch : p.1 ∉ ch := fun z => (hch p.1 z).2.2.2 p hp rfl
    exact ⟨keep p.1 p.2 ne nf nch e n, free p.1 p.2 nch e n, ne, nf, d⟩
theorem Inv.un {t' : Nat} (I : Inv X pins σ H s) (u : Un X.fs [] H H' s.heap h') (hok : HOk X.prog X.w H' h') : Inv X pins σ H' { s with heap := h', toks := t' } := by
  obtain ⟨m, ⟨o, es, ep, ho, r⟩, _⟩ := id I.loc
  obtain ⟨sl, hL⟩ := u.any ho I.free (by simp)
  exact I.step (g' := s.gens) (d' := s.drawn) (ch := []) (fun _ z => nomatch z) (fun b o _ hb _ e n => u.keep b o e n hb (by simp)) (fun b o _ hb _ e n => u.slot b o e n hb (by simp)) (fun b o _ e n => u.free b o e n (by simp)) (fun b o _ e => u.there b o e (by simp)) u.tups u.frzs u.tbls (fun m' hm => by
    obtain ⟨o', es', ep', ho', r'⟩ := hm
    rw [ho] at ho'; cases ho'
    exact ⟨_, es', ep', hL, r'⟩) hok I.bare
theorem Inv.call {g' : Array GenState} {t' : Nat} {d' : Drawn} {ch : List Addr} (I : Inv X pins σ H s) (u : Un (frs X.stack) ch H H' s.heap h') (hok : HOk X.prog X.w H' h') (hg : AllBare g')
    (hch : ∀ b ∈ ch, (b ∈ X.ex ∨ X.s₀.heap.objs.size <= b) /\ b ≠ X.env.locals /\ (∀ x c, X.env.cells.lookup x = some c -> c ≠ b) /\ ∀ p ∈ X.pn ++ pins, p.1 ≠ b) :
    Inv X pins σ H' { s with heap := h', gens := g', drawn := d', toks := t' } := by
  obtain ⟨m, ⟨o, es, ep, ho, r⟩, _⟩ := id I.loc
  obtain ⟨sl, hL⟩ := u.any ho I.free fun z => (hch _ z).2.1 rfl
  exact I.step (ch := ch) hch (fun b o hL hb hc e n => u.keep b o e n (fun z => (List.mem_cons.mp (I.stkSub b z)).elim hL hb) hc) (fun b o _ _ hc e n => u.any e n hc) (fun b o hc e n => u.free b o e n hc) (fun b o hc e => u.there b o e hc) u.tups u.frzs u.tbls (fun m' hm => by
    obtain ⟨o', es', ep', ho', r'⟩ := hm
    rw [ho] at ho'; cases ho'
    exact ⟨_, es', ep', hL, r'⟩) hok hg
theorem Inv.turned {t' : Nat} {it : Addr} (I : Inv X pins σ H s) (k : ∀ b o, b ≠ it -> s.heap.get? b = some o -> h'.get? b = some o) (hn : H it = none) (hL : it ≠ X.env.locals)
    (h1 : it ∈ X.ex ∨ X.s₀.heap.objs.size <= it) (h2 : ∀ x c, X.env.cells.lookup x = some c -> c ≠ it) (h3 : ∀ p ∈ X.pn ++ pins, p.1 ≠ it) : Inv X pins σ H { s with heap := h', toks := t' } := by
  have nit : ∀ b u, H b = some u -> b ≠ it := fun b u e z => by rw [z, hn] at e; cases e
  refine I.step (g' := s.gens) (d' := s.drawn) (ch := [it]) (fun b hb => ?_) (fun b o _ _ hc e _ => k b o (fun z => hc (by simp [z])) e) (fun b o _ _ hc e _ => ⟨o.slots, k b o (fun z => hc (by simp [z])) e⟩) (fun _ _ _ _ n => n)
    (fun b o hc e => ⟨o, k b o (fun z => hc (by simp [z])) e⟩) (fun _ _ e => e) (fun _ _ _ e => e) (fun b ps e => ⟨#[], by rw [e]; simp⟩) (fun m hm => ?_) (fun b u e => ?_) I.bare
  · have e : b = it := by simpa using hb
    subst e
    exact ⟨h1, hL, h2, h3⟩
  · obtain ⟨o, es, ep, ho, r⟩ := hm
    exact ⟨o, es, ep, k _ o (Ne.symm hL) ho, r⟩
  · refine (I.hok b u e).stay (fun c v hc q => k c v ?_ q) (fun _ q => q) fun _ _ q => q
    rcases hc with z | z
    · rw [z]; exact nit b u e
    · exact nit c _ z
theorem Inv.tok (I : Inv X pins σ H s) (t : Nat) : Inv X pins σ H { s with toks := t } := I.un (h' := s.heap) (t' := t) Un.refl I.hok
theorem Inv.kept {t' : Nat} (I : Inv X pins σ H s) (k : ∀ b u, s.heap.get? b = some u -> h'.get? b = some u) : Inv X pins σ H { s with heap := h', toks := t' } := I.un (Un.kept k) (I.hok.kept k)
theorem Inv.laid {a : Addr} {o : HO} {t' : Nat} (I : Inv X pins σ H s) (k : ∀ b u, s.heap.get? b = some u -> h'.get? b = some u) (hp : s.heap.objs.size <= a) (new : Z2 X.prog X.w (upd H a o) h' a o) :
    Inv X pins σ (upd H a o) { s with heap := h', toks := t' } := I.un (Un.laid k hp (I.hok.fresh hp)) (I.hok.laid k hp new)
theorem Inv.write {x e : Addr} {o : HO} {t' : Nat} (I : Inv X pins σ H s) (mu : Mut (H x)) (he : e = x ∨ H e = some (.own x)) (k : ∀ b u, b ≠ e -> s.heap.get? b = some u -> h'.get? b = some u) (heo : ∃ u, h'.get? e = some u)
    (new : Z2 X.prog X.w (upd H x o) h' x o) : Inv X pins σ (upd H x o) { s with heap := h', toks := t' } := I.un (Un.write mu he k heo) (I.hok.write mu he k heo new)
theorem Inv.weak {σ' : List (Option V)} (I : Inv X pins σ H s) (hl : σ'.length = σ.length) (w : ∀ (i : Nat) v, σ'[i]? = some (some v) -> σ[i]? = some (some v)) : Inv X pins σ' H s :=
  ⟨I.ok, I.os, I.bare, I.base, let ⟨m, hn, hl'⟩ := I.loc; ⟨m, hn, fun i x v e1 e2 e3 => hl' i x v e1 (w i v e2) e3⟩, I.cell, I.free, I.freeC, I.pin, I.hok, hl.trans I.len⟩
theorem Inv.pins_of {pins' : List (Addr × Obj)} (I : Inv X pins σ H s) (h : ∀ p ∈ pins', s.heap.get? p.1 = some p.2 /\ H p.1 = none /\ p.1 ≠ X.env.locals /\ p.1 ∉ X.fs /\ ∀ v, p.2.data ≠ .cell v) : Inv X pins' σ H s :=
  ⟨I.ok, I.os, I.bare, I.base, I.loc, I.cell, I.free, I.freeC, fun p hp => (List.mem_append.mp hp).elim (fun z => I.pin p (List.mem_append_left _ z)) (h p), I.hok, I.len⟩
theorem nodup_ix {N : List Str} (hN : N.Nodup) {i j : Nat} {x : Str} (a : N[i]? = some x) (b : N[j]? = some x) : i = j := by
  obtain ⟨h1, e1⟩ := List.getElem?_eq_some_iff.mp a
  obtain ⟨h2, e2⟩ := List.getElem?_eq_some_iff.mp b
  exact (List.getElem_inj hN).mp (e1.trans e2.symm)
theorem JD {M : Model} {A : Around} {E : Value -> Shared -> Prop} {i : Nat} {x : Str} {v : V} {u : Value} {Q : Unit -> Shared -> Prop} (I : Inv X pins σ H s) (hN : X.N.Nodup) (hi : X.N[i]? = some x) (hx : Loc X.env.scope x) (r : RelV v u)
    (h : ∀ s', Inv X pins (σ.set i (some v)) H s' -> (∃ a, Heap.SameBut a s.heap s'.heap /\ (a = X.env.locals ∨ X.env.cells.lookup x = some a)) -> Q () s') (hf : X.fn x = true ∨ X.env.scope.names.lookup x = some .local := by first | exact .inl rfl | exact .inr rfl | assumption) : wpAny M A (storeName X.env x u) Q E s := by
  obtain ⟨m, hn, hl⟩ := id I.loc
  have hcls : (X.env.scope.kind == .class || (X.env.scope.kind == .module && X.env.locals != X.env.globals)) = false := by rw [I.ok.kind]; rfl
  have hiσ : i < σ.length := by rw [I.len]; exact (List.getElem?_eq_some_iff.mp hi).1
  have cne := I.cne
  have tracked : ∀ {a : Addr} {h' : Heap}, (∃ o, s.heap.get? a = some o /\ H a = none) -> Heap.SameBut a s.heap h' -> HOk X.prog X.w H h' := fun {a h'} ha hs b ob e => by
    obtain ⟨_, _, hfree⟩ := ha
    refine (I.hok b ob e).stay (fun c w' hc q => (hs.2 c ?_).trans q) (fun _ q => q) fun _ _ q => q
    rintro rfl
    rcases hc with rfl | hc
    · rw [hfree] at e; cases e
    · rw [hfree] at hc; cases hc
  rcases hx with hk | hk
  · refine wpAny_storeName_local hk hn (fun h' hn' hs => ?_) hcls
    obtain ⟨oL, _, _, hoL, _⟩ := id hn
    refine h _ ⟨I.ok, I.os, I.bare, ⟨fun b o e n hb hx => ?_, fun b o e n hb hx => ?_, I.base.free, fun b o e hx => ?_, I.base.tups, I.base.frzs, I.base.tbls⟩, ⟨_, hn', fun j y v' e1 e2 e3 => ?_⟩, fun y c e => ?_, I.free, I.freeC, fun p hp => ?_, tracked ⟨oL, hoL, I.free⟩ hs, by simpa using I.len⟩ ⟨_, hs, .inl rfl⟩
    · exact (hs.2 b (Nat.ne_of_lt (Nat.lt_of_lt_of_le (Heap.lt_size e) I.ok.above))).trans (I.base.keep b o e n hb hx)
    · obtain ⟨sl, e1⟩ := I.base.slot b o e n hb hx
      exact ⟨sl, (hs.2 b (Nat.ne_of_lt (Nat.lt_of_lt_of_le (Heap.lt_size e) I.ok.above))).trans e1⟩
    · obtain ⟨o', e1⟩ := I.base.there b o e hx
      exact ⟨o', (hs.2 b (Nat.ne_of_lt (Nat.lt_of_lt_of_le (Heap.lt_size e) I.ok.above))).trans e1⟩
    · by_cases hj : j = i
      · subst hj
        rw [hi] at e1; cases e1
        rw [List.getElem?_set_self hiσ] at e2
        cases e2
        exact ⟨u, r, .inl ⟨hk, by simp⟩⟩
      · rw [List.getElem?_set_ne (Ne.symm hj)] at e2
        obtain ⟨u', r', q⟩ := hl j y v' e1 e2 e3
        refine ⟨u', r', ?_⟩
        rcases q with ⟨k, e⟩ | ⟨k, c, e, z⟩
        · refine .inl ⟨k, ?_⟩
          have : y ≠ x := fun e => hj (nodup_ix hN e1 (e ▸ hi))
          simp [this, e]
        · exact .inr ⟨k, c, e, z.sameBut hs (cne y c e)⟩
    · obtain ⟨w', z⟩ := I.cell y c e
      exact ⟨w', z.sameBut hs (cne y c e)⟩
    · obtain ⟨e, n, ne, nf, d⟩ := I.pin p hp
      exact ⟨(hs.2 p.1 ne).trans e, n, ne, nf, d⟩
  · have hfn : X.fn x = true := by
      rcases hf with z | z
      · exact z
      · rw [z] at hk; cases hk
    obtain ⟨c, hc⟩ := I.ok.has x (.inl hk)
    obtain ⟨w', z⟩ := I.cell x c hc
    refine wpAny_storeName_cell I.ok.kind hk hc z (fun h' hc' hs => ?_)
    obtain ⟨oc, hoc, hocd⟩ := id z
    refine h { s with heap := h' } ⟨I.ok, I.os, I.bare, ⟨fun b o e n hb hx => ?_, fun b o e n hb hx => ?_, I.base.free, fun b o e hx => ?_, I.base.tups, I.base.frzs, I.base.tbls⟩, ⟨m, hn.sameBut hs (Ne.symm (cne x c hc)), fun j y v' e1 e2 e3 => ?_⟩, fun y c' e => ?_, I.free, I.freeC, fun p hp => ?_, tracked ⟨oc, hoc, I.freeC x c hc⟩ hs, by simpa using I.len⟩ ⟨c, hs, .inr hc⟩
    · exact (hs.2 b (Nat.ne_of_lt (Nat.lt_of_lt_of_le (Heap.lt_size e) (I.ok.cab x c hfn hc)))).trans (I.base.keep b o e n hb hx)
    · obtain ⟨sl, e1⟩ := I.base.slot b o e n hb hx
      exact ⟨sl, (hs.2 b (Nat.ne_of_lt (Nat.lt_of_lt_of_le (Heap.lt_size e) (I.ok.cab x c hfn hc)))).trans e1⟩
    · obtain ⟨o', e1⟩ := I.base.there b o e hx
      exact ⟨o', (hs.2 b (Nat.ne_of_lt (Nat.lt_of_lt_of_le (Heap.lt_size e) (I.ok.cab x c hfn hc)))).trans e1⟩
    · by_cases hj : j = i
      · subst hj
        rw [hi] at e1; cases e1
        rw [List.getElem?_set_self hiσ] at e2
        cases e2
        exact ⟨u, r, .inr ⟨.inl hk, c, hc, hc'⟩⟩
      · rw [List.getElem?_set_ne (Ne.symm hj)] at e2
        obtain ⟨u', r', q⟩ := hl j y v' e1 e2 e3
        refine ⟨u', r', ?_⟩
        rcases q with q | ⟨k, c', e, z'⟩
        · exact .inl q
        · refine .inr ⟨k, c', e, z'.sameBut hs ?_⟩
          rintro rfl
          exact hj (nodup_ix hN e1 (I.ok.inj _ _ _ e hc ▸ hi))
    · by_cases hcc : c' = c
      · subst hcc; exact ⟨_, hc'⟩
      · obtain ⟨w2, z2⟩ := I.cell y c' e
        exact ⟨w2, z2.sameBut hs hcc⟩
    · obtain ⟨e, n, ne, nf, d⟩ := I.pin p hp
      refine ⟨(hs.2 p.1 ?_).trans e, n, ne, nf, d⟩
      intro q
      rw [q, hoc] at e
      have q' : oc = p.2 := Option.some.inj e
      exact d w' (by rw [<- q']; exact hocd)
theorem store_ok {M : Model} {A : Around} {E : Value -> Shared -> Prop} {i : Nat} {x : Str} {v : V} {u : Value} {Q : Unit -> Shared -> Prop} (I : Inv X pins σ H s) (hN : X.N.Nodup) (hi : X.N[i]? = some x) (hx : Loc X.env.scope x) (r : RelV v u)
    (h : ∀ s', Inv X pins (σ.set i (some v)) H s' -> Q () s') (hf : X.fn x = true ∨ X.env.scope.names.lookup x = some .local := by first | exact .inl rfl | exact .inr rfl | assumption) : wpAny M A (storeName X.env x u) Q E s :=
  JD I hN hi hx r (fun s' I' _ => h s' I') hf
theorem Inv.call' {s' : Shared} {ch : List Addr} (I : Inv X pins σ H s) (ho : s'.os = s.os) (u : Un (frs X.stack) ch H H' s.heap s'.heap) (hok : HOk X.prog X.w H' s'.heap) (hg : AllBare s'.gens)
    (hch : ∀ b ∈ ch, (b ∈ X.ex ∨ X.s₀.heap.objs.size <= b) /\ b ≠ X.env.locals /\ (∀ x c, X.env.cells.lookup x = some c -> c ≠ b) /\ ∀ p ∈ X.pn ++ pins, p.1 ≠ b) : Inv X pins σ H' s' := by
  obtain ⟨h', g', d', t', o'⟩ := s'
  have e : o' = s.os := ho
  subst e
  exact I.call (g' := g') (t' := t') (d' := d') u hok hg hch
end
abbrev XK := Value -> Option Addr -> Hp -> Prop
abbrev St := List (Option V)
abbrev VK := V -> Hp -> Prop
abbrev TE := St -> Hp -> VK -> Prop
abbrev TT := St -> Hp -> (Bool -> Hp -> Prop) -> Prop
abbrev TA := St -> Hp -> (List V -> Hp -> Prop) -> Prop
structure Ends where
  nx : St -> Hp -> Prop
  rt : VK
  bk : St -> Hp -> Prop := fun _ _ => False
  ct : St -> Hp -> Prop := fun _ _ => False
abbrev TS := Ends -> St -> Hp -> Prop
def EP (X : Cx) (pins : List (Addr × Obj)) (σ : St) (Q : VK) (u : Value) (s' : Shared) : Prop := ∃ v H', Inv X pins σ H' s' /\ RelV v u /\ Q v H'
def TP (X : Cx) (pins : List (Addr × Obj)) (σ : St) (Q : Bool -> Hp -> Prop) (b : Bool) (s' : Shared) : Prop := ∃ H', Inv X pins σ H' s' /\ Q b H'
def AP (X : Cx) (pins : List (Addr × Obj)) (σ : St) (Q : List V -> Hp -> Prop) (us : List Value) (s' : Shared) : Prop := ∃ vs H', Inv X pins σ H' s' /\ Vals vs us /\ Q vs H'
def SP (X : Cx) (pins : List (Addr × Obj)) (D : Ends) (f : Flow) (s' : Shared) : Prop :=
  match f with
  | .next => ∃ σ' H', Inv X pins σ' H' s' /\ D.nx σ' H'
  | .brk => ∃ σ' H', Inv X pins σ' H' s' /\ D.bk σ' H'
  | .cont => ∃ σ' H', Inv X pins σ' H' s' /\ D.ct σ' H'
  | .ret u => ∃ v σ' H', Inv X pins σ' H' s' /\ RelV v u /\ D.rt v H'
def PE (X : Cx) (e : Expr) (t : TE) : Prop :=
  ∀ (pins : List (Addr × Obj)) (s : Shared) (σ : St) (H : Hp) (Q : VK), Inv X pins σ H s -> t σ H Q -> wpAny (model X.prog X.w) X.A (eval e X.env) (EP X pins σ Q) X.xe s
def PT (X : Cx) (e : Expr) (t : TT) : Prop :=
  ∀ (pins : List (Addr × Obj)) (s : Shared) (σ : St) (H : Hp) (Q : Bool -> Hp -> Prop), Inv X pins σ H s -> t σ H Q -> wpAny (model X.prog X.w) X.A (isTrue e X.env (eval e X.env)) (TP X pins σ Q) X.xe s
def PW (X : Cx) (e : Expr) (t : TT) : Prop :=
  ∀ (whole : Sem Value) (pins : List (Addr × Obj)) (s : Shared) (σ : St) (H : Hp) (Q : Bool -> Hp -> Prop), Inv X pins σ H s -> t σ H Q -> wpAny (model X.prog X.w) X.A (isTrue e X.env whole) (TP X pins σ Q) X.xe s
theorem PW.pt {X : Cx} {e : Expr} {t : TT} (h : PW X e t) : PT X e t := h _
def PA (X : Cx) (es : List Expr) (t : TA) : Prop :=
  ∀ (pos : Pos) (pins : List (Addr × Obj)) (s : Shared) (σ : St) (H : Hp) (Q : List V -> Hp -> Prop), Inv X pins σ H s -> t σ H Q -> wpAny (model X.prog X.w) X.A (spliced (backTo pos (starEach es X.env))) (AP X pins σ Q) X.xe s
def PS (X : Cx) (st : Stmt) (t : TS) : Prop :=
  ∀ (pins : List (Addr × Obj)) (s : Shared) (σ : St) (H : Hp) (D : Ends), Inv X pins σ H s -> t D σ H -> wpAny (model X.prog X.w) X.A (exec st X.env) (SP X pins D) X.xe s
def PSs (X : Cx) (st : List Stmt) (t : TS) : Prop :=
  ∀ (pins : List (Addr × Obj)) (s : Shared) (σ : St) (H : Hp) (D : Ends), Inv X pins σ H s -> t D σ H -> wpAny (model X.prog X.w) X.A (execs st X.env) (SP X pins D) X.xe s
theorem thn {α : Type} {t : Sem α} {Q Q' : α -> Shared -> Prop} {M : Model} {A : Around} {E : Value -> Shared -> Prop} {s : Shared} (h : wpAny M A t Q E s) (hQ : ∀ a s, Q a s -> Q' a s) : wpAny M A t Q' E s := wpAny_mono h hQ fun _ _ x => x
end L2
namespace L2
open PySem PySem.Spec PyProof.Rows
section
variable {X : Cx}
theorem bin {a b : Expr} {ta tb : TE} (ha : PE X a ta) (hb : PE X b tb) {pins : List (Addr × Obj)} {s : Shared} {σ : St} {H : Hp} {R : V -> V -> Hp -> Prop} (I : Inv X pins σ H s) (h : ta σ H fun x H1 => tb σ H1 fun y H2 => R x y H2)
    {α : Type} {Q : α -> Shared -> Prop} {f : Value -> Value -> Sem α}
    (hf : ∀ v u s2 x y H2, Inv X pins σ H2 s2 -> RelV x v -> RelV y u -> R x y H2 -> wpAny (model X.prog X.w) X.A (f v u) Q X.xe s2) :
    wpAny (model X.prog X.w) X.A (eval a X.env) (fun v s₁ => wpAny (model X.prog X.w) X.A (eval b X.env) (fun u s₂ => wpAny (model X.prog X.w) X.A (f v u) Q X.xe s₂) X.xe s₁) X.xe s := by
  refine thn (ha pins s σ H _ I h) fun v s1 ⟨x, H1, I1, r1, q1⟩ => ?_
  refine thn (hb pins s1 σ H1 _ I1 q1) fun u s2 ⟨y, H2, I2, r2, q2⟩ => ?_
  exact hf v u s2 x y H2 I2 r1 r2 q2
def tVar (i : Nat) : TE := fun σ H Q => ∃ v, σ[i]? = some (some v) /\ Q v H
def tC (v : V) : TE := fun _ H Q => Q v H
theorem pe_var {i : Nat} {x : Str} {pos : Pos} (hN : X.N[i]? = some x) (hv : Vis X.env.scope x) (hd : (x == ("__debug__" : Str)) = false := by decide) (hcd : (x == ("__classdict__" : Str)) = false := by decide) : PE X (.Name x pos) (tVar i) := by
  intro pins s σ H Q I h
  obtain ⟨v, e, h⟩ := h
  obtain ⟨m, hn, hl⟩ := I.loc
  obtain ⟨u, r, l⟩ := hl i x v hN e hv
  have fin : EP X pins σ Q u s := ⟨v, H, I, r, h⟩
  rcases l with ⟨hk, hm⟩ | ⟨hk, c, hc, hcell⟩
  · exact wpAny_Name (wpAny_loadName_local I.ok.kind hk hn hm fin) hd
  · rcases hk with hk | hk
    · exact wpAny_Name (wpAny_loadName_cell I.ok.kind hk hc hcell fin) hd
    · exact wpAny_Name (wpAny_loadName_free I.ok.kind hk hc hcell fin hcd) hd
theorem ZH {i j pos} : PE X (.Constant (.int i) j pos) (tC (.int i)) := fun _ _ _ H _ I h => wpAny_Constant_int ⟨.int i, H, I.tok _, ⟨_, rfl⟩, h⟩
theorem pe_bl {b j pos} : PE X (.Constant (.bool b) j pos) (tC (.bl b)) := fun _ _ _ H _ I h => Constant_bool ⟨.bl b, H, I, rfl, h⟩
theorem pe_non {j pos} : PE X (.Constant .none j pos) (tC .non) := fun _ _ _ H _ I h => Constant_none ⟨.non, H, I, rfl, h⟩
theorem ZX {x j pos} : PE X (.Constant (.str x) j pos) (tC (.str x)) := fun _ _ _ H _ I h => Calls.Constant_str ⟨.str x, H, I.tok _, ⟨_, rfl⟩, h⟩
def Gl (X : Cx) (x : Str) : Prop := X.env.kindOf x = some .globalImplicit
theorem ld_glob {E : Value -> Shared -> Prop} {pins : List (Addr × Obj)} {s : Shared} {σ : St} {H : Hp} {x : Str} {u : Value} {pos : Pos} {Q : Value -> Shared -> Prop} (I : Inv X pins σ H s) (hg : Gl X x) (hm : X.mg x = some u) (h : Q u s)
    (hd : (x == ("__debug__" : Str)) = false := by decide) : wpAny (model X.prog X.w) X.A (eval (.Name x pos) X.env) Q E s :=
  Calls.Name_function_global I.ok.kind hg (Calls.loadGlobal_global (by rw [I.ok.glob]; exact I.mod.glob.keeps I.bk) hm h) hd
theorem Va {E : Value -> Shared -> Prop} {pins : List (Addr × Obj)} {s : Shared} {σ : St} {H : Hp} {x : Str} {u : Value} {pos : Pos} {Q : Value -> Shared -> Prop} (I : Inv X pins σ H s) (hg : Gl X x) (hm : X.mg x = none) (hv : bootBuiltins x = some u) (h : Q u s)
    (hn : x ≠ "__name__" := by decide) (hd : (x == ("__debug__" : Str)) = false := by decide) : wpAny (model X.prog X.w) X.A (eval (.Name x pos) X.env) Q E s := by
  obtain ⟨mb, h1, h2⟩ := I.mod.blt
  exact Calls.Name_function_global I.ok.kind hg (Calls.loadGlobal_builtin (by rw [I.ok.glob]; exact I.mod.glob.keeps I.bk) hm (by rw [I.ok.blt]; exact h1.keeps I.bk) ((h2 x hn).trans hv) h) hd
theorem pe_bltn {x : Str} {v : V} {u : Value} {pos : Pos} (hg : Gl X x) (hm : X.mg x = none) (hv : bootBuiltins x = some u) (r : RelV v u) (hn : x ≠ "__name__" := by decide) (hd : (x == ("__debug__" : Str)) = false := by decide) : PE X (.Name x pos) (tC v) :=
  fun _ _ _ H _ I h => Va I hg hm hv ⟨v, H, I, r, h⟩ hn hd
variable {a b : Expr} {ta tb : TE} {pos : Pos}
def PC (X : Cx) (op : CmpOp) (a b : Expr) (t : TE) : Prop :=
  ∀ (pins : List (Addr × Obj)) (s : Shared) (σ : St) (H : Hp) (Q : VK), Inv X pins σ H s -> t σ H Q ->
    wpAny (model X.prog X.w) X.A (eval a X.env) (fun v s₁ => wpAny (model X.prog X.w) X.A (eval b X.env) (fun u s₂ => wpAny (model X.prog X.w) X.A (compareOp op v u) (EP X pins σ Q) X.xe s₂) X.xe s₁) X.xe s
def tB (t : TE) : TT := fun σ H Q => t σ H fun x H1 => ∃ c, x = .bl c /\ Q c H1
theorem pt_cmp {op : CmpOp} {t : TE} (h : PC X op a b t) (h1 : behindInMarks op b = false := by first | exact nobehind _ (by decide) (by decide) | rfl) : PT X (.Compare a [op] [b] pos) (tB t) := by
  intro pins s σ H Q I hw
  refine wpAny_isTrue_Compare1 (thn (h pins s σ H _ I hw) fun v s1 h1 => thn h1 fun u s2 h2 => thn h2 fun c s3 ⟨x, H1, I1, r1, q1⟩ => ?_) h1
  obtain ⟨d, rfl, q⟩ := q1
  cases r1
  exact wpAny_truthy_bool ⟨H1, I1, q⟩
theorem YV {e : Expr} {t : TE} (h : PE X e t) (he : ∀ whole, isTrue e X.env whole = (do let v <- whole; standAt e.pos; holding [v] (truthy v)) := by intro _; rfl) : PT X e (tB t) := by
  intro pins s σ H Q I hw
  refine isTrue_plain (thn (h pins s σ H _ I hw) fun v s1 ⟨x, H1, I1, r1, q1⟩ => ?_) (he _)
  obtain ⟨d, rfl, q⟩ := q1
  cases r1
  exact wpAny_truthy_bool ⟨H1, I1, q⟩
variable {tA tB' : TT} {rest : List Expr}
def tAnd (t u : TT) : TT := fun σ H Q => t σ H fun c H1 => if c = true then u σ H1 Q else Q false H1
def tOr (t u : TT) : TT := fun σ H Q => t σ H fun c H1 => if c = true then Q true H1 else u σ H1 Q
def tNot (t : TT) : TT := fun σ H Q => t σ H fun c H1 => Q (!c) H1
theorem VM (ha : PT X a tA) : PW X (.BoolOp .And [a] pos) tA := by
  intro wh pins s σ H Q I h
  refine isTrue_and (thn (ha pins s σ H Q I h) fun c s1 e => ?_)
  cases c with
  | true => exact isTrue_and_nil e
  | false => exact e
theorem Vt (ha : PT X a tA) : PW X (.BoolOp .Or [a] pos) tA := by
  intro wh pins s σ H Q I h
  refine isTrue_or (thn (ha pins s σ H Q I h) fun c s1 e => ?_)
  cases c with
  | false => exact isTrue_or_nil e
  | true => exact e
theorem Vu (ha : PT X a tA) (hb : PW X (.BoolOp .And (b :: rest) pos) tB') : PW X (.BoolOp .And (a :: b :: rest) pos) (tAnd tA tB') := by
  intro wh pins s σ H Q I h
  refine isTrue_and (thn (ha pins s σ H _ I h) fun c s1 ⟨H1, I1, q1⟩ => ?_)
  cases c with
  | true => exact hb wh pins s1 σ H1 Q I1 q1
  | false => exact ⟨H1, I1, q1⟩
theorem V9 (ha : PT X a tA) (hb : PW X (.BoolOp .Or (b :: rest) pos) tB') : PW X (.BoolOp .Or (a :: b :: rest) pos) (tOr tA tB') := by
  intro wh pins s σ H Q I h
  refine isTrue_or (thn (ha pins s σ H _ I h) fun c s1 ⟨H1, I1, q1⟩ => ?_)
  cases c with
  | true => exact ⟨H1, I1, q1⟩
  | false => exact hb wh pins s1 σ H1 Q I1 q1
theorem VW (ha : PT X a tA) : PT X (.UnaryOp .Not a pos) (tNot tA) := by
  intro pins s σ H Q I h
  exact isTrue_not (ha pins s σ H (fun c H1 => Q (!c) H1) I h)
def tAndV (ta tb : TE) : TE := fun σ H Q => ta σ H fun x H1 => ∃ c, x = .bl c /\ if c = true then tb σ H1 Q else Q (.bl false) H1
def tOrV (ta tb : TE) : TE := fun σ H Q => ta σ H fun x H1 => ∃ c, x = .bl c /\ if c = true then Q (.bl true) H1 else tb σ H1 Q
def tNotV (ta : TE) : TE := fun σ H Q => ta σ H fun x H1 => ∃ c, x = .bl c /\ Q (.bl (!c)) H1
theorem pe_one {op} {t : TE} (h : PE X a t) : PE X (.BoolOp op [a] pos) t := fun pins s σ H Q I hw => BoolOp_one (h pins s σ H Q I hw)
theorem pe_and (ha : PE X a ta) (hb : PE X (.BoolOp .And (b :: rest) pos) tb) : PE X (.BoolOp .And (a :: b :: rest) pos) (tAndV ta tb) := by
  intro pins s σ H Q I h
  refine BoolOp_and (thn (ha pins s σ H _ I h) fun v s1 ⟨x, H1, I1, r1, q1⟩ => ?_)
  obtain ⟨c, rfl, q1⟩ := q1
  cases r1
  refine wpAny_truthy_bool ?_
  cases c with
  | true => exact hb pins s1 σ H1 Q I1 q1
  | false => exact ⟨.bl false, H1, I1, rfl, q1⟩
theorem pe_or (ha : PE X a ta) (hb : PE X (.BoolOp .Or (b :: rest) pos) tb) : PE X (.BoolOp .Or (a :: b :: rest) pos) (tOrV ta tb) := by
  intro pins s σ H Q I h
  refine BoolOp_or (thn (ha pins s σ H _ I h) fun v s1 ⟨x, H1, I1, r1, q1⟩ => ?_)
  obtain ⟨c, rfl, q1⟩ := q1
  cases r1
  refine wpAny_truthy_bool ?_
  cases c with
  | false => exact hb pins s1 σ H1 Q I1 q1
  | true => exact ⟨.bl true, H1, I1, rfl, q1⟩
theorem pe_not (ha : PE X a ta) : PE X (.UnaryOp .Not a pos) (tNotV ta) := by
  intro pins s σ H Q I h
  refine UnaryOp_ (thn (ha pins s σ H _ I h) fun v s1 ⟨x, H1, I1, r1, q1⟩ => ?_)
  obtain ⟨c, rfl, q1⟩ := q1
  cases r1
  exact not_of (wpAny_truthy_bool ⟨.bl (!c), H1, I1, rfl, q1⟩)
end
end L2
namespace L2
open PySem PySem.Spec PyProof.Rows
def SqL (K : PySem.W.Frag) (H : Hp) (a : Addr) (xs : List V) : Prop :=
  Rd H a (.lst xs) ∨
    ∃ (o : Obj) (its : Array Value) (n : Nat), K.lookup a = some o /\ o.cls = .type "list" /\ o.dict = none /\ o.data = .seq its n /\ its.size <= sizeLine /\ Vals xs its.toList
def SqT (K : PySem.W.Frag) (H : Hp) (a : Addr) (xs : List V) : Prop :=
  Rd H a (.tup xs) ∨
    ∃ (o : Obj) (its : Array Value) (n : Nat), K.lookup a = some o /\ o.cls = .type "tuple" /\ o.data = .seq its n /\ its.size <= sizeLine /\ Vals xs its.toList
def absV : Value -> Option V
  | .none => some .non
  | .bool b => some (.bl b)
  | .int i _ => some (.int i)
  | .str x _ => some (.str x)
  | .bytes b _ => some (.byt b)
  | .float b _ => some (.flt b)
  | .ref a => some (.ref a)
  | .type n => some (.ty n)
  | _ => none
theorem RelV.abs {x : V} {u : Value} (r : RelV x u) : absV u = some x := by
  cases x with
  | non => cases r; rfl
  | bl _ => cases r; rfl
  | int _ => obtain ⟨t, rfl⟩ := r; rfl
  | str _ => obtain ⟨t, rfl⟩ := r; rfl
  | byt _ => obtain ⟨t, rfl⟩ := r; rfl
  | flt _ => obtain ⟨t, rfl⟩ := r; rfl
  | ref _ => cases r; rfl
  | ty _ => cases r; rfl
theorem RelV.inj {x y : V} {u : Value} (r : RelV x u) (q : RelV y u) : x = y := Option.some.inj (r.abs.symm.trans q.abs)
theorem Vals.inj : ∀ {xs ys : List V} {us : List Value}, Vals xs us -> Vals ys us -> xs = ys
  | _, _, _, .nil, .nil => rfl
  | _, _, _, .cons r t, .cons r' t' => by rw [r.inj r', Vals.inj t t']
section
variable {X : Cx} {pins : List (Addr × Obj)} {σ : St} {H : Hp} {s : Shared} {a : Addr} {xs ys : List V}
theorem SqL.of {K : PySem.W.Frag} (h : H a = some (.lst xs)) : SqL K H a xs := .inl (.inl h)
theorem SqT.of {K : PySem.W.Frag} (h : H a = some (.tup xs)) : SqT K H a xs := .inl (.inl h)
theorem Inv.list (I : Inv X pins σ H s) (h : SqL X.K H a xs) : ∃ its : List Value, Vals xs its /\ PlainL s.heap a its.toArray /\ xs.length <= sizeLine := by
  rcases h with h | ⟨o, its, n, hk, hc, hd, hs, hz, r⟩
  · obtain ⟨z, its, n, r, e⟩ := h.ok I.hok
    exact ⟨its, r, ⟨_, n, e, rfl, rfl, rfl⟩, z⟩
  · refine ⟨its.toList, r, ⟨o, n, I.kIn a o hk, hc, hd, by simpa using hs⟩, ?_⟩
    have e := r.length
    simp only [Array.length_toList] at e
    omega
theorem Inv.tuple (I : Inv X pins σ H s) (h : SqT X.K H a xs) : ∃ its : List Value, Vals xs its /\ IsTup s.heap a its.toArray /\ xs.length <= sizeLine := by
  rcases h with h | ⟨o, its, n, hk, hc, hs, hz, r⟩
  · obtain ⟨z, its, r, p⟩ := h.ok I.hok
    exact ⟨its, r, p.is, z⟩
  · refine ⟨its.toList, r, ⟨o, I.kIn a o hk, hc, n, by simpa using hs⟩, ?_⟩
    have e := r.length
    simp only [Array.length_toList] at e
    omega
theorem Inv.list_inj (I : Inv X pins σ H s) (h : SqL X.K H a xs) (h' : SqL X.K H a ys) : xs = ys := by
  obtain ⟨its, r, ⟨o, n, e, _, _, d⟩, _⟩ := I.list h
  obtain ⟨its', r', ⟨o', n', e', _, _, d'⟩, _⟩ := I.list h'
  rw [e] at e'; cases e'
  rw [d] at d'
  injection d' with d1 _
  have : its = its' := by simpa using congrArg Array.toList d1
  subst this
  exact r.inj r'
theorem Inv.tuple_inj (I : Inv X pins σ H s) (h : SqT X.K H a xs) (h' : SqT X.K H a ys) : xs = ys := by
  obtain ⟨its, r, ⟨o, e, _, n, d⟩, _⟩ := I.tuple h
  obtain ⟨its', r', ⟨o', e', _, n', d'⟩, _⟩ := I.tuple h'
  rw [e] at e'; cases e'
  rw [d] at d'
  injection d' with d1 _
  have : its = its' := by simpa using congrArg Array.toList d1
  subst this
  exact r.inj r'
end
abbrev Cx.wish (X : Cx) (E : Value -> Shared -> Prop) : Cx := { X with xe := E }
abbrev Cx.nox (X : Cx) : Cx := X.wish fun _ _ => False
theorem Cx.Ok.wish {X : Cx} (ok : X.Ok) (E : Value -> Shared -> Prop) : (X.wish E).Ok :=
  ⟨ok.mod, ok.kind, ok.glob, ok.blt, ok.above, ok.inj, ok.has, ok.cab, ok.hd, ok.frames, ok.stk, ok.exf, ok.bs, ok.bsz, ok.noex, ok.exfs, ok.funs, ok.frf⟩
theorem Cx.Ok.unwish {X : Cx} {E : Value -> Shared -> Prop} (ok : (X.wish E).Ok) : X.Ok :=
  ⟨ok.mod, ok.kind, ok.glob, ok.blt, ok.above, ok.inj, ok.has, ok.cab, ok.hd, ok.frames, ok.stk, ok.exf, ok.bs, ok.bsz, ok.noex, ok.exfs, ok.funs, ok.frf⟩
section
variable {X : Cx} {pins : List (Addr × Obj)} {σ : St} {H : Hp} {s : Shared} {E : Value -> Shared -> Prop}
theorem Inv.wish (I : Inv X pins σ H s) (E : Value -> Shared -> Prop) : Inv (X.wish E) pins σ H s := ⟨I.ok.wish E, I.os, I.bare, I.base, I.loc, I.cell, I.free, I.freeC, I.pin, I.hok, I.len⟩
theorem Inv.unwish (I : Inv (X.wish E) pins σ H s) : Inv X pins σ H s := ⟨I.ok.unwish, I.os, I.bare, I.base, I.loc, I.cell, I.free, I.freeC, I.pin, I.hok, I.len⟩
theorem SP.unwish {D : Ends} {f : Flow} {s' : Shared} (h : SP (X.wish E) pins D f s') : SP X pins D f s' := by
  cases f with
  | next => obtain ⟨σ', H', I, q⟩ := h; exact ⟨σ', H', I.unwish, q⟩
  | brk => obtain ⟨σ', H', I, q⟩ := h; exact ⟨σ', H', I.unwish, q⟩
  | cont => obtain ⟨σ', H', I, q⟩ := h; exact ⟨σ', H', I.unwish, q⟩
  | ret u => obtain ⟨v, σ', H', I, r, q⟩ := h; exact ⟨v, σ', H', I.unwish, r, q⟩
theorem PSs.nox {st : List Stmt} {t : TS} (h : PSs X.nox st t) : PSs X st t := fun pins s σ H D I hw =>
  wpAny_mono (h pins s σ H D (I.wish _) hw) (fun _ _ q => q.unwish) fun _ _ z => False.elim z
end
section
variable {X : Cx} {st : Stmt} {rest : List Stmt} {t u : TS} {e : Expr} {te : TE} {pos : Pos}
def tNext : TS := fun D σ H => D.nx σ H
def Jf (t u : TS) : TS := fun D σ H => t { D with nx := u D } σ H
theorem Zb : PSs X [] tNext := fun _ _ σ H _ I h => wpAny_execs_nil ⟨σ, H, I, h⟩
theorem ZG (h1 : PS X st t) (h2 : PSs X rest u) : PSs X (st :: rest) (Jf t u) := by
  intro pins s σ H D I h
  refine wpAny_execs_cons (thn (h1 pins s σ H { D with nx := u D } I h) fun f s1 q => ?_)
  cases f with
  | next =>
    obtain ⟨σ', H', I', q⟩ := q
    exact h2 pins s1 σ' H' D I' q
  | ret v => exact q
  | brk => exact q
  | cont => exact q
theorem ZL (h1 : PS X st t) : PSs X [st] t := by
  intro pins s σ H D I h
  refine wpAny_execs_cons (thn (h1 pins s σ H D I h) fun f s1 q => ?_)
  cases f with
  | next => exact wpAny_execs_nil q
  | ret v => exact q
  | brk => exact q
  | cont => exact q
theorem Inv.quiet {pins : List (Addr × Obj)} {σ : St} {H : Hp} {s : Shared} (I : Inv X pins σ H s) : interactive X.env = false := by simp [interactive, I.ok.kind]
def tDrop (te : TE) : TS := fun D σ H => te σ H fun _ H1 => D.nx σ H1
theorem Yn (he : PE X e te) (hs : swapsWith e none pos.line X.env = pure false := by rfl) : PS X (.Expr e pos) (tDrop te) := by
  intro pins s σ H D I h
  exact wpAny_Expr_any (thn (he pins s σ H _ I h) fun v s1 ⟨x, H1, I1, r1, q1⟩ => ⟨σ, H1, I1, q1⟩) I.quiet hs
def tRet (te : TE) : TS := fun D σ H => te σ H D.rt
theorem ZW (he : PE X e te) : PS X (.Return (some e) pos) (tRet te) := by
  intro pins s σ H D I h
  exact wpAny_Return_some (thn (he pins s σ H _ I h) fun v s1 ⟨x, H1, I1, r1, q1⟩ => ⟨x, σ, H1, I1, r1, q1⟩)
def tIfS (c : TT) (t u : TS) : TS := fun D σ H => c σ H fun b H1 => if b = true then t D σ H1 else u D σ H1
theorem Zt {c : Expr} {a b : List Stmt} {tc : TT} (hc : PT X c tc) (ha : PSs X a t) (hb : PSs X b u) : PS X (.If c a b pos) (tIfS tc t u) := by
  intro pins s σ H D I h
  refine wpAny_If (thn (hc pins s σ H _ I h) fun d s1 ⟨H1, I1, q1⟩ => ?_)
  cases d with
  | true => exact ha pins s1 σ H1 D I1 q1
  | false => exact hb pins s1 σ H1 D I1 q1
end
abbrev TG := V -> St -> Hp -> (St -> Hp -> Prop) -> Prop
abbrev TGs := List V -> St -> Hp -> (St -> Hp -> Prop) -> Prop
def PG (X : Cx) (target : Expr) (t : TG) : Prop :=
  ∀ (pins : List (Addr × Obj)) (s : Shared) (σ : St) (H : Hp) (v : V) (u : Value) (Q : St -> Hp -> Prop), Inv X pins σ H s -> RelV v u -> t v σ H Q ->
    wpAny (model X.prog X.w) X.A (assign target X.env u) (fun _ s' => ∃ σ' H', Inv X pins σ' H' s' /\ Q σ' H') X.xe s
def PGs (X : Cx) (ts : List Expr) (t : TGs) : Prop :=
  ∀ (pins : List (Addr × Obj)) (s : Shared) (σ : St) (H : Hp) (vs : List V) (us : List Value) (Q : St -> Hp -> Prop), Inv X pins σ H s -> Vals vs us -> t vs σ H Q ->
    wpAny (model X.prog X.w) X.A (assignInOrder ((assignEach ts X.env).map (·.2)) us) (fun _ s' => ∃ σ' H', Inv X pins σ' H' s' /\ Q σ' H') X.xe s
abbrev TSet := V -> V -> V -> Hp -> (Hp -> Prop) -> Prop
def PSet (X : Cx) (t : TSet) : Prop :=
  ∀ (pins : List (Addr × Obj)) (s : Shared) (σ : St) (H : Hp) (o i v : V) (ov iv u : Value) (Q : Hp -> Prop), Inv X pins σ H s -> RelV o ov -> RelV i iv -> RelV v u -> t o i v H Q ->
    wpAny (model X.prog X.w) X.A (setItem ov iv u) (fun _ s' => ∃ H', Inv X pins σ H' s' /\ Q H') X.xe s
section
variable {X : Cx} {pos : Pos}
def Y2 (i : Nat) : TG := fun v σ H Q => Q (σ.set i (some v)) H
theorem Za {i : Nat} {x : Str} (hN : X.N.Nodup) (hi : X.N[i]? = some x) (hx : Loc X.env.scope x) (hf : X.fn x = true ∨ X.env.scope.names.lookup x = some .local := by first | exact .inl rfl | exact .inr rfl | assumption) : PG X (.Name x pos) (Y2 i) := by
  intro pins s σ H v u Q I r h
  exact wpAny_assign_Name (store_ok I hN hi hx r (fun s' I' => ⟨_, H, I', h⟩) hf)
def gNil : TGs := fun vs σ H Q => vs = [] /\ Q σ H
def Ja (t : TG) (u : TGs) : TGs := fun vs σ H Q => ∃ v r, vs = v :: r /\ t v σ H fun σ' H' => u r σ' H' Q
theorem Yc : PGs X [] gNil := by
  intro pins s σ H vs us Q I r h
  obtain ⟨e, h⟩ := h
  subst e
  cases r
  exact assignInOrder_nil ⟨σ, H, I, h⟩
theorem Zr {e : Expr} {es : List Expr} {t : TG} {u : TGs} (h1 : PG X e t) (h2 : PGs X es u)
    (hs : (assignEach (e :: es) X.env).map (·.2) = assign e X.env :: (assignEach es X.env).map (·.2) := by rfl) : PGs X (e :: es) (Ja t u) := by
  intro pins s σ H vs us Q I r h
  obtain ⟨v, vr, e1, h⟩ := h
  subst e1
  cases r with
  | cons r rr =>
    rw [hs]
    refine assignInOrder_cons (thn (h1 pins s σ H _ _ _ I r h) fun _ s1 ⟨σ1, H1, I1, q1⟩ => ?_)
    exact h2 pins s1 σ1 H1 _ _ Q I1 rr q1
def gTup (K : PySem.W.Frag) (n : Nat) (t : TGs) : TG := fun v σ H Q => ∃ a xs, v = .ref a /\ SqT K H a xs /\ xs.length = n /\ t xs σ H Q
theorem Y0 {es : List Expr} {k : Nat} {t : TGs} {n : Nat} (hc : X.calm = true) (h : PGs X es t)
    (hn : (assignEach es X.env).length = n := by rfl) (hst : (assignEach es X.env).findIdx? (·.1) = none := by rfl) : PG X (.Tuple es k pos) (gTup X.K n t) := by
  intro pins s σ H v u Q I r hw
  obtain ⟨a, xs, e1, hq, hl, hw⟩ := hw
  subst e1
  cases r
  obtain ⟨its, rv, ht, hz⟩ := I.tuple hq
  refine assign_Tuple_tuple (I.ok.hd hc) ht (by simp [hn, <- hl, rv.length]) hst fun h' hx => ?_
  have I1 : Inv X pins σ H { s with heap := h' } := I.kept (t' := s.toks) fun b o e => hx b o (Nat.ne_of_lt (Heap.lt_size e)) e
  exact h pins _ σ H xs _ Q I1 (by simpa using rv) hw
def gSub (to ti : TE) (t : TSet) : TG := fun v σ H Q => to σ H fun o H1 => ti σ H1 fun i H2 => t o i v H2 fun H3 => Q σ H3
theorem Vv {o i : Expr} {to ti : TE} {t : TSet} (ho : PE X o to) (hi : PE X i ti) (hs : PSet X t)
    (ha : ∀ v, assign (.Subscript o i pos) X.env v = (do
      let ov <- holding [v] (eval o X.env)
      let iv <- holding [v, ov] (eval i X.env)
      standAt pos
      holding [v, ov, iv] (setItem ov iv v)
      release [v, ov, iv] []) := by intro _; rfl) : PG X (.Subscript o i pos) (gSub to ti t) := by
  intro pins s σ H v u Q I r h
  rw [ha]
  refine wpAny_bind (wpAny_holding (thn (ho pins s σ H _ I h) fun ov s1 ⟨x, H1, I1, r1, q1⟩ => ?_))
  refine wpAny_bind (wpAny_holding (thn (hi pins s1 σ H1 _ I1 q1) fun iv s2 ⟨y, H2, I2, r2, q2⟩ => ?_))
  refine wpAny_bind (wpAny_standAt (wpAny_bind (wpAny_holding (thn (hs pins s2 σ H2 x y v ov iv u _ I2 r1 r2 r q2) fun _ s3 ⟨H3, I3, q3⟩ => ?_))))
  exact wpAny_release ⟨σ, H3, I3, q3⟩
def tAsg (te : TE) (g : TG) : TS := fun D σ H => te σ H fun x H1 => g x σ H1 D.nx
theorem Y8 {tg e : Expr} {te : TE} {g : TG} (he : PE X e te) (hg : PG X tg g) (hs : swapsWithSole [tg] e pos.line X.env = pure false := by rfl) (hw : swappedStores [tg] e X.env = pure none := by rfl)
    (h1 : (assignEach [tg] X.env).map (·.2) = [assign tg X.env] := by rfl) : PS X (.Assign [tg] e pos) (tAsg te g) := by
  intro pins s σ H D I h
  refine wpAny_Assign_stores (thn (he pins s σ H _ I h) fun v s1 ⟨x, H1, I1, r1, q1⟩ => ?_) hs hw
  rw [h1]
  exact thn (hg pins s1 σ H1 x v _ I1 r1 q1) fun _ s2 q => q
theorem ZT {i : Nat} {x : Str} {e : Expr} {te : TE} {pos' : Pos} (hN : X.N.Nodup) (hi : X.N[i]? = some x) (hx : Loc X.env.scope x) (he : PE X e te) (hs : swapsWith e (some (.Name x pos')) pos.line X.env = pure false := by rfl) (hf : X.fn x = true ∨ X.env.scope.names.lookup x = some .local := by first | exact .inl rfl | exact .inr rfl | assumption) :
    PS X (.Assign [.Name x pos'] e pos) (tAsg te (Y2 i)) := by
  intro pins s σ H D I h
  refine wpAny_Assign_Name (thn (he pins s σ H _ I h) fun v s1 ⟨y, H1, I1, r1, q1⟩ => ?_) hs
  exact store_ok I1 hN hi hx r1 (fun s2 I2 => ⟨_, H1, I2, q1⟩) hf
end
section
variable {X : Cx} {pos : Pos}
end
structure It where
  go : Nat -> Hp -> Prop
  yld : Nat -> Hp -> V -> Hp -> Prop
  stop : Nat -> Hp -> Prop
def VA (X : Cx) (pins : List (Addr × Obj)) (H : Hp) (b : Addr) : Prop :=
  H b = none /\ b ≠ X.env.locals /\ b ∉ X.fs /\ (b ∈ X.ex ∨ X.s₀.heap.objs.size <= b) /\ (∀ x c, X.env.cells.lookup x = some c -> c ≠ b) /\ ∀ p ∈ X.pn ++ pins, p.1 ≠ b
theorem Inv.fpOk {X : Cx} {pins : List (Addr × Obj)} {σ : St} {H H' : Hp} {s : Shared} {b : Addr} (I : Inv X pins σ H s) (hb : s.heap.objs.size <= b) (hn : H' b = none) : VA X pins H' b := by
  refine ⟨hn, Nat.ne_of_gt (Nat.lt_of_lt_of_le I.lt hb), I.nofs hb, .inr (Nat.le_trans I.sz hb), fun x c e z => ?_, fun p hp z => ?_⟩
  · obtain ⟨v, q⟩ := I.cell x c e
    exact absurd (Nat.lt_of_lt_of_le q.lt (by rw [z]; exact hb)) (Nat.lt_irrefl _)
  · exact absurd (Nat.lt_of_lt_of_le (Heap.lt_size (I.pin p hp).1) (by rw [z]; exact hb)) (Nat.lt_irrefl _)
structure Turn (P : Program) (w : World) (K : PySem.W.Frag) (tg : Expr) (J : It) (fp : List Addr) (it : Addr) (tn : Nat -> Heap -> Prop) : Prop where
  mem : it ∈ fp
  obj : ∀ i h, tn i h -> ∀ b ∈ fp, ∃ o, h.get? b = some o /\ ∀ v, o.data ≠ .cell v
  keep : ∀ i h h', tn i h -> (∀ b ∈ fp, ∀ o, h.get? b = some o -> h'.get? b = some o) -> tn i h'
  item : ∀ (X : Cx), X.prog = P -> X.w = w -> X.K = K -> X.calm = true -> ∀ (i : Nat) (pins : List (Addr × Obj)) (s : Shared) (σ : St) (H : Hp) (E : Value -> Shared -> Prop), Inv X pins σ H s -> (∀ b ∈ fp, VA X pins H b) -> tn i s.heap -> J.go i H ->
    wpAny (model P w) X.A (pyNext (.ref it)) (fun r s1 => ∃ u, r = some u /\
      wpAny (model P w) X.A (letOwnedTupleGo tg (.ref it) u) (fun _ s2 => ∃ x H', Inv X pins σ H' s2 /\ RelV x u /\ J.yld i H x H' /\ tn (i + 1) s2.heap /\ ∀ b ∈ fp, H' b = none) E s1) E s
  done : ∀ (X : Cx), X.prog = P -> X.w = w -> X.K = K -> X.calm = true -> ∀ (i : Nat) (pins : List (Addr × Obj)) (s : Shared) (σ : St) (H : Hp) (E : Value -> Shared -> Prop), Inv X pins σ H s -> (∀ b ∈ fp, VA X pins H b) -> tn i s.heap -> J.stop i H ->
    wpAny (model P w) X.A (pyNext (.ref it)) (fun r s1 => r = none /\ Inv X pins σ H s1) E s
  self : ∀ (A : Around) (i : Nat) (s : Shared) (Q : Value -> Shared -> Prop) (E : Value -> Shared -> Prop), tn i s.heap -> Q (.ref it) s -> wpAny (model P w) A (pyIter (.ref it)) Q E s
abbrev TI := St -> Hp -> (It -> Hp -> Prop) -> Prop
def PIE (X : Cx) (pins : List (Addr × Obj)) (σ : St) (tg : Expr) (R : It -> Hp -> Prop) (itv : Value) (s2 : Shared) : Prop :=
  ∃ (it : Addr) (fp : List Addr) (tn : Nat -> Heap -> Prop) (J : It) (H' : Hp), itv = .ref it /\ Inv X pins σ H' s2 /\ Turn X.prog X.w X.K tg J fp it tn /\ tn 0 s2.heap /\ (∀ b ∈ fp, VA X pins H' b) /\ R J H'
def PI (X : Cx) (tg iter : Expr) (wi : TI) : Prop :=
  ∀ (pins : List (Addr × Obj)) (s : Shared) (σ : St) (H : Hp) (R : It -> Hp -> Prop), Inv X pins σ H s -> wi σ H R ->
    wpAny (model X.prog X.w) X.A (eval iter X.env) (fun v s1 => wpAny (model X.prog X.w) X.A (pyIter v) (PIE X pins σ tg R) X.xe s1) X.xe s
theorem go_of {M : Model} {A : Around} {E : Value -> Shared -> Prop} {s : Shared} {tg : Expr} {it : Addr} {u : Value} {o : Obj} {n : String} {vs : Array Value} {Q : Unit -> Shared -> Prop} (ho : s.heap.get? it = some o) (hc : o.cls = .type n) (hd : o.data = .fields vs)
    (hn : ["enumerate", "zip", "dict_itemiterator", "dict_reverseitemiterator", "odict_iterator", "itertools.zip_longest", "itertools.pairwise"].contains n = false) (hQ : Q () s) : wpAny M A (letOwnedTupleGo tg (.ref it) u) Q E s := by
  unfold letOwnedTupleGo
  cases tg <;> first
    | exact wpAny_pure hQ
    | (cases u <;> first
        | exact wpAny_pure hQ
        | (refine wpAny_bind (wpAny_load ho ?_)
           rw [hc, hd]
           show wpAny M A (if (["enumerate", "zip", "dict_itemiterator", "dict_reverseitemiterator", "odict_iterator", "itertools.zip_longest", "itertools.pairwise"].contains n && vs[0]? == some (rawInt _)) = true then _ else _) Q E s
           rw [if_neg (by intro h; rw [hn, Bool.false_and] at h; cases h)]
           exact wpAny_pure hQ))
def Itl (K : PySem.W.Frag) (a : Addr) : It :=
  ⟨fun i H => ∃ xs x, SqL K H a xs /\ xs[i]? = some x, fun i H x H' => H' = H /\ ∀ xs, SqL K H a xs -> xs[i]? = some x, fun i H => ∃ xs, SqL K H a xs /\ xs.length <= i⟩
def Itt (K : PySem.W.Frag) (a : Addr) : It :=
  ⟨fun i H => ∃ xs x, SqT K H a xs /\ xs[i]? = some x, fun i H x H' => H' = H /\ ∀ xs, SqT K H a xs -> xs[i]? = some x, fun i H => ∃ xs, SqT K H a xs /\ xs.length <= i⟩
def Itr (lo : Int) (n : Nat) : It := ⟨fun i _ => i < n, fun i H x H' => H' = H /\ x = .int (lo + i), fun i _ => n <= i⟩
theorem turn_list {P : Program} {w : World} {K : PySem.W.Frag} {tg : Expr} (a it : Addr) : Turn P w K tg (Itl K a) [it] it (fun i h => h.IsListIter it a i) where
  mem := by simp
  obj := fun i h st b hb => by
    have e : b = it := by simpa using hb
    subst e
    obtain ⟨o, e, c, d⟩ := st
    exact ⟨o, e, fun v z => by rw [d] at z; cases z⟩
  keep := fun i h h' st k => st.at fun o e => k it (by simp) o e
  item := by
    intro X hP hw hK hc i pins s σ H E I hf st hg
    subst hP hw hK
    obtain ⟨xs, x, hq, hx⟩ := hg
    obtain ⟨its, rv, p, hz⟩ := I.list hq
    obtain ⟨u, hu, ru⟩ := rv.get hx
    obtain ⟨f0, f1, f2, f3, f4, f5⟩ := hf it (by simp)
    refine wpAny_pyNext_list_item st p.isList (x := u) (by simpa using hu) fun h' st' sb => ?_
    have I1 : Inv X pins σ H { s with heap := h' } := I.turned (t' := s.toks) (fun b o hb e => (sb.2 b hb).trans e) f0 f1 f3 f4 f5
    obtain ⟨o, e, c, d⟩ := id st'
    exact ⟨u, rfl, go_of (s := { s with heap := h' }) e c d (by decide) ⟨x, H, I1, ru, ⟨rfl, fun ys hy => by rw [I.list_inj hy hq]; exact hx⟩, st', fun b hb => (hf b hb).1⟩⟩
  done := by
    intro X hP hw hK hc i pins s σ H E I hf st hg
    subst hP hw hK
    obtain ⟨xs, hq, hx⟩ := hg
    obtain ⟨its, rv, p, hz⟩ := I.list hq
    obtain ⟨f0, f1, f2, f3, f4, f5⟩ := hf it (by simp)
    have hl := rv.length
    exact wpAny_pyNext_list_end (I.ok.hd hc) st p.isList (by simp; omega) fun h' eb => ⟨rfl, I.turned (t' := s.toks) (fun b o hb e => eb b o hb e) f0 f1 f3 f4 f5⟩
  self := fun _ _ _ _ _ st h => wpAny_pyIter_listiter st h
theorem turn_tuple {P : Program} {w : World} {K : PySem.W.Frag} {tg : Expr} (a it : Addr) : Turn P w K tg (Itt K a) [it] it (fun i h => h.IsTupleIter it a i) where
  mem := by simp
  obj := fun i h st b hb => by
    have e : b = it := by simpa using hb
    subst e
    obtain ⟨o, e, c, d⟩ := st
    exact ⟨o, e, fun v z => by rw [d] at z; cases z⟩
  keep := fun i h h' st k => st.at fun o e => k it (by simp) o e
  item := by
    intro X hP hw hK hc i pins s σ H E I hf st hg
    subst hP hw hK
    obtain ⟨xs, x, hq, hx⟩ := hg
    obtain ⟨its, rv, p, hz⟩ := I.tuple hq
    obtain ⟨u, hu, ru⟩ := rv.get hx
    obtain ⟨f0, f1, f2, f3, f4, f5⟩ := hf it (by simp)
    refine wpAny_pyNext_tuple_item st (show s.heap.IsTuple a its.toArray from p) (x := u) (by simpa using hu) fun h' st' sb => ?_
    have I1 : Inv X pins σ H { s with heap := h' } := I.turned (t' := s.toks) (fun b o hb e => (sb.2 b hb).trans e) f0 f1 f3 f4 f5
    obtain ⟨o, e, c, d⟩ := id st'
    exact ⟨u, rfl, go_of (s := { s with heap := h' }) e c d (by decide) ⟨x, H, I1, ru, ⟨rfl, fun ys hy => by rw [I.tuple_inj hy hq]; exact hx⟩, st', fun b hb => (hf b hb).1⟩⟩
  done := by
    intro X hP hw hK hc i pins s σ H E I hf st hg
    subst hP hw hK
    obtain ⟨xs, hq, hx⟩ := hg
    obtain ⟨its, rv, p, hz⟩ := I.tuple hq
    obtain ⟨f0, f1, f2, f3, f4, f5⟩ := hf it (by simp)
    have hl := rv.length
    exact wpAny_pyNext_tuple_end (I.ok.hd hc) st (show s.heap.IsTuple a its.toArray from p) (by simp; omega) fun h' eb => ⟨rfl, I.turned (t' := s.toks) (fun b o hb e => eb b o hb e) f0 f1 f3 f4 f5⟩
  self := fun _ _ _ _ _ st h => wpAny_pyIter_tupleiter st h
theorem turn_range {P : Program} {w : World} {K : PySem.W.Frag} {tg : Expr} (it : Addr) (lo : Int) (n : Nat) : Turn P w K tg (Itr lo n) [it] it (fun i h => IsRangeIter h it (lo + (i : Nat) * 1) ((n : Int) - (i : Nat)) 1) where
  mem := by simp
  obj := fun i h st b hb => by
    have e : b = it := by simpa using hb
    subst e
    exact ⟨_, st, fun v z => by
      have z' : Data.fields _ = Data.cell v := z
      cases z'⟩
  keep := fun i h h' st k => k it (by simp) _ st
  item := by
    intro X hP hw hK hc i pins s σ H E I hf st hg
    subst hP hw hK
    obtain ⟨f0, f1, f2, f3, f4, f5⟩ := hf it (by simp)
    have W := Walks.range (prog := X.prog) (w := X.w) (I.ok.hd hc) it lo 1 n
    refine W.item i s _ _ hg st fun v h' tk hv st' kk => ?_
    obtain ⟨t, rfl⟩ := hv
    have I1 : Inv X pins σ H { s with heap := h', toks := tk } := I.turned (fun b o hb e => kk b o (by simpa using hb) e) f0 f1 f3 f4 f5
    refine ⟨_, rfl, go_of (s := { s with heap := h', toks := tk }) (n := "range_iterator") st' rfl rfl (by decide) ⟨.int (lo + i), H, I1, ⟨t, ?_⟩, ⟨rfl, rfl⟩, st', fun b hb => (hf b hb).1⟩⟩
    rw [Int.mul_one]
  done := by
    intro X hP hw hK hc i pins s σ H E I hf st hg
    subst hP hw hK
    obtain ⟨f0, f1, f2, f3, f4, f5⟩ := hf it (by simp)
    exact wpAny_pyNext_range_end (I.ok.hd hc) st (by have : n <= i := hg; omega) fun h' eb => ⟨rfl, I.turned (t' := s.toks) (fun b o hb e => eb b o hb e) f0 f1 f3 f4 f5⟩
  self := fun _ _ _ _ _ st h => wpAny_pyIter_rangeiter st h
end L2
namespace L2
open PySem PySem.Spec PyProof.Rows
section
variable {X : Cx} {tg : Expr}
def iList (K : PySem.W.Frag) (tl : TE) : TI := fun σ H R => tl σ H fun x H1 => ∃ a, x = .ref a /\ (∃ xs, SqL K H1 a xs) /\ R (Itl K a) H1
def iTup (K : PySem.W.Frag) (tl : TE) : TI := fun σ H R => tl σ H fun x H1 => ∃ a, x = .ref a /\ (∃ xs, SqT K H1 a xs) /\ R (Itt K a) H1
theorem Y6 {l : Expr} {tl : TE} (hl : PE X l tl) : PI X tg l (iList X.K tl) := by
  intro pins s σ H R I h
  refine thn (hl pins s σ H _ I h) fun v s1 ⟨x, H1, I1, r1, q1⟩ => ?_
  obtain ⟨a, e, ⟨xs, hq⟩, q⟩ := q1
  subst e
  cases r1
  obtain ⟨its, rv, p, hz⟩ := I1.list hq
  refine wpAny_pyIter_list p.isList ?_
  refine ⟨s1.heap.objs.size, [s1.heap.objs.size], _, _, H1, rfl, I1.kept (t' := s1.toks) fun b o e => Heap.get?_push_of_some _ e, turn_list a _, ⟨_, Heap.get?_push_size _ rfl, rfl, rfl⟩, fun b hb => ?_, q⟩
  have e : b = s1.heap.objs.size := by simpa using hb
  subst e
  exact I1.fpOk (Nat.le_refl _) (I1.hok.fresh (Nat.le_refl _))
theorem VX {l : Expr} {tl : TE} (hl : PE X l tl) : PI X tg l (iTup X.K tl) := by
  intro pins s σ H R I h
  refine thn (hl pins s σ H _ I h) fun v s1 ⟨x, H1, I1, r1, q1⟩ => ?_
  obtain ⟨a, e, ⟨xs, hq⟩, q⟩ := q1
  subst e
  cases r1
  obtain ⟨its, rv, p, hz⟩ := I1.tuple hq
  refine wpAny_pyIter_tuple (show s1.heap.IsTuple a its.toArray from p) ?_
  refine ⟨s1.heap.objs.size, [s1.heap.objs.size], _, _, H1, rfl, I1.kept (t' := s1.toks) fun b o e => Heap.get?_push_of_some _ e, turn_tuple a _, ⟨_, Heap.get?_push_size _ rfl, rfl, rfl⟩, fun b hb => ?_, q⟩
  have e : b = s1.heap.objs.size := by simpa using hb
  subst e
  exact I1.fpOk (Nat.le_refl _) (I1.hok.fresh (Nat.le_refl _))
theorem range_it {pins : List (Addr × Obj)} {σ : St} {H : Hp} {s : Shared} {R : It -> Hp -> Prop} {E : Value -> Shared -> Prop} {lo hi : Int} {t u v : Tok} {tk : Nat} (I : Inv X pins σ H s) (h1 : -(2 ^ 62) <= lo) (h2 : lo < 2 ^ 62) (h3 : -(2 ^ 62) <= hi) (h4 : hi < 2 ^ 62)
    (q : R (Itr lo (hi - lo).toNat) H) : wpAny (model X.prog X.w) X.A (pyIter (.ref s.heap.objs.size)) (PIE X pins σ tg R) E { s with heap := s.heap.push { cls := .type "range", data := .fields #[.int lo t, .int hi u, .int 1 v] }, toks := tk } := by
  refine wpAny_pyIter_range (IsRange.new ..) (small_one h1 h2 h3 h4) ?_
  have I1 : Inv X pins σ H { s with heap := s.heap.push { cls := .type "range", data := .fields #[.int lo t, .int hi u, .int 1 v] }, toks := tk } := I.kept fun b o e => Heap.get?_push_of_some _ e
  refine ⟨(s.heap.push { cls := .type "range", data := .fields #[.int lo t, .int hi u, .int 1 v] }).objs.size, [(s.heap.push { cls := .type "range", data := .fields #[.int lo t, .int hi u, .int 1 v] }).objs.size], _, _, H, rfl,
    I1.kept (t' := tk) fun b o e => Heap.get?_push_of_some _ e, turn_range _ lo (hi - lo).toNat, ?_, fun b hb => ?_, q⟩
  · have e1 : lo + ((0 : Nat) : Int) * 1 = lo := by simp
    have e2 : (((hi - lo).toNat : Nat) : Int) - ((0 : Nat) : Int) = Builtin.Range.rangeSize lo hi 1 := by rw [rangeSize_one]; split <;> omega
    show IsRangeIter _ _ (lo + ((0 : Nat) : Int) * 1) ((((hi - lo).toNat : Nat) : Int) - ((0 : Nat) : Int)) 1
    rw [e1, e2]
    exact Heap.get?_push_size _ rfl
  · have e : b = (s.heap.push { cls := .type "range", data := .fields #[.int lo t, .int hi u, .int 1 v] }).objs.size := by simpa using hb
    subst e
    exact I1.fpOk (Nat.le_refl _) (I1.hok.fresh (Nat.le_refl _))
def iRng1 (ta : TA) : TI := fun σ H R => ta σ H fun vs H1 => ∃ j : Int, vs = [.int j] /\ -(2 ^ 62) <= j /\ j < 2 ^ 62 /\ R (Itr 0 j.toNat) H1
theorem Yw {a : Expr} {ta : TA} {p pos : Pos} (hg : Gl X "range") (hm : X.mg "range" = none) (ha : PA X [a] ta) (hs : starEach [a] X.env = [(false, eval a X.env)] := by rfl) : PI X tg (.Call (.Name "range" p) [a] [] pos) (iRng1 ta) := by
  intro pins s σ H R I h
  refine Call_ (Va I hg hm boot_range (PyProof.Rows.callWith_type1 (thn (ha pos pins s σ H _ I h) fun us s1 ⟨vs, H1, I1, r1, q1⟩ => ?_) hs rfl))
  obtain ⟨j, e, q1, q2, q⟩ := q1
  subst e
  cases r1 with
  | cons r rr =>
    cases rr
    obtain ⟨t, rfl⟩ := r
    exact call_range_1 (range_it I1 (by omega) (by omega) q1 q2 (by simpa using q))
def tFor (wi : TI) (g : TG) (tb : TS) : TS := fun D σ H => wi σ H fun J H1 => ∃ W : Nat -> Nat -> St -> Hp -> Prop, (∃ m, W 0 m σ H1) /\ ∀ i m σ H, W i m σ H ->
  (J.stop i H /\ D.nx σ H) ∨ (J.go i H /\ ∃ N : St -> Hp -> Prop, (∀ σ' H', N σ' H' -> ∃ m', m' < m /\ W (i + 1) m' σ' H') /\ ∀ x H', J.yld i H x H' -> g x σ H' fun σ2 H2 => tb { D with nx := N, ct := N, bk := D.nx } σ2 H2)
def Z4 (fp : List Addr) (h : Heap) : List (Addr × Obj) := fp.filterMap fun b => (h.get? b).map fun o => (b, o)
theorem Zz {fp : List Addr} {h : Heap} {b : Addr} {o : Obj} (hb : b ∈ fp) (e : h.get? b = some o) : (b, o) ∈ Z4 fp h := List.mem_filterMap.mpr ⟨b, hb, by rw [e]; rfl⟩
theorem VE {fp : List Addr} {h : Heap} {p : Addr × Obj} (hp : p ∈ Z4 fp h) : p.1 ∈ fp /\ h.get? p.1 = some p.2 := by
  obtain ⟨b, hb, e⟩ := List.mem_filterMap.mp hp
  cases q : h.get? b with
  | none => rw [q] at e; cases e
  | some o =>
    rw [q] at e
    have e' : (b, o) = p := Option.some.inj e
    subst e'
    exact ⟨hb, q⟩
theorem Inv.pinned {pins : List (Addr × Obj)} {σ : St} {H : Hp} {s : Shared} {fp : List Addr} (I : Inv X pins σ H s) (hf : ∀ b ∈ fp, VA X pins H b) (ho : ∀ b ∈ fp, ∃ o, s.heap.get? b = some o /\ ∀ v, o.data ≠ .cell v) : Inv X (pins ++ Z4 fp s.heap) σ H s :=
  I.pins_of fun p hp => (List.mem_append.mp hp).elim (fun z => I.pin p (List.mem_append_right _ z)) fun z => by
    obtain ⟨hb, e⟩ := VE z
    obtain ⟨f0, f1, f2, _⟩ := hf p.1 hb
    obtain ⟨o, e', d⟩ := ho p.1 hb
    rw [e] at e'; cases e'
    exact ⟨e, f0, f1, f2, d⟩
theorem Inv.unpinned {pins pl : List (Addr × Obj)} {σ : St} {H : Hp} {s : Shared} (I : Inv X (pins ++ pl) σ H s) : Inv X pins σ H s := I.pins_of fun p hp => I.pin p (List.mem_append_right _ (List.mem_append_left _ hp))
theorem YS {iter : Expr} {body : List Stmt} {wi : TI} {g : TG} {tb : TS} {pos : Pos} (hp : PassesOwn (model X.prog X.w) X.A X.env X.xe) (hc : X.calm = true) (hi : PI X tg iter wi) (hg : PG X tg g) (hb : PSs X body tb)
    (hs : ∀ x, foldedSetIterable iter X.env x = pure x := by intro _; rfl) : PS X (.For tg iter body [] pos) (tFor wi g tb) := by
  intro pins s σ H D I h
  refine wpAny_For (thn (hi pins s σ H _ I h) fun v s1 h1 => thn h1 fun itv s2 h2 => ?_) hs
  obtain ⟨it, fp, tn, J, H2, e, I2, T, st2, f2, W, ⟨m0, w0⟩, turn⟩ := h2
  subst e
  -- what stays true of the iterator's objects through the loop
  have stat : ∀ {H' : Hp}, (∀ b ∈ fp, H' b = none) -> ∀ b ∈ fp, VA X pins H' b := fun hn b hb => ⟨hn b hb, (f2 b hb).2⟩
  refine codeAny_forLoop_any (fun n s' => ∃ i σ' H', Inv X pins σ' H' s' /\ tn i s'.heap /\ (∀ b ∈ fp, H' b = none) /\ W i n σ' H') ?_ m0 ⟨0, σ, H2, I2, st2, fun b hb => (f2 b hb).1, w0⟩
  rintro n s3 ⟨i, σ3, H3, I3, st3, fr3, w3⟩
  rcases turn i n σ3 H3 w3 with ⟨stop, qn⟩ | ⟨go, N, hN, step⟩
  · refine wpAny_passesOwn hp (thn (T.done X rfl rfl rfl hc i pins s3 σ3 H3 X.xe I3 (stat fr3) st3 stop) fun r s4 ⟨hr, I4⟩ => ?_)
    subst hr
    exact wpAny_execs_nil ⟨σ3, H3, I4, qn⟩
  · refine wpAny_passesOwn hp (thn (T.item X rfl rfl rfl hc i pins s3 σ3 H3 X.xe I3 (stat fr3) st3 go) fun r s4 ⟨u, hr, h4⟩ => ?_)
    subst hr
    refine wpAny_passesOwn hp (thn h4 fun _ s5 ⟨x, H5, I5, r5, y5, st5, fr5⟩ => ?_)
    have I5' := I5.pinned (stat fr5) (T.obj _ _ st5)
    refine wpAny_passesOwn hp (thn (hg _ s5 σ3 H5 x u _ I5' r5 (step x H5 y5)) fun _ s6 ⟨σ6, H6, I6, q6⟩ => ?_)
    refine wpAny_passesOwn hp (thn (hb _ s6 σ6 H6 _ I6 q6) fun f s7 q7 => ?_)
    have again : ∀ {σ7 : St} {H7 : Hp}, Inv X (pins ++ Z4 fp s5.heap) σ7 H7 s7 -> N σ7 H7 -> ∃ m, m < n /\ ∃ i σ' H', Inv X pins σ' H' s7 /\ tn i s7.heap /\ (∀ b ∈ fp, H' b = none) /\ W i m σ' H' := fun {σ7 H7} I7 n7 => by
      obtain ⟨m', hm, w7⟩ := hN σ7 H7 n7
      refine ⟨m', hm, i + 1, σ7, H7, I7.unpinned, T.keep _ _ _ st5 fun b hb o e => (I7.pin (b, o) (List.mem_append_right _ (List.mem_append_right _ (Zz hb e)))).1, fun b hb => ?_, w7⟩
      obtain ⟨o, e, d⟩ := T.obj _ _ st5 b hb
      exact (I7.pin (b, o) (List.mem_append_right _ (List.mem_append_right _ (Zz hb e)))).2.1
    cases f with
    | next => obtain ⟨σ7, H7, I7, n7⟩ := q7; exact again I7 n7
    | cont => obtain ⟨σ7, H7, I7, n7⟩ := q7; exact again I7 n7
    | brk => obtain ⟨σ7, H7, I7, q7⟩ := q7; exact ⟨σ7, H7, I7.unpinned, q7⟩
    | ret v => obtain ⟨x7, σ7, H7, I7, r7, q7⟩ := q7; exact ⟨x7, σ7, H7, I7.unpinned, r7, q7⟩
end
theorem for_list {K : PySem.W.Frag} {a : Addr} {xs : List V} {g : TG} {tb : TS} {D : Ends} {σ : St} {H : Hp} (Pv : Nat -> St -> Hp -> Prop) (h0 : Pv 0 σ H) (hl : ∀ i σ H, i <= xs.length -> Pv i σ H -> SqL K H a xs)
    (hs : ∀ i x σ H, xs[i]? = some x -> Pv i σ H -> g x σ H fun σ2 H2 => tb { D with nx := Pv (i + 1), ct := Pv (i + 1), bk := D.nx } σ2 H2) (hd : ∀ σ H, Pv xs.length σ H -> D.nx σ H) :
    ∃ W : Nat -> Nat -> St -> Hp -> Prop, (∃ m, W 0 m σ H) /\ ∀ i m σ H, W i m σ H ->
      ((Itl K a).stop i H /\ D.nx σ H) ∨ ((Itl K a).go i H /\ ∃ N : St -> Hp -> Prop, (∀ σ' H', N σ' H' -> ∃ m', m' < m /\ W (i + 1) m' σ' H') /\ ∀ x H', (Itl K a).yld i H x H' -> g x σ H' fun σ2 H2 => tb { D with nx := N, ct := N, bk := D.nx } σ2 H2) := by
  refine ⟨fun i m σ H => m = xs.length - i /\ i <= xs.length /\ Pv i σ H, ⟨xs.length, by simp, Nat.zero_le _, h0⟩, ?_⟩
  rintro i m σ H ⟨rfl, hi, p⟩
  have q := hl i σ H hi p
  by_cases hlt : i < xs.length
  · refine .inr ⟨⟨xs, xs[i], q, by simp [hlt]⟩, Pv (i + 1), fun σ' H' p' => ⟨xs.length - (i + 1), by omega, rfl, hlt, p'⟩, fun x H' y => ?_⟩
    obtain ⟨e, y⟩ := y
    subst e
    exact hs i x σ _ (y xs q) p
  · have e : i = xs.length := by omega
    subst e
    exact .inl ⟨⟨xs, q, Nat.le_refl _⟩, hd σ H p⟩
theorem for_tup {K : PySem.W.Frag} {a : Addr} {xs : List V} {g : TG} {tb : TS} {D : Ends} {σ : St} {H : Hp} (Pv : Nat -> St -> Hp -> Prop) (h0 : Pv 0 σ H) (hl : ∀ i σ H, i <= xs.length -> Pv i σ H -> SqT K H a xs)
    (hs : ∀ i x σ H, xs[i]? = some x -> Pv i σ H -> g x σ H fun σ2 H2 => tb { D with nx := Pv (i + 1), ct := Pv (i + 1), bk := D.nx } σ2 H2) (hd : ∀ σ H, Pv xs.length σ H -> D.nx σ H) :
    ∃ W : Nat -> Nat -> St -> Hp -> Prop, (∃ m, W 0 m σ H) /\ ∀ i m σ H, W i m σ H ->
      ((Itt K a).stop i H /\ D.nx σ H) ∨ ((Itt K a).go i H /\ ∃ N : St -> Hp -> Prop, (∀ σ' H', N σ' H' -> ∃ m', m' < m /\ W (i + 1) m' σ' H') /\ ∀ x H', (Itt K a).yld i H x H' -> g x σ H' fun σ2 H2 => tb { D with nx := N, ct := N, bk := D.nx } σ2 H2) := by
  refine ⟨fun i m σ H => m = xs.length - i /\ i <= xs.length /\ Pv i σ H, ⟨xs.length, by simp, Nat.zero_le _, h0⟩, ?_⟩
  rintro i m σ H ⟨rfl, hi, p⟩
  have q := hl i σ H hi p
  by_cases hlt : i < xs.length
  · refine .inr ⟨⟨xs, xs[i], q, by simp [hlt]⟩, Pv (i + 1), fun σ' H' p' => ⟨xs.length - (i + 1), by omega, rfl, hlt, p'⟩, fun x H' y => ?_⟩
    obtain ⟨e, y⟩ := y
    subst e
    exact hs i x σ _ (y xs q) p
  · have e : i = xs.length := by omega
    subst e
    exact .inl ⟨⟨xs, q, Nat.le_refl _⟩, hd σ H p⟩
theorem for_range {lo : Int} {n : Nat} {g : TG} {tb : TS} {D : Ends} {σ : St} {H : Hp} (Pv : Nat -> St -> Hp -> Prop) (h0 : Pv 0 σ H)
    (hs : ∀ i σ H, i < n -> Pv i σ H -> g (.int (lo + i)) σ H fun σ2 H2 => tb { D with nx := Pv (i + 1), ct := Pv (i + 1), bk := D.nx } σ2 H2) (hd : ∀ σ H, Pv n σ H -> D.nx σ H) :
    ∃ W : Nat -> Nat -> St -> Hp -> Prop, (∃ m, W 0 m σ H) /\ ∀ i m σ H, W i m σ H ->
      ((Itr lo n).stop i H /\ D.nx σ H) ∨ ((Itr lo n).go i H /\ ∃ N : St -> Hp -> Prop, (∀ σ' H', N σ' H' -> ∃ m', m' < m /\ W (i + 1) m' σ' H') /\ ∀ x H', (Itr lo n).yld i H x H' -> g x σ H' fun σ2 H2 => tb { D with nx := N, ct := N, bk := D.nx } σ2 H2) := by
  refine ⟨fun i m σ H => m = n - i /\ i <= n /\ Pv i σ H, ⟨n, by simp, Nat.zero_le _, h0⟩, ?_⟩
  rintro i m σ H ⟨rfl, hi, p⟩
  by_cases hlt : i < n
  · refine .inr ⟨hlt, Pv (i + 1), fun σ' H' p' => ⟨n - (i + 1), by omega, rfl, hlt, p'⟩, fun x H' y => ?_⟩
    obtain ⟨e, y⟩ := y
    subst e y
    exact hs i σ _ hlt p
  · have e : i = n := by omega
    subst e
    exact .inl ⟨Nat.le_refl _, hd σ H p⟩
end L2
namespace L2
open PySem PySem.Spec PyProof.Rows
abbrev R2 := V -> V -> Hp -> VK -> Prop
def OpR (X : Cx) (f : Value -> Value -> Sem Value) (r : R2) : Prop :=
  ∀ (pins : List (Addr × Obj)) (s : Shared) (σ : St) (H : Hp) (x y : V) (v u : Value) (Q : VK), Inv X pins σ H s -> RelV x v -> RelV y u -> r x y H Q ->
    wpAny (model X.prog X.w) X.A (f v u) (EP X pins σ Q) X.xe s
def UnR (X : Cx) (f : Value -> Sem Value) (r : V -> Hp -> VK -> Prop) : Prop :=
  ∀ (pins : List (Addr × Obj)) (s : Shared) (σ : St) (H : Hp) (x : V) (v : Value) (Q : VK), Inv X pins σ H s -> RelV x v -> r x H Q ->
    wpAny (model X.prog X.w) X.A (f v) (EP X pins σ Q) X.xe s
def Yq (X : Cx) (f : Value) (r : List V -> Hp -> VK -> Prop) : Prop :=
  ∀ (pins : List (Addr × Obj)) (s : Shared) (σ : St) (H : Hp) (xs : List V) (us : List Value) (Q : VK), Inv X pins σ H s -> Vals xs us -> r xs H Q ->
    wpAny (model X.prog X.w) X.A (call f us) (EP X pins σ Q) X.xe s
def tOp (r : R2) (ta tb : TE) : TE := fun σ H Q => ta σ H fun x H1 => tb σ H1 fun y H2 => r x y H2 Q
def tUn (r : V -> Hp -> VK -> Prop) (ta : TE) : TE := fun σ H Q => ta σ H fun x H1 => r x H1 Q
def rI (C : Int -> Int -> Prop) (g : Int -> Int -> V) : R2 := fun x y H Q => ∃ i j, x = .int i /\ y = .int j /\ C i j /\ Q (g i j) H
def rI0 (g : Int -> Int -> V) : R2 := fun x y H Q => ∃ i j, x = .int i /\ y = .int j /\ Q (g i j) H
def rU (g : Int -> V) : V -> Hp -> VK -> Prop := fun x H Q => ∃ i, x = .int i /\ Q (g i) H
section
variable {X : Cx} {a b c : Expr} {ta tb tc : TE} {pos : Pos}
theorem binT (ha : PE X a ta) (hb : PE X b tb) {pins : List (Addr × Obj)} {s : Shared} {σ : St} {H : Hp} {R : V -> V -> Hp -> Prop} (I : Inv X pins σ H s)
    (h : ta σ H fun x H1 => tb σ H1 fun y H2 => R x y H2) {Q : Value -> Shared -> Prop} {f : Value -> Value -> Sem Value}
    (hf : ∀ v u s2 x y H2, Inv X pins σ H2 s2 -> RelV x v -> RelV y u -> R x y H2 -> wpAny (model X.prog X.w) X.A (f v u) Q X.xe s2) :
    wpAny (model X.prog X.w) X.A (eval a X.env) (fun v s₁ => wpAny (model X.prog X.w) X.A (eval b X.env) (fun u s₂ => wpAny (model X.prog X.w) X.A (f v u) Q X.xe s₂) X.xe s₁) X.xe s := by
  refine thn (ha pins s σ H _ I h) fun v s1 ⟨x, H1, I1, r1, q1⟩ => ?_
  refine thn (hb pins s1 σ H1 _ I1 q1) fun u s2 ⟨y, H2, I2, r2, q2⟩ => ?_
  exact hf v u s2 x y H2 I2 r1 r2 q2
theorem Zc {op : Operator} {r : R2} (ho : OpR X (binaryOp op) r) (ha : PE X a ta) (hb : PE X b tb) : PE X (.BinOp a op b pos) (tOp r ta tb) := by
  intro pins s σ H Q I h
  exact wpAny_BinOp (binT ha hb I h fun v u s2 x y H2 I2 rx ry q => ho pins s2 σ H2 x y v u Q I2 rx ry q)
theorem pe_un {op : UnaryOp} {r : V -> Hp -> VK -> Prop} (ho : UnR X (unaryOp op) r) (ha : PE X a ta) : PE X (.UnaryOp op a pos) (tUn r ta) := by
  intro pins s σ H Q I h
  exact UnaryOp_ (thn (ha pins s σ H _ I h) fun v s1 ⟨x, H1, I1, r1, q1⟩ => ho pins s1 σ H1 x v Q I1 r1 q1)
theorem opI {f : Value -> Value -> Sem Value} {C : Int -> Int -> Prop} {g : Int -> Int -> Int}
    (rule : ∀ (i j : Int) (t u : Tok) (s : Shared) (Q : Value -> Shared -> Prop) (E : Value -> Shared -> Prop), C i j -> Q (.int (g i j) s.toks) { s with toks := s.toks + 1 } -> wpAny (model X.prog X.w) X.A (f (.int i t) (.int j u)) Q E s) :
    OpR X f (rI C fun i j => .int (g i j)) := by
  intro pins s σ H x y v u Q I rx ry h
  obtain ⟨i, j, rfl, rfl, hc, q⟩ := h
  obtain ⟨t, rfl⟩ := rx
  obtain ⟨t', rfl⟩ := ry
  exact rule i j t t' s _ _ hc ⟨.int (g i j), H, I.tok _, ⟨_, rfl⟩, q⟩
theorem opI0 {f : Value -> Value -> Sem Value} {g : Int -> Int -> Int}
    (rule : ∀ (i j : Int) (t u : Tok) (s : Shared) (Q : Value -> Shared -> Prop) (E : Value -> Shared -> Prop), Q (.int (g i j) s.toks) { s with toks := s.toks + 1 } -> wpAny (model X.prog X.w) X.A (f (.int i t) (.int j u)) Q E s) :
    OpR X f (rI0 fun i j => .int (g i j)) := by
  intro pins s σ H x y v u Q I rx ry h
  obtain ⟨i, j, rfl, rfl, q⟩ := h
  obtain ⟨t, rfl⟩ := rx
  obtain ⟨t', rfl⟩ := ry
  exact rule i j t t' s _ _ ⟨.int (g i j), H, I.tok _, ⟨_, rfl⟩, q⟩
theorem opB0 {f : Value -> Value -> Sem Value} {g : Int -> Int -> Bool}
    (rule : ∀ (i j : Int) (t u : Tok) (s : Shared) (Q : Value -> Shared -> Prop) (E : Value -> Shared -> Prop), Q (.bool (g i j)) s -> wpAny (model X.prog X.w) X.A (f (.int i t) (.int j u)) Q E s) :
    OpR X f (rI0 fun i j => .bl (g i j)) := by
  intro pins s σ H x y v u Q I rx ry h
  obtain ⟨i, j, rfl, rfl, q⟩ := h
  obtain ⟨t, rfl⟩ := rx
  obtain ⟨t', rfl⟩ := ry
  exact rule i j t t' s _ _ ⟨.bl (g i j), H, I, rfl, q⟩
def CDiv (i j : Int) : Prop := 0 < j /\ j < 1073741824
def CPow (i j : Int) : Prop := 0 <= j /\ j <= 1000000 /\ i.natAbs < 2 ^ 64
def CMul (i j : Int) : Prop := (-(2 ^ 64) < i /\ i < 2 ^ 64) ∨ (-(2 ^ 64) < j /\ j < 2 ^ 64)
theorem CMul.ok {i j : Int} (h : CMul i j) : IntMulOk i j := by
  rcases h with ⟨h1, h2⟩ | ⟨h1, h2⟩
  · exact .of_left (intBits_le_64 h1 h2)
  · exact .of_right (intBits_le_64 h1 h2)
theorem YB : OpR X (binaryOp .Add) (rI0 fun i j => .int (i + j)) := opI0 fun _ _ _ _ _ _ _ q => add_int q
theorem Yi : OpR X (binaryOp .Sub) (rI0 fun i j => .int (i - j)) := opI0 fun _ _ _ _ _ _ _ q => sub_int q
theorem YT : OpR X (binaryOp .Mult) (rI CMul fun i j => .int (i * j)) := opI fun _ _ _ _ _ _ _ hc q => mul_int q hc.ok
theorem op_fdiv : OpR X (binaryOp .FloorDiv) (rI CDiv fun i j => .int (i / j)) := opI fun i j _ _ _ _ _ hc q => by
  have h1 : (0 : Int) < j := hc.1
  have h2 : j < 1073741824 := hc.2
  exact floordiv_int (by omega) (by rw [Int.fdiv_eq_ediv_of_nonneg i (by omega)]; exact q) (.inl (PyProof.noPylong_small (by omega)))
theorem Y1 : OpR X (binaryOp .Mod) (rI (fun _ j => 0 < j) fun i j => .int (i % j)) := opI fun i j _ _ _ _ _ hc q => by
  have h1 : (0 : Int) < j := hc
  exact mod_int' (by omega) (by rw [Int.fmod_eq_emod_of_nonneg i (by omega)]; exact q)
theorem op_pow : OpR X (binaryOp .Pow) (rI CPow fun i j => .int (i ^ j.toNat)) := opI fun _ _ _ _ _ _ _ hc q => pow_int_small hc.1 hc.2.1 hc.2.2 q
theorem unI {f : Value -> Sem Value} {g : Int -> Int}
    (rule : ∀ (i : Int) (t : Tok) (s : Shared) (Q : Value -> Shared -> Prop) (E : Value -> Shared -> Prop), Q (.int (g i) s.toks) { s with toks := s.toks + 1 } -> wpAny (model X.prog X.w) X.A (f (.int i t)) Q E s) :
    UnR X f (rU fun i => .int (g i)) := by
  intro pins s σ H x v Q I rx h
  obtain ⟨i, rfl, q⟩ := h
  obtain ⟨t, rfl⟩ := rx
  exact rule i t s _ _ ⟨.int (g i), H, I.tok _, ⟨_, rfl⟩, q⟩
theorem un_neg : UnR X (unaryOp .USub) (rU fun i => .int (-i)) := unI fun _ _ _ _ _ q => neg_int q
end
def scal : V -> V -> Bool
  | .non, .non => true | .non, .int _ => true | .int _, .non => true | .non, .bl _ => true | .bl _, .non => true | .non, .str _ => true | .str _, .non => true
  | .int _, .int _ => true | .bl _, .bl _ => true | .str _, .str _ => true | .byt _, .byt _ => true
  | .int _, .str _ => true | .str _, .int _ => true | .bl _, .str _ => true | .str _, .bl _ => true
  | _, _ => false
def rEq : R2 := fun x y H Q => scal x y = true /\ Q (.bl (decide (x = y))) H
def rNe : R2 := fun x y H Q => scal x y = true /\ Q (.bl (!decide (x = y))) H
theorem dec_int {i j : Int} : decide (V.int i = V.int j) = (i == j) := by
  rw [Bool.eq_iff_iff]
  simp
theorem dec_bl {i j : Bool} : decide (V.bl i = V.bl j) = (i == j) := by
  rw [Bool.eq_iff_iff]
  simp
theorem dec_str {i j : Str} : decide (V.str i = V.str j) = (i == j) := by
  rw [Bool.eq_iff_iff]
  simp
theorem dec_byt {i j : Array UInt8} : decide (V.byt i = V.byt j) = (i.toList == j.toList) := by
  rw [Bool.eq_iff_iff]
  cases i
  cases j
  simp
section
variable {X : Cx} {a b c : Expr} {ta tb tc : TE} {pos : Pos}
theorem Zv {pins : List (Addr × Obj)} {σ : St} {H : Hp} {s : Shared} {Q : VK} {k k' : Bool} (I : Inv X pins σ H s) (q : Q (.bl k) H) (e : k = k') : EP X pins σ Q (.bool k') s := by
  subst e
  exact ⟨.bl k, H, I, rfl, q⟩
theorem YA : OpR X (compareOp .Eq) rEq := by
  intro pins s σ H x y v u Q I rx ry h
  obtain ⟨hs, q⟩ := h
  cases x with
  | non =>
    cases rx
    cases y with
    | non => cases ry; exact PySem.EqNone.eq_none_none (Zv I q (by simp))
    | bl j => cases ry; exact PySem.EqNone.eq_none_bool (Zv I q (by simp))
    | int j => obtain ⟨t', rfl⟩ := ry; exact PySem.EqNone.eq_none_int (Zv I q (by simp))
    | str j => obtain ⟨t', rfl⟩ := ry; exact PySem.EqNone.eq_none_str (Zv I q (by simp))
    | _ => exact absurd (show false = true from hs) Bool.false_ne_true
  | bl i =>
    cases rx
    cases y with
    | non => cases ry; exact PySem.EqNone.eq_bool_none (Zv I q (by simp))
    | bl j => cases ry; exact eq_bool (Zv I q dec_bl)
    | str j => obtain ⟨t', rfl⟩ := ry; exact PySem.EqMixed.eq_bool_str (Zv I q (by simp))
    | _ => exact absurd (show false = true from hs) Bool.false_ne_true
  | int i =>
    obtain ⟨t, rfl⟩ := rx
    cases y with
    | non => cases ry; exact PySem.EqNone.eq_int_none (Zv I q (by simp))
    | int j => obtain ⟨t', rfl⟩ := ry; exact eq_int (Zv I q dec_int)
    | str j => obtain ⟨t', rfl⟩ := ry; exact PySem.EqMixed.eq_int_str (Zv I q (by simp))
    | _ => exact absurd (show false = true from hs) Bool.false_ne_true
  | str i =>
    obtain ⟨t, rfl⟩ := rx
    cases y with
    | non => cases ry; exact PySem.EqNone.eq_str_none (Zv I q (by simp))
    | bl j => cases ry; exact PySem.EqMixed.eq_str_bool (Zv I q (by simp))
    | int j => obtain ⟨t', rfl⟩ := ry; exact PySem.EqMixed.eq_str_int (Zv I q (by simp))
    | str j => obtain ⟨t', rfl⟩ := ry; exact eq_str (Zv I q dec_str)
    | _ => exact absurd (show false = true from hs) Bool.false_ne_true
  | byt i =>
    obtain ⟨t, rfl⟩ := rx
    cases y with
    | byt j => obtain ⟨t', rfl⟩ := ry; exact PySem.W.eq_bytes (Zv I q dec_byt)
    | _ => exact absurd (show false = true from hs) Bool.false_ne_true
  | _ => cases y <;> exact absurd (show false = true from hs) Bool.false_ne_true
theorem op_ne : OpR X (compareOp .NotEq) rNe := by
  intro pins s σ H x y v u Q I rx ry h
  obtain ⟨hs, q⟩ := h
  cases x with
  | non =>
    cases rx
    cases y with
    | non => cases ry; exact PySem.EqNone.ne_none_none (Zv I q (by simp))
    | bl j => cases ry; exact PySem.EqNone.ne_none_bool (Zv I q (by simp))
    | int j => obtain ⟨t', rfl⟩ := ry; exact PySem.EqNone.ne_none_int (Zv I q (by simp))
    | str j => obtain ⟨t', rfl⟩ := ry; exact PySem.EqNone.ne_none_str (Zv I q (by simp))
    | _ => exact absurd (show false = true from hs) Bool.false_ne_true
  | bl i =>
    cases rx
    cases y with
    | non => cases ry; exact PySem.EqNone.ne_bool_none (Zv I q (by simp))
    | bl j => cases ry; exact ne_bool (Zv I q (congrArg not dec_bl))
    | str j => obtain ⟨t', rfl⟩ := ry; exact PySem.EqMixed.ne_bool_str (Zv I q (by simp))
    | _ => exact absurd (show false = true from hs) Bool.false_ne_true
  | int i =>
    obtain ⟨t, rfl⟩ := rx
    cases y with
    | non => cases ry; exact PySem.EqNone.ne_int_none (Zv I q (by simp))
    | int j => obtain ⟨t', rfl⟩ := ry; exact ne_int (Zv I q (congrArg not dec_int))
    | str j => obtain ⟨t', rfl⟩ := ry; exact PySem.EqMixed.ne_int_str (Zv I q (by simp))
    | _ => exact absurd (show false = true from hs) Bool.false_ne_true
  | str i =>
    obtain ⟨t, rfl⟩ := rx
    cases y with
    | non => cases ry; exact PySem.EqNone.ne_str_none (Zv I q (by simp))
    | bl j => cases ry; exact PySem.EqMixed.ne_str_bool (Zv I q (by simp))
    | int j => obtain ⟨t', rfl⟩ := ry; exact PySem.EqMixed.ne_str_int (Zv I q (by simp))
    | str j => obtain ⟨t', rfl⟩ := ry; exact ne_str (Zv I q (congrArg not dec_str))
    | _ => exact absurd (show false = true from hs) Bool.false_ne_true
  | byt i =>
    obtain ⟨t, rfl⟩ := rx
    cases y with
    | byt j => obtain ⟨t', rfl⟩ := ry; exact PySem.W.ne_bytes (Zv I q (congrArg not dec_byt))
    | _ => exact absurd (show false = true from hs) Bool.false_ne_true
  | _ => cases y <;> exact absurd (show false = true from hs) Bool.false_ne_true
theorem op_lt : OpR X (compareOp .Lt) (rI0 fun i j => .bl (decide (i < j))) := opB0 fun _ _ _ _ _ _ _ q => lt_int q
theorem op_le : OpR X (compareOp .LtE) (rI0 fun i j => .bl (decide (i <= j))) := opB0 fun _ _ _ _ _ _ _ q => le_int q
theorem JZ : OpR X (compareOp .Gt) (rI0 fun i j => .bl (decide (j < i))) := opB0 fun _ _ _ _ _ _ _ q => gt_int q
theorem op_ge : OpR X (compareOp .GtE) (rI0 fun i j => .bl (decide (j <= i))) := opB0 fun _ _ _ _ _ _ _ q => ge_int q
theorem op_isN : OpR X (compareOp .Is) (fun x y H Q => y = .non /\ Q (.bl (decide (x = .non))) H) := by
  intro pins s σ H x y v u Q I rx ry h
  obtain ⟨rfl, q⟩ := h
  cases ry
  refine is_none_gen (Zv I q ?_)
  cases x <;> first
    | (cases rx; rfl)
    | (obtain ⟨t, rfl⟩ := rx; rfl)
theorem Zd (b : Expr) {op : CmpOp} (h : op ≠ .In := by decide) (h2 : op ≠ .NotIn := by decide) : behindInMarks op b = false := by
  have e1 : (op == CmpOp.In) = false := by cases op <;> first | rfl | exact absurd rfl h
  have e2 : (op == CmpOp.NotIn) = false := by cases op <;> first | rfl | exact absurd rfl h2
  cases b <;> simp [behindInMarks, e1, e2]
theorem Y7 {op : CmpOp} {r : R2} (ho : OpR X (compareOp op) r) (ha : PE X a ta) (hb : PE X b tb) (hm : behindInMarks op b = false) : PE X (.Compare a [op] [b] pos) (tOp r ta tb) := by
  intro pins s σ H Q I h
  exact wpAny_Compare1 (binT ha hb I h fun v u s2 x y H2 I2 rx ry q => ho pins s2 σ H2 x y v u Q I2 rx ry q) hm
def tTest (t : TE) : TT := fun σ H Q => t σ H fun x H' => ∃ k, x = .bl k /\ Q k H'
theorem ZY {op : CmpOp} {r : R2} (ho : OpR X (compareOp op) r) (ha : PE X a ta) (hb : PE X b tb) (hm : behindInMarks op b = false) : PT X (.Compare a [op] [b] pos) (tTest (tOp r ta tb)) := by
  intro pins s σ H Q I h
  refine wpAny_isTrue_Compare1 (thn (ha pins s σ H _ I h) fun v s1 ⟨x, H1, I1, r1, q1⟩ => thn (hb pins s1 σ H1 _ I1 q1) fun u s2 ⟨y, H2, I2, r2, q2⟩ =>
    thn (ho pins s2 σ H2 x y v u _ I2 r1 r2 q2) fun c s3 ⟨z, H3, I3, r3, k, e, q3⟩ => ?_) hm
  subst e
  cases r3
  exact wpAny_truthy_bool ⟨H3, I3, q3⟩
theorem line63 : (sizeLine : Nat) < 2 ^ 63 := by rw [sizeLine_eq]; decide
theorem Vw : OpR X (binaryOp .Add) (fun x y H Q => ∃ i j, x = .str i /\ y = .str j /\ i.length + j.length <= sizeLine /\ Q (.str (i ++ j)) H) := by
  intro pins s σ H x y v u Q I rx ry h
  obtain ⟨i, j, rfl, rfl, hz, q⟩ := h
  obtain ⟨t, rfl⟩ := rx
  obtain ⟨t', rfl⟩ := ry
  exact add_str (fun t' tk => ⟨.str (i ++ j), H, I.tok _, ⟨_, rfl⟩, q⟩) hz
theorem vals1 {x : V} {us : List Value} (r : Vals [x] us) : ∃ u, us = [u] /\ RelV x u := by
  cases r with
  | cons r1 r2 => cases r2; exact ⟨_, rfl, r1⟩
theorem vals2 {x y : V} {us : List Value} (r : Vals [x, y] us) : ∃ u w', us = [u, w'] /\ RelV x u /\ RelV y w' := by
  cases r with
  | cons r1 r2 =>
    cases r2 with
    | cons r3 r4 => cases r4; exact ⟨_, _, rfl, r1, r3⟩
theorem JQ (hc : X.calm = true) : Yq X (.builtin "max") (fun xs H Q => ∃ i j, xs = [.int i, .int j] /\ Q (.int (if j > i then j else i)) H) := by
  intro pins s σ H xs us Q I r h
  obtain ⟨i, j, rfl, q⟩ := h
  obtain ⟨u, w', rfl, ⟨t, rfl⟩, ⟨t', rfl⟩⟩ := vals2 r
  refine max_two_ints (I.ok.hd hc) fun h' tk k => ⟨_, H, I.kept k, ?_, q⟩
  by_cases hj : j > i
  · rw [if_pos hj, if_pos hj]; exact ⟨_, rfl⟩
  · rw [if_neg hj, if_neg hj]; exact ⟨_, rfl⟩
theorem call_min2 (hc : X.calm = true) : Yq X (.builtin "min") (fun xs H Q => ∃ i j, xs = [.int i, .int j] /\ Q (.int (if j < i then j else i)) H) := by
  intro pins s σ H xs us Q I r h
  obtain ⟨i, j, rfl, q⟩ := h
  obtain ⟨u, w', rfl, ⟨t, rfl⟩, ⟨t', rfl⟩⟩ := vals2 r
  refine min_two_ints (I.ok.hd hc) fun h' tk k => ⟨_, H, I.kept k, ?_, q⟩
  by_cases hj : j < i
  · rw [if_pos hj, if_pos hj]; exact ⟨_, rfl⟩
  · rw [if_neg hj, if_neg hj]; exact ⟨_, rfl⟩
end
end L2
namespace L2
open PySem PySem.Spec PyProof.Rows
structure ObjM (h : Heap) (x dx C : Addr) (mA : Str -> Option Value) : Prop where
  obj : h.get? x = some (PySem.W.instObj C dx)
  ns : h.Ns1 dx mA
  ne : dx ≠ x
theorem lookIn_ns {h : Heap} {dx : Addr} {mA : Str -> Option Value} (n : h.Ns1 dx mA) : ∃ od, h.get? dx = some od /\ ∀ name, PySem.W.lookIn name od = some (mA name) := by
  obtain ⟨o, es, ep, ho, hd, hk, _, hm⟩ := n
  refine ⟨o, ho, fun name => ?_⟩
  have e := hm name
  unfold nsFind findBy at e
  rw [<- Array.find?_toList] at e
  unfold PySem.W.lookIn
  rw [hd]
  dsimp only
  split
  · rename_i y q
    rw [q] at e
    exact congrArg some e
  · rename_i q
    rw [q] at e
    have a : es.toList.any (·.refKey) = false := by
      rw [List.any_eq_false]
      intro y hy
      obtain ⟨z, t, hkey⟩ := hk y (Array.mem_toList_iff.mp hy)
      simp [DictEntry.refKey, hkey]
    have a' : ¬ es.toList.any (·.refKey) = true := by rw [a]; exact Bool.false_ne_true
    rw [if_neg a']
    exact congrArg some e
theorem ObjM.look {h : Heap} {x dx C : Addr} {mA : Str -> Option Value} (I : ObjM h x dx C mA) : ∃ od, PySem.W.InstAt h x (PySem.W.instObj C dx) C (some od) /\ ∀ name, PySem.W.lookIn name od = some (mA name) :=
  let ⟨od, ho, hl⟩ := lookIn_ns I.ns
  ⟨od, ⟨I.obj, rfl, rfl, ho⟩, hl⟩
section
variable {prog : Program} {w : World} {A : Around} {E : Value -> Shared -> Prop} {s : Shared} {K : PySem.W.Frag} {x dx C f : Addr} {mA : Str -> Option Value} {name : Str} {v : Value}
end
theorem RelO.some_of {v : V} {o : Option Value} (r : RelO (some v) o) : ∃ u, o = some u /\ RelV v u := by
  cases o with
  | none => exact (show False from r).elim
  | some u => exact ⟨u, rfl, r⟩
section
variable {P : Program} {w : World} {H H' : Hp} {h h' : Heap} {a C dx : Addr} {fs fs' : List (Str × V)}
theorem ins_get (hok : HOk P w H h) (e : H a = some (.ins C dx fs)) : ∃ mA, ObjM h a dx C mA /\ (∀ f, RelO (fs.lookup f) (mA f)) /\ PySem.Within mA (fs.map (·.1)) /\ fs.length <= 1000 /\ H dx = some (.own a) := by
  obtain ⟨d, z, ne, ob, mA, n, r, q⟩ := (show Z2 P w H h a (.ins C dx fs) from hok a _ e)
  exact ⟨mA, ⟨ob, n, ne⟩, r, q, z, d⟩
end
structure Cls (K : PySem.W.Frag) (C : Addr) : Prop where
  pg : PySem.W.plainGet K C Str.empty = true
  hd : PySem.W.hasDictIn K C = true
  po : PySem.W.plainOver K C = true
  sa : PySem.W.findIn K (.ref C) "__setattr__" = some (some (.builtin "object.__setattr__"))
theorem Cls.get {K : PySem.W.Frag} {C : Addr} (c : Cls K C) (f : Str) : PySem.W.plainGet K C f = true := c.pg
structure Con (K : PySem.W.Frag) (C : Addr) (f : Str) (v : V) (u : Value) : Prop where
  at_ : PySem.W.findIn K (.ref C) f = some (some u)
  rel : RelV v u
  get : PySem.W.specialIn K u "__get__" = some none
  cp : PySem.W.copiedNames.contains f = false
structure Meth (K : PySem.W.Frag) (C : Addr) (m : Str) (f : Addr) : Prop where
  at_ : PySem.W.findIn K (.ref C) m = some (some (.ref f))
  fn : PySem.W.isFn K (.ref f) = true
  kp : PySem.W.keepIn K (.ref f) = true
section
variable {X : Cx} {pins : List (Addr × Obj)} {σ : St} {H : Hp} {s : Shared} {a C dx : Addr} {fs : List (Str × V)} {f : Str} {v : V} {A : Around} {E : Value -> Shared -> Prop}
end
section
variable {X : Cx} {o e value : Expr} {f : Str} {pos pos' tpos : Pos} {ta tv : TE}
end
section
variable {X : Cx} {pins : List (Addr × Obj)} {σ : St} {H : Hp} {s : Shared} {A : Around} {E : Value -> Shared -> Prop} {Q : Value -> Shared -> Prop} {c : Value} {b : Bool}
inductive TyOf (K : PySem.W.Frag) (H : Hp) : V -> Value -> Prop where
  | non : TyOf K H .non (.type "NoneType")
  | bl (x : Bool) : TyOf K H (.bl x) (.type "bool")
  | int (i : Int) : TyOf K H (.int i) (.type "int")
  | str (x : Str) : TyOf K H (.str x) (.type "str")
  | flt (x : UInt64) : TyOf K H (.flt x) (.type "float")
  | lst {a : Addr} {xs : List V} (e : H a = some (.lst xs)) : TyOf K H (.ref a) (.type "list")
  | frz {a : Addr} {o : Obj} {xs : List V} (e : H a = some (.frz o (.lst xs))) : TyOf K H (.ref a) (.type "list")
  | tup {a : Addr} {xs : List V} (e : H a = some (.tup xs)) : TyOf K H (.ref a) (.type "tuple")
  | dK {a : Addr} {kvs : List (Key × V)} (e : H a = some (.dK kvs)) : TyOf K H (.ref a) (.type "dict")
  | dT {a : Addr} {kvs : List (List Key × V)} (e : H a = some (.dT kvs)) : TyOf K H (.ref a) (.type "dict")
  | ins {a C dx : Addr} {fs : List (Str × V)} (e : H a = some (.ins C dx fs)) (cl : Cls K C) (ha : PySem.W.findIn K (.ref C) "__class__" = some (some (.builtin "object.__class__")))
      (hn : PySem.W.specialIn K (.builtin "object.__class__") "__get__" = some (some (.builtin "getset_descriptor.__get__"))) (htk : PySem.W.takesIn K (.builtin "object.__class__") = some true)
      (hm : PySem.W.mroIn K C (.type "object") = some true) : TyOf K H (.ref a) (.ref C)
theorem isinst_ok {x : V} {u t : Value} (I : Inv X pins σ H s) (rx : RelV x u) (ty : TyOf X.K H x t) (e : PySem.W.kitOne X.K t c = some b) (h : ∀ tk, Q (.bool b) { s with toks := tk }) :
    wpAny (model X.prog X.w) A (call (.builtin "isinstance") [u, c]) Q E s := by
  cases ty with
  | non => cases (show u = Value.none from rx); exact PySem.W.kia_one PySem.W.kitx_none I.kIn True.intro e (fun z => nomatch z) h
  | bl y => cases (show u = Value.bool y from rx); exact PySem.W.kia_one PySem.W.kitx_bool I.kIn True.intro e (fun z => nomatch z) h
  | int i => obtain ⟨t, q⟩ := (show ∃ t, u = Value.int i t from rx); cases q; exact PySem.W.kia_one PySem.W.kitx_int I.kIn True.intro e (fun z => nomatch z) h
  | str y => obtain ⟨t, q⟩ := (show ∃ t, u = Value.str y t from rx); cases q; exact PySem.W.kia_one PySem.W.kitx_str I.kIn True.intro e (fun z => nomatch z) h
  | flt y => obtain ⟨t, q⟩ := (show ∃ t, u = Value.float y t from rx); cases q; exact PySem.W.kia_one PySem.W.kitx_float I.kIn True.intro e (fun z => nomatch z) h
  | @lst a xs ea =>
    cases (show u = Value.ref a from rx)
    obtain ⟨_, _, n, _, h1⟩ := (show Z2 X.prog X.w H s.heap a (.lst xs) from I.hok a _ ea)
    exact PySem.W.kia_one PySem.W.kitx_list I.kIn ⟨_, h1, rfl⟩ e (fun z => nomatch z) h
  | @frz a ob xs ea =>
    cases (show u = Value.ref a from rx)
    obtain ⟨_, _, _, n, _, h1⟩ := (show Z2 X.prog X.w H s.heap a (.frz ob (.lst xs)) from I.hok a _ ea)
    exact PySem.W.kia_one PySem.W.kitx_list I.kIn ⟨_, h1, rfl⟩ e (fun z => nomatch z) h
  | @tup a xs ea =>
    cases (show u = Value.ref a from rx)
    obtain ⟨_, _, _, p⟩ := (show Z2 X.prog X.w H s.heap a (.tup xs) from I.hok a _ ea)
    obtain ⟨o, h1, _, h2, _⟩ := p
    exact PySem.W.kia_one PySem.W.kitx_tuple I.kIn ⟨o, h1, h2⟩ e (fun z => nomatch z) h
  | @dK a kvs ea =>
    cases (show u = Value.ref a from rx)
    obtain ⟨_, _, vs, _, p⟩ := (show Z2 X.prog X.w H s.heap a (.dK kvs) from I.hok a _ ea)
    obtain ⟨o, es, ep, h1, h2, _⟩ := p
    exact PySem.W.kia_one PySem.W.kitx_dict I.kIn ⟨o, h1, h2.1⟩ e (fun z => nomatch z) h
  | @dT a kvs ea =>
    cases (show u = Value.ref a from rx)
    obtain ⟨_, _, xs, _, o, es, ep, h1, h2, _⟩ := (show Z2 X.prog X.w H s.heap a (.dT kvs) from I.hok a _ ea)
    exact PySem.W.kia_one PySem.W.kitx_dict I.kIn ⟨o, h1, h2.1⟩ e (fun z => nomatch z) h
  | @ins a C dx fs ea cl ha hn htk hm =>
    cases (show u = Value.ref a from rx)
    obtain ⟨mA, O, _⟩ := ins_get I.hok ea
    obtain ⟨od, J, _⟩ := O.look
    exact PySem.W.kia_one (PySem.W.kitx_own (cl.get _) cl.hd ha hn htk hm) I.kIn J e (fun z => nomatch z) h
end
end L2
namespace L2
open PySem PySem.Spec PyProof.Rows
structure Room (k : Nat) (A : Around) : Prop where
  hd : A.handled = none
  dp : A.depth + 3 * k + 5 < recursionLimit
  un : A.units + 16 * k + 200 < cLine
theorem Room.mono {j k : Nat} {A : Around} (r : Room k A) (h : j <= k) : Room j A := ⟨r.hd, by have := r.dp; omega, by have := r.un; omega⟩
theorem Room.deeper {k : Nat} {A : Around} (r : Room (k + 1) A) (env : Env) : Room k (A.deeper env) :=
  ⟨r.hd, by have := r.dp; show A.depth + 1 + 3 * k + 5 < _; omega, by have := r.un; show A.units + 3 + 16 * k + 200 < _; omega⟩
theorem Room.in1 {k : Nat} {A : Around} (r : Room (k + 1) A) : Room k A.in1 :=
  ⟨r.hd, by have := r.dp; show A.depth + 3 * k + 5 < _; omega, by have := r.un; show A.units + 1 + 16 * k + 200 < _; omega⟩
theorem Room.depth {k : Nat} {A : Around} (r : Room k A) : A.depth < recursionLimit := by have := r.dp; omega
theorem Room.units {k : Nat} {A : Around} (r : Room k A) : A.units + 64 < cLine := by have := r.un; omega
theorem Room.units0 {k : Nat} {A : Around} (r : Room k A) : A.units < cLine := by have := r.un; omega
def tNil : TA := fun _ H Q => Q [] H
def Yf (ta : TE) (tr : TA) : TA := fun σ H Q => ta σ H fun x H1 => tr σ H1 fun xs H2 => Q (x :: xs) H2
section
variable {X : Cx} {e : Expr} {es : List Expr} {te : TE} {t : TA} {pos : Pos}
theorem ZF : PA X [] tNil := fun _ _ _ _ H Q I h => Calls.spliced_nil ⟨[], H, I, .nil, h⟩
theorem ZA (ha : PE X e te) (hr : PA X es t) (hs : starEach (e :: es) X.env = (false, eval e X.env) :: starEach es X.env := by rfl) : PA X (e :: es) (Yf te t) := by
  intro pos pins s σ H Q I h
  rw [hs]
  show wpAny _ _ (spliced ((false, eval e X.env) :: backTo pos (starEach es X.env))) _ _ s
  refine Calls.spliced_cons (thn (ha pins s σ H _ I h) fun u s1 ⟨x, H1, I1, r1, q1⟩ => ?_)
  exact thn (hr pos pins s1 σ H1 _ I1 q1) fun us s2 ⟨xs, H2, I2, r2, q2⟩ => ⟨x :: xs, H2, I2, .cons r1 r2, q2⟩
def tTup (t : TA) : TE := fun σ H Q => t σ H fun xs H1 => xs.length <= sizeLine /\ ∀ p, H1 p = none -> Q (.ref p) (upd H1 p (.tup xs))
def tLst (t : TA) : TE := fun σ H Q => t σ H fun xs H1 => xs.length <= sizeLine /\ ∀ p, H1 p = none -> Q (.ref p) (upd H1 p (.lst xs))
theorem Zn {x1} (h : PA X es t) : PE X (.Tuple es x1 pos) (tTup t) := by
  intro pins s σ H Q I hq
  refine wpAny_Tuple_spliced (thn (h pos pins s σ H _ I hq) fun us s1 ⟨xs, H1, I1, r, z, q⟩ => ⟨by rw [<- r.length]; exact z, ?_⟩)
  have hf : H1 s1.heap.objs.size = none := I1.hok.fresh (Nat.le_refl _)
  refine ⟨.ref s1.heap.objs.size, upd H1 s1.heap.objs.size (.tup xs), I1.laid (t' := s1.toks) (fun b u e => Heap.get?_push_of_some _ e) (Nat.le_refl _) ?_, rfl, q _ hf⟩
  exact ⟨z, us, r, ⟨_, Heap.get?_push_size _ rfl, rfl, rfl, _, rfl⟩⟩
theorem YF (h : PA X es t) : PE X (.List es pos) (tLst t) := by
  intro pins s σ H Q I hq
  refine wpAny_List_spliced (thn (h pos pins s σ H _ I hq) fun us s1 ⟨xs, H1, I1, r, z, q⟩ => ⟨by rw [<- r.length]; exact z, ?_⟩)
  have hf : H1 s1.heap.objs.size = none := I1.hok.fresh (Nat.le_refl _)
  refine ⟨.ref s1.heap.objs.size, upd H1 s1.heap.objs.size (.lst xs), I1.laid (t' := s1.toks) (fun b u e => Heap.get?_push_of_some _ e) (Nat.le_refl _) ?_, rfl, q _ hf⟩
  exact ⟨z, us, 0, r, Heap.get?_push_size _ rfl⟩
end
abbrev Sp := List V -> Hp -> VK -> XK -> Prop
abbrev CXT := List Env -> Hp -> Shared -> XK -> Value -> Shared -> Prop
structure Env0 (P : Program) (w : World) (K : PySem.W.Frag) (mg : Str -> Option Value) (base : Heap) (A : Around) (outer : List Env) (s : Shared) (H : Hp) : Prop where
  frames : A.frames = some outer
  mod : Mod K mg base
  bs : ∀ b o, base.get? b = some o -> s.heap.get? b = some o /\ H b = none
  bsz : base.objs.size <= s.heap.objs.size
  funs : s.heap.FunFrames base outer
  frf : ∀ b ∈ frs outer, H b = none
  hok : HOk P w H s.heap
  bare : AllBare s.gens
def CE (outer : List Env) (P : Program) (w : World) (H : Hp) (s : Shared) (Q : VK) (u : Value) (s' : Shared) : Prop :=
  ∃ v H', s'.os = s.os /\ AllBare s'.gens /\ Un (frs outer) [] H H' s.heap s'.heap /\ HOk P w H' s'.heap /\ RelV v u /\ Q v H'
def CR (CX : CXT) (outer : List Env) (P : Program) (w : World) (H : Hp) (s : Shared) (Q : VK) (E : XK) (r : Result) (s' : Shared) : Prop :=
  match r with
  | .ok (.ret u) => CE outer P w H s Q u s'
  | .ok _ => False
  | .error e => CX outer H s E e s'
structure FnOk (P : Program) (w : World) (K : PySem.W.Frag) (mg : Str -> Option Value) (base : Heap) (CX : CXT) (k : Nat) (f : Addr) (fd : FuncData) (ps : List Str) (sp : Sp) : Prop where
  len : ∀ vs H Q E, sp vs H Q E -> vs.length = ps.length
  run : ∀ (A : Around) (outer : List Env) (s : Shared) (H : Hp) (args : Args) (us : List Value) (vs : List V) (Q : VK) (E : XK), Room k A -> Env0 P w K mg base A outer s H -> BindsTo s fd args (ps.zip us) -> Vals vs us -> sp vs H Q E ->
    codeAny (model P w) A (.call (.ref f) args) (CR CX outer P w H s Q E) s
theorem FnOk.mono {P : Program} {w : World} {K : PySem.W.Frag} {mg : Str -> Option Value} {base : Heap} {CX : CXT} {j k : Nat} {f : Addr} {fd : FuncData} {ps : List Str} {sp : Sp} (F : FnOk P w K mg base CX j f fd ps sp) (h : j <= k) :
    FnOk P w K mg base CX k f fd ps sp := ⟨F.len, fun A outer s H args us vs Q E hr => F.run A outer s H args us vs Q E (hr.mono h)⟩
section
variable {X : Cx} {pins : List (Addr × Obj)} {σ : St} {H : Hp} {s s' : Shared}
theorem Inv.env0 (I : Inv X pins σ H s) : Env0 X.prog X.w X.K X.mg X.base X.A X.stack s H :=
  ⟨I.ok.frames, I.ok.mod, I.bs, Nat.le_trans I.ok.bsz I.sz, I.stack, I.stkFree, I.hok, I.bare⟩
theorem Inv.after {Q : VK} {u : Value} (I : Inv X pins σ H s) (h : CE X.stack X.prog X.w H s Q u s') : EP X pins σ Q u s' := by
  obtain ⟨v, H', os, bare, un, hok, r, q⟩ := h
  obtain ⟨hh, g, d, t, os'⟩ := s'
  obtain rfl : os' = s.os := os
  exact ⟨v, H', I.call (h' := hh) (g' := g) (d' := d) (t' := t) (ch := []) un hok bare (fun b z => absurd z (by simp)), r, q⟩
end
def tCall (sp : Sp) (dvs : List V) (E : XK) (t : TA) : TE := fun σ H Q => t σ H fun vs H1 => sp (vs ++ dvs) H1 Q E
def Binds (K : PySem.W.Frag) (fd : FuncData) (ps : List Str) (ds : List Value) : Prop :=
  ∀ (s : Shared) (us : List Value), K.In s.heap -> (us ++ ds).length = ps.length -> BindsTo s fd ⟨us, []⟩ (ps.zip (us ++ ds))
theorem Binds.all {K : PySem.W.Frag} {fd : FuncData} {ps : List Str} (h : ∀ us : List Value, us.length = ps.length -> bindArgs fd ⟨us, []⟩ = pure (ps.zip us)) : Binds K fd ps [] := fun s us _ hl => by
  rw [List.append_nil] at hl ⊢
  exact .of_eq (h us hl)
def Passes (CX : CXT) (X : Cx) (E : XK) : Prop := ∀ (pins : List (Addr × Obj)) (σ : St) (H : Hp) (s : Shared) (e : Value) (s' : Shared), Inv X pins σ H s -> CX X.stack H s E e s' -> X.xe e s'
section
variable {X : Cx} {CX : CXT} {k : Nat} {f C : Addr} {fd : FuncData} {ps : List Str} {sp : Sp} {dvs : List V} {ds : List Value} {E : XK} {x m : Str} {p pos apos : Pos} {e o : Expr} {es : List Expr} {ta : TE} {t : TA}
theorem run_fn {pins : List (Addr × Obj)} {σ : St} {H : Hp} {s : Shared} {Q : VK} {us : List Value} {vs : List V} (F : FnOk X.prog X.w X.K X.mg X.base CX k f fd ps sp) (hr : Room k X.A) (hb : Binds X.K fd ps ds) (hd : Vals dvs ds) (hx : Passes CX X E)
    (I : Inv X pins σ H s) (r : Vals vs us) (h : sp (vs ++ dvs) H Q E) : wpAny (model X.prog X.w) X.A (call (.ref f) us) (EP X pins σ Q) X.xe s := by
  have r2 : Vals (vs ++ dvs) (us ++ ds) := r.append hd
  have hl : (us ++ ds).length = ps.length := by rw [<- r2.length]; exact F.len _ _ _ _ h
  refine wpAny_call (codeAny_mono (F.run X.A X.stack s H ⟨us, []⟩ (us ++ ds) (vs ++ dvs) Q E hr I.env0 (hb s us I.kIn hl) r2 h) fun r s' hq => ?_)
  cases r with
  | error e => exact hx pins σ H s e s' I hq
  | ok fl =>
    cases fl with
    | ret u => exact I.after hq
    | next => exact False.elim hq
    | brk => exact False.elim hq
    | cont => exact False.elim hq
theorem ZK (F : FnOk X.prog X.w X.K X.mg X.base CX k f fd ps sp) (hr : Room k X.A) (hg : Gl X x) (hm : X.mg x = some (.ref f)) (hk : PySem.W.keepIn X.K (.ref f) = true) (hb : Binds X.K fd ps ds) (hd : Vals dvs ds) (hx : Passes CX X E)
    (ha : PA X (e :: es) t) (hdb : (x == ("__debug__" : Str)) = false := by decide) (he : starEach (e :: es) X.env = (false, eval e X.env) :: starEach es X.env := by rfl) (hpl : (backTo pos (starEach es X.env)).any (·.1) = false := by rfl) :
    PE X (.Call (.Name x p) (e :: es) [] pos) (tCall sp dvs E t) := by
  intro pins s σ H Q I h
  refine wpAny_Call_Name_kw (ld_glob I hg hm ?_ hdb)
  refine PySem.W.callWith_K (h₀ := X.base) I.ok.mod.kin hk (thn (ha pos pins s σ H _ I h) fun us s1 ⟨vs, H1, I1, r, q⟩ => ⟨I1.kIn, ?_⟩) he hpl
  exact run_fn F hr hb hd hx I1 r q
structure Mk (K : PySem.W.Frag) (C f : Addr) : Prop where
  makes : PySem.W.makesIn K C = true
  init : PySem.W.findIn K (.ref C) "__init__" = some (some (.ref f))
  fn : PySem.W.isFn K (.ref f) = true
  kp : PySem.W.keepIn K (.ref C) = true
end
section
variable {X : Cx} {CX : CXT} {k : Nat} {f C : Addr} {fd : FuncData} {ps ks : List Str} {sp : Sp} {E : XK} {x m : Str} {p pos apos kpos : Pos} {e o : Expr} {es : List Expr} {kws : List Keyword} {te ta : TE} {t tk : TA} {nm : Option Str}
structure KBinds (K : PySem.W.Frag) (fd : FuncData) (ps ks : List Str) (g : List Value -> List Value -> List Value) (gV : List V -> List V -> List V) : Prop where
  to : ∀ (s : Shared) (us ws : List Value), K.In s.heap -> (g us ws).length = ps.length -> BindsTo s fd ⟨us, ks.zip ws⟩ (ps.zip (g us ws))
  rel : ∀ {vs : List V} {us : List Value} {zs : List V} {ws : List Value}, Vals vs us -> Vals zs ws -> Vals (gV vs zs) (g us ws)
variable {g : List Value -> List Value -> List Value} {gV : List V -> List V -> List V}
end
structure FnScope (N P : List Str) (sc : Scope) : Prop where
  kind : sc.kind = .function
  co : sc.isCoroutine = false
  gen : sc.isGenerator = false
  nd : N.Nodup
  pre : N.take P.length = P
  par : ∀ x ∈ P, sc.names.lookup x = some .local ∨ sc.names.lookup x = some .cell
  nofree : ∀ y ∈ sc.names, y.2 ≠ .free
theorem bindL_out {kindOf : Str -> Option NameKind} {x : Str} : ∀ {binds : List (Str × Value)} {m : Str -> Option Value}, (∀ v, (x, v) ∉ binds) -> bindL kindOf binds m x = m x
  | [], _, _ => rfl
  | (n, v) :: r, m, h => by
    unfold bindL
    rw [bindL_out fun w hw => h w (List.mem_cons_of_mem _ hw)]
    split
    · have : x ≠ n := by rintro rfl; exact h v List.mem_cons_self
      simp [this]
    · rfl
theorem bindC_out {kindOf : Str -> Option NameKind} {x : Str} : ∀ {binds : List (Str × Value)} {m : Str -> Option Value}, (∀ v, (x, v) ∉ binds) -> bindC kindOf binds m x = m x
  | [], _, _ => rfl
  | (n, v) :: r, m, h => by
    unfold bindC
    rw [bindC_out fun w hw => h w (List.mem_cons_of_mem _ hw)]
    split
    · rfl
    · have : x ≠ n := by rintro rfl; exact h v List.mem_cons_self
      simp [this]
theorem bindL_get {kindOf : Str -> Option NameKind} {x : Str} {v : Value} : ∀ {P : List Str} {vs : List Value} {i : Nat} {m : Str -> Option Value}, P.Nodup -> P[i]? = some x -> vs[i]? = some v -> kindOf x = some .local ->
    bindL kindOf (P.zip vs) m x = some v
  | [], _, _, _, _, h, _, _ => by simp at h
  | _ :: _, [], _, _, _, _, h, _ => by simp at h
  | p :: P, w :: vs, 0, m, nd, h1, h2, hk => by
    simp at h1 h2; subst h1; subst h2
    show bindL kindOf ((p, w) :: P.zip vs) m p = _
    unfold bindL
    rw [bindL_out fun v hv => (List.nodup_cons.mp nd).1 (List.of_mem_zip hv).1, if_pos hk]
    simp
  | p :: P, w :: vs, i + 1, m, nd, h1, h2, hk => by
    show bindL kindOf ((p, w) :: P.zip vs) m x = _
    unfold bindL
    exact bindL_get (i := i) (List.nodup_cons.mp nd).2 (by simpa using h1) (by simpa using h2) hk
theorem bindC_get {kindOf : Str -> Option NameKind} {x : Str} {v : Value} : ∀ {P : List Str} {vs : List Value} {i : Nat} {m : Str -> Option Value}, P.Nodup -> P[i]? = some x -> vs[i]? = some v -> kindOf x ≠ some .local ->
    bindC kindOf (P.zip vs) m x = some v
  | [], _, _, _, _, h, _, _ => by simp at h
  | _ :: _, [], _, _, _, _, h, _ => by simp at h
  | p :: P, w :: vs, 0, m, nd, h1, h2, hk => by
    simp at h1 h2; subst h1; subst h2
    show bindC kindOf ((p, w) :: P.zip vs) m p = _
    unfold bindC
    rw [bindC_out fun v hv => (List.nodup_cons.mp nd).1 (List.of_mem_zip hv).1, if_neg hk]
    simp
  | p :: P, w :: vs, i + 1, m, nd, h1, h2, hk => by
    show bindC kindOf ((p, w) :: P.zip vs) m x = _
    unfold bindC
    exact bindC_get (i := i) (List.nodup_cons.mp nd).2 (by simpa using h1) (by simpa using h2) hk
def start (N : List Str) (vs : List V) : St := vs.map some ++ List.replicate (N.length - vs.length) none
def Y9 (CX : CXT) (P : Program) (w : World) (K : PySem.W.Frag) (mg : Str -> Option Value) (base : Heap) (N : List Str) (qual : Str) (scope : Scope) (f : Addr) (cd : Value) (A : Around) (outer : List Env) (s : Shared) (H : Hp) (E : XK) : Cx where
  prog := P
  w := w
  K := K
  mg := mg
  base := base
  A := A.deeper (envOfC qual scope s.heap.objs.size f cd)
  N := N
  s₀ := s
  H₀ := H
  env := envOfC qual scope s.heap.objs.size f cd
  outer := outer
  stack := envOfC qual scope s.heap.objs.size f cd :: outer
  ex := []
  calm := true
  fn := fun _ => true
  pn := []
  xe := fun e s' => wpAny (model P w) (A.deeper (envOfC qual scope s.heap.objs.size f cd)) (leaving (envOfC qual scope s.heap.objs.size f cd) e) (fun _ s'' => CX outer H s E e s'') (fun e' s'' => CX outer H s E e' s'') s'
theorem cell_has {sc : Scope} {n : Nat} {x : Str} (h : sc.names.lookup x = some .cell) : ∃ c, (cellsFrom n sc.names []).lookup x = some c := by
  have q := PySem.W.cellsFrom_some sc.names n [] (.inl h)
  exact Option.isSome_iff_exists.mp q
theorem inv_start {CX : CXT} {P : Program} {w : World} {K : PySem.W.Frag} {mg : Str -> Option Value} {base : Heap} {N ps : List Str} {qual : Str} {scope : Scope} {f : Addr} {cd : Value} {A : Around} {outer : List Env} {s s1 : Shared} {H : Hp} {E : XK} {us : List Value} {vs : List V}
    (S : FnScope N ps scope) (hd : A.handled = none) (e0 : Env0 P w K mg base A outer s H) (hl : vs.length = ps.length) (r : Vals vs us)
    (x : InCallC s s.heap.objs.size (bindL (envOfC qual scope s.heap.objs.size f cd).kindOf (ps.zip us) fun _ => none) (cellsFrom (s.heap.objs.size + 1) scope.names []) (bindC (envOfC qual scope s.heap.objs.size f cd).kindOf (ps.zip us) fun _ => none) s1) :
    Inv (Y9 CX P w K mg base N qual scope f cd A outer s H E) [] (start N vs) H s1 := by
  have hpl : ps.length <= N.length := by have := congrArg List.length S.pre; rw [List.length_take] at this; omega
  obtain ⟨h1, tk, rfl, hk⟩ := x.done
  have noA : ∀ b : Addr, b ∉ (Y9 CX P w K mg base N qual scope f cd A outer s H E).ex := fun b z => absurd (show b ∈ ([] : List Addr) from z) (by simp)
  refine ⟨⟨e0.mod, S.kind, rfl, rfl, Nat.le_refl _, fun y z c h1 h2 => ?_, fun y hy => ?_, fun y c _ h => ?_, fun _ => hd, Around.frames_deeper e0.frames, .inr ⟨rfl, rfl⟩, fun b z => absurd z (noA b), e0.bs, e0.bsz, fun b _ _ => noA b, fun b z => absurd z (noA b), e0.funs, e0.frf⟩,
    rfl, e0.bare, Un.kept hk, ⟨_, x.toInCall.ns, fun i y v h1 h2 h3 => ?_⟩, fun y c h => ⟨_, x.cell y c h⟩, e0.hok.fresh (Nat.le_refl _), fun y c h => ?_, fun p hp => absurd (show p ∈ ([] : List (Addr × Obj)) from hp) (by simp), e0.hok.kept hk, ?_⟩
  · exact name_of_addr x.apart (PySem.mem_of_lookup h1) (PySem.mem_of_lookup h2)
  · have hy : scope.names.lookup y = some .cell ∨ scope.names.lookup y = some .free := hy
    rcases hy with hy | hy
    · exact cell_has hy
    · exact absurd rfl (S.nofree _ (PySem.mem_of_lookup hy))
  · exact Nat.le_of_lt (x.above y c (PySem.mem_of_lookup h))
  · have hi : i < vs.length := by
      unfold start at h2
      by_cases hi : i < vs.length
      · exact hi
      · rw [List.getElem?_append_right (by simpa using hi)] at h2
        rw [List.getElem?_replicate] at h2
        split at h2 <;> cases h2
    have ha : vs[i]? = some v := by
      unfold start at h2
      rw [List.getElem?_append_left (by simpa using hi), List.getElem?_map] at h2
      cases e : vs[i]? with
      | none => rw [e] at h2; cases h2
      | some a => rw [e] at h2; cases h2; rfl
    obtain ⟨u, hu, rv⟩ := r.get ha
    have hp : ps[i]? = some y := by
      rw [<- S.pre, List.getElem?_take_of_lt (by omega)]; exact h1
    have ndP : ps.Nodup := by rw [<- S.pre]; exact S.nd.sublist (List.take_sublist _ _)
    refine ⟨u, rv, ?_⟩
    rcases S.par y (List.mem_of_getElem? hp) with k | k
    · exact .inl ⟨k, bindL_get ndP hp hu k⟩
    · obtain ⟨c, e⟩ := cell_has (n := s.heap.objs.size + 1) k
      refine .inr ⟨.inl k, c, e, ?_⟩
      have q := x.cell y c e
      rw [bindC_get ndP hp hu (by show scope.names.lookup y ≠ _; rw [k]; decide)] at q
      exact q
  · exact e0.hok.fresh (Nat.le_of_lt (x.above y c (PySem.mem_of_lookup h)))
  · unfold start
    show _ = N.length
    rw [List.length_append, List.length_map, List.length_replicate]
    omega
theorem fn_of {CX : CXT} {P : Program} {w : World} {K : PySem.W.Frag} {mg : Str -> Option Value} {base : Heap} {k : Nat} {f : Addr} {name qual : Str} {params : Arguments} {body : List Stmt} {scope : Scope} {dV kV doc pm cdv ct oc : Value} {an od : Option Addr}
    {osl : Array (Option Value)} {N ps : List Str} {sp : Sp} (lk : K.lookup f = some ⟨oc, od, .func (PySem.W.fnOf name qual params body scope dV kV doc pm an cdv ct), osl⟩) (hcd : PySem.W.codeIn K cdv qual = true) (S : FnScope N ps scope)
    (len : ∀ vs H Q E, sp vs H Q E -> vs.length = ps.length)
    (hbody : ∀ (A : Around) (outer : List Env) (s : Shared) (H : Hp) (vs : List V) (Q : VK) (E : XK), Room k (A.deeper (envOfC qual scope s.heap.objs.size f cdv)) -> sp vs H Q E ->
      ∃ t, PSs (Y9 CX P w K mg base N qual scope f cdv A outer s H E) body t /\ t { nx := fun _ H' => Q .non H', rt := Q } (start N vs) H) :
    FnOk P w K mg base CX (k + 1) f (PySem.W.fnOf name qual params body scope dV kV doc pm an cdv ct) ps sp := by
  refine ⟨len, fun A outer s H args us vs Q E hr e0 hb r hsp => ?_⟩
  have hl := len _ _ _ _ hsp
  have KX : K.In s.heap := e0.mod.kin.keeps fun b o e => (e0.bs b o e).1
  have lim : s.heap.NoLimit := e0.mod.nolimit.keeps fun b o e => (e0.bs b o e).1
  have hkind : ∀ y ∈ ps.zip us, scope.names.lookup y.1 = some .local ∨ (scope.names.lookup y.1 = some .cell /\ ((cellsFrom (s.heap.objs.size + 1) scope.names []).lookup y.1).isSome = true) := fun ⟨n, v⟩ hy => by
    rcases S.par n (List.of_mem_zip hy).1 with q | q
    · exact .inl q
    · exact .inr ⟨q, PySem.W.cellsFrom_some _ _ _ (.inl q)⟩
  refine codeAny_call_function hr.depth (KX _ _ lk) rfl S.co S.gen rfl (PySem.W.codeRec_of KX hcd) (hb _ _ _ _ ?_)
  refine wpAny_newFunctionEnv_cells S.kind hkind fun env he s1 x => ?_
  subst he
  refine ⟨lim.keeps x.toInCall.keep, codeAny_func ?_⟩
  obtain ⟨t, ht, hq⟩ := hbody A outer s H vs Q E (hr.deeper _) hsp
  have I : Inv (Y9 CX P w K mg base N qual scope f cdv A outer s H E) [] (start N vs) H s1 := inv_start S hr.hd e0 hl r x
  refine wpAny_mono (ht [] s1 (start N vs) H _ I hq) (fun fl s' hs => ?_) fun e s' hs => hs
  have fin : ∀ {σ' : St} {H' : Hp} {v : V} {u : Value}, Inv (Y9 CX P w K mg base N qual scope f cdv A outer s H E) [] σ' H' s' -> RelV v u -> Q v H' -> CE outer P w H s Q u s' :=
    fun {σ' H' v u} J rv q => ⟨v, H', J.os, J.bare, J.base, J.hok, rv, q⟩
  cases fl with
  | ret u =>
    obtain ⟨v, σ', H', J, rv, q⟩ := hs
    exact fin J rv q
  | next =>
    obtain ⟨σ', H', J, q⟩ := hs
    exact fin (v := V.non) (u := Value.none) J rfl q
  | brk =>
    obtain ⟨_, _, _, q⟩ := hs
    exact False.elim q
  | cont =>
    obtain ⟨_, _, _, q⟩ := hs
    exact False.elim q
end L2
namespace L2
open PySem PySem.Spec PyProof.Rows
section
variable {X : Cx} {x : Str} {p pos : Pos} {e : Expr} {es : List Expr} {t : TA} {id T : String} {r : List V -> Hp -> VK -> Prop}
def tCB (r : List V -> Hp -> VK -> Prop) (t : TA) : TE := fun σ H Q => t σ H fun vs H1 => r vs H1 Q
theorem Zi (hc : Yq X (.builtin id) r) (hg : Gl X x) (hm : X.mg x = none) (hv : bootBuiltins x = some (.builtin id)) (ha : PA X (e :: es) t) (hn : x ≠ "__name__" := by decide) (hdb : (x == ("__debug__" : Str)) = false := by decide)
    (he : starEach (e :: es) X.env = (false, eval e X.env) :: starEach es X.env := by rfl) (hpl : (backTo pos (starEach es X.env)).any (·.1) = false := by rfl) : PE X (.Call (.Name x p) (e :: es) [] pos) (tCB r t) := by
  intro pins s σ H Q I h
  refine wpAny_Call_Name_kw (Va I hg hm hv ?_ hn hdb)
  exact PyProof.Rows.callWith_builtin1 (thn (ha pos pins s σ H _ I h) fun us s1 ⟨vs, H1, I1, r1, q1⟩ => hc pins s1 σ H1 vs us Q I1 r1 q1) he hpl
theorem Zs (hc : Yq X (.type T) r) (hg : Gl X x) (hm : X.mg x = none) (hv : bootBuiltins x = some (.type T)) (ha : PA X (e :: es) t) (hn : x ≠ "__name__" := by decide) (hdb : (x == ("__debug__" : Str)) = false := by decide)
    (he : starEach (e :: es) X.env = (false, eval e X.env) :: starEach es X.env := by rfl) (hpl : (backTo pos (starEach es X.env)).any (·.1) = false := by rfl) : PE X (.Call (.Name x p) (e :: es) [] pos) (tCB r t) := by
  intro pins s σ H Q I h
  refine wpAny_Call_Name_kw (Va I hg hm hv ?_ hn hdb)
  exact PyProof.Rows.callWith_type1 (thn (ha pos pins s σ H _ I h) fun us s1 ⟨vs, H1, I1, r1, q1⟩ => hc pins s1 σ H1 vs us Q I1 r1 q1) he hpl
end
end L2
namespace HT
open PySem PyProof.Rows
def lexLt : List Int -> List Int -> Bool
  | [], [] => false
  | [], _ :: _ => true
  | _ :: _, [] => false
  | x :: xs, y :: ys => if x = y then lexLt xs ys else decide (x < y)
theorem lexLt_cons (x y : Int) (xs ys : List Int) : lexLt (x :: xs) (y :: ys) = if x = y then lexLt xs ys else decide (x < y) := rfl
theorem lexLt_nil_nil : lexLt [] [] = false := rfl
theorem lexLt_nil_cons (y : Int) (ys : List Int) : lexLt [] (y :: ys) = true := rfl
theorem lexLt_cons_nil (x : Int) (xs : List Int) : lexLt (x :: xs) [] = false := rfl
theorem eqAt_int (A : Around) (s : Shared) (a : Int) (t : Tok) (c : Int) (u : Tok) : ∃ e, SeqAt.EqAt A s (.int a t) (.int c u) e /\ (e = true ↔ a = c) :=
  ⟨(a == c), SeqAt.EqAt.int_int a t c u, by simp⟩
theorem rcLt_int (A : Around) (s : Shared) (a : Int) (t : Tok) (c : Int) (u : Tok) (prog : Program) (w : World) (E : Value -> Shared -> Prop) (Q : Value -> Shared -> Prop) (h : Q (.bool (decide (a < c))) s) :
    wpAny (model prog w) A (richCompare .Lt (.int a t) (.int c u)) Q E s :=
  (PyProof.Rows.lt_int h : wpAny (model prog w) A (compareOp .Lt (.int a t) (.int c u)) Q E s)
section
open PySem.SeqAt
open PySem.AutoSeq1 (wpAny_loadPart')
open PySem.MeetsSeq PySem.MeetsSeq2 PySem.MeetsSeq3
theorem tuple_lt_ints (l b : Addr) (items items2 : Array Value) (n n2 : Nat) (dd dd2 : Option Addr) (sl sl2 : Array (Option Value)) (ns ms : List Int) (hi : IntsAre items.toList ns) (hj : IntsAre items2.toList ms) :
    Meets (Builtin.«tuple.__lt__» ⟨[.ref l, .ref b], []⟩)
      (fun _ R s => s.heap.get? l = some { cls := .type "tuple", dict := dd, data := .seq items n, slots := sl } /\ s.heap.get? b = some { cls := .type "tuple", dict := dd2, data := .seq items2 n2, slots := sl2 } /\
        R (.ok (.ret (.bool (lexLt ns ms)))) s) :=
  .of_wp fun prog w A R s h => by
    obtain ⟨hp, g, d, tk, os⟩ := s; obtain ⟨hl, hb, h⟩ := h
    have f2 := AutoSeq1.sub_tuple_tuple
    have z1 : items.size = ns.length := by rw [<- hi.length]; simp
    have z2 : items2.size = ms.length := by rw [<- hj.length]; simp
    wp_walk using wpAny_loadPart' hl, wpAny_loadPart' hb, wpAny_forIn_list _ (fun rest b s' => b.1 = none /\ s' = ⟨hp, g, d, tk, os⟩ /\ ∃ (vs ws : List Value) (ns' ms' : List Int), rest = vs.zip ws /\
      IntsAre vs ns' /\ IntsAre ws ms' /\ ns'.length + items2.size = ms'.length + items.size /\ R (.ok (.ret (.bool (lexLt ns' ms')))) ⟨hp, g, d, tk, os⟩) _
    case turn =>
      rintro ⟨y, x⟩ rest b s' ⟨hb', rfl, vs, ws, ns', ms', hz, hvi, hwi, hlen, hR⟩
      cases hvi with
      | nil => rw [List.zip_nil_left] at hz; cases hz
      | cons a t hvi' =>
        cases hwi with
        | nil => rw [List.zip_nil_right] at hz; cases hz
        | cons c u hwi' =>
          rw [List.zip_cons_cons] at hz
          injection hz with hyx hrest
          injection hyx with hy hx
          subst hy hx
          rw [lexLt_cons] at hR
          simp only [List.length_cons] at hlen
          obtain ⟨e, he, hiff⟩ := eqAt_int A.in1 ⟨hp, g, d, tk, os⟩ a t c u
          refine wpAny_bind (he prog w _ _ ?_)
          cases e with
          | true =>
            rw [if_pos (hiff.mp rfl)] at hR
            wp_walk
            exact ⟨rfl, rfl, _, _, _, _, hrest, hvi', hwi', by omega, hR⟩
          | false =>
            rw [if_neg (fun q => absurd (hiff.mpr q) Bool.false_ne_true)] at hR
            have hri := rcLt_int A.in1 ⟨hp, g, d, tk, os⟩ a t c u prog w
            wp_walk using hri
            exact ⟨_, rfl, by simpa using hR⟩
    case fin =>
      rintro ⟨b1, b2⟩ s' ⟨hb', rfl, vs, ws, ns', ms', hz, hvi, hwi, hlen, hR⟩
      simp only at hb'
      subst hb'
      have hv : lexLt ns' ms' = decide (items.size < items2.size) := by
        cases hvi with
        | nil =>
          cases hwi with
          | nil =>
            simp only [List.length_nil] at hlen
            rw [lexLt_nil_nil]
            exact (decide_eq_false (by omega)).symm
          | cons c u hw =>
            simp only [List.length_nil, List.length_cons] at hlen
            rw [lexLt_nil_cons]
            exact (decide_eq_true (by omega)).symm
        | cons a t hv =>
          cases hwi with
          | nil =>
            simp only [List.length_nil, List.length_cons] at hlen
            rw [lexLt_cons_nil]
            exact (decide_eq_false (by omega)).symm
          | cons c u hw =>
            rw [List.zip_cons_cons] at hz
            cases hz
      rw [hv] at hR
      wp_walk
      exact ⟨_, rfl, by simpa [Builtin.Tuple.tupleCompareSizes] using hR⟩
    case h =>
      exact ⟨rfl, rfl, items.toList, items2.toList, ns, ms, rfl, hi, hj, by omega, h⟩
end
section
variable {prog : Program} {w : World} {A : Around} {E : Value -> Shared -> Prop} {s : Shared}
theorem cat_tup {t b : Addr} {vs ws : List Value} {Q : Value -> Shared -> Prop} (ht : IsTup s.heap t vs.toArray) (hb : IsTup s.heap b ws.toArray) (hv : vs ≠ [])
    (h1 : ws = [] -> Q (.ref t) s) (h2 : ws ≠ [] -> Q (.ref s.heap.objs.size) { s with heap := s.heap.push { cls := .type "tuple", data := .seq (vs ++ ws).toArray } })
    (hsz : vs.length + ws.length <= sizeLine) : wpAny (model prog w) A (binaryOp .Add (.ref t) (.ref b)) Q E s := by
  obtain ⟨⟨cls, dd, data, sl⟩, ho, hc, n, hd⟩ := id ht
  obtain ⟨⟨cls2, dd2, data2, sl2⟩, ho2, hc2, n2, hd2⟩ := id hb
  simp only at hc hd hc2 hd2
  subst hc hd hc2 hd2
  have e : vs.toArray ++ ws.toArray = (vs ++ ws).toArray := by simp
  by_cases hw : ws = []
  · exact concat_meets ⟨_, ho, rfl⟩ ⟨_, ho2, rfl⟩ noFill_tuple_add seq_tuple_add PySem.F.slot_tuple_add PySem.F.entry_tuple_add (PySem.F.args_tuple_add_2 _ _)
      (tuple_addW1 t b vs.toArray ws.toArray n n2 dd dd2 sl sl2 (by simpa using hv) (by simp [hw])) ⟨ho, ho2, h1 hw⟩
  · refine concat_meets ⟨_, ho, rfl⟩ ⟨_, ho2, rfl⟩ noFill_tuple_add seq_tuple_add PySem.F.slot_tuple_add PySem.F.entry_tuple_add (PySem.F.args_tuple_add_2 _ _)
      (tuple_addW2 t b vs.toArray ws.toArray n n2 dd dd2 sl sl2 (by simpa using hv) (by simpa using hw) (by rw [List.size_toArray, List.size_toArray]; exact hsz)) ⟨ho, ho2, ?_⟩
    rw [e]
    exact h2 hw
def sIx (n d : Nat) : Option Int -> Nat
  | none => d
  | some v => if v < 0 then (v + (n : Int)).toNat else min v.toNat n
theorem sIx_none (n d : Nat) : sIx n d none = d := rfl
theorem sIx_nat (n d k : Nat) : sIx n d (some (k : Int)) = min k n := by
  show (if (k : Int) < 0 then ((k : Int) + (n : Int)).toNat else min (k : Int).toNat n) = min k n
  rw [if_neg (by omega), Int.toNat_natCast]
theorem sIx_le (n d : Nat) (hd : d <= n) (o : Option Int) : sIx n d o <= n := by
  cases o with
  | none => exact hd
  | some v =>
    show (if v < 0 then (v + (n : Int)).toNat else min v.toNat n) <= n
    by_cases hv : v < 0
    · rw [if_pos hv]; omega
    · rw [if_neg hv]; exact Nat.min_le_right _ _
theorem clip_eq (v : Int) (n d : Nat) : (if v < 0 then max (v + (n : Int)) 0 else min v (n : Int)) = ((sIx n d (some v) : Nat) : Int) := by
  show (if v < 0 then max (v + (n : Int)) 0 else min v (n : Int)) = (((if v < 0 then (v + (n : Int)).toNat else min v.toNat n) : Nat) : Int)
  by_cases hv : v < 0
  · simp only [if_pos hv]; omega
  · simp only [if_neg hv]; omega
theorem adjust_gen (lo hi : Option Int) (n : Nat) : Builtin.Slice.sliceAdjust lo hi 1 (n : Int) = (((sIx n 0 lo : Nat) : Int), ((sIx n n hi : Nat) : Int)) := by
  have h1 : ¬ ((1 : Int) < 0) := by omega
  unfold Builtin.Slice.sliceAdjust
  simp only [h1, if_false]
  refine Prod.ext ?_ ?_
  · cases lo with
    | none => rfl
    | some v => exact clip_eq v n 0
  · cases hi with
    | none => rfl
    | some v => exact clip_eq v n n
theorem places_gen (i j : Nat) : Builtin.Slice.slicePlaces (i : Int) (j : Int) 1 = j - i := by
  unfold Builtin.Slice.slicePlaces
  have h1 : (1 : Int) > 0 := by omega
  simp only [h1, if_true, Int.ediv_one]
  split <;> omega
theorem slicePart_ {v : Value} {o : Option Int} {Q : Option Int -> Shared -> Prop} (p : IsPart v o) (h : Q o s) : wpAny (model prog w) A (Builtin.Slice.slicePartIndex v) Q E s := by
  cases p with
  | none => exact slicePart_none h
  | int i t => exact slicePart_int h
theorem JG {sl : Addr} {vl vu : Value} {lo hi : Option Int} {n : Nat} {Q : Int × Int × Nat -> Shared -> Prop} (hs : s.heap.IsSliceOf sl vl vu .none) (pl : IsPart vl lo) (pu : IsPart vu hi)
    (h : Q (((sIx n 0 lo : Nat) : Int), 1, sIx n n hi - sIx n 0 lo) s) : wpAny (model prog w) A (Builtin.Slice.sliceApplied (.ref sl) (pure (n : Int))) Q E s := by
  obtain ⟨os, hos, hcs, hds⟩ := id hs
  unfold Builtin.Slice.sliceApplied Builtin.Slice.sliceFields
  refine wpAny_bind (wpAny_bind (wpAny_field hos hds (x := vl) rfl (wpAny_bind (wpAny_field hos hds (x := vu) rfl (wpAny_bind (wpAny_field hos hds (x := .none) rfl (wpAny_pure ?_)))))))
  refine wpAny_bind (slicePart_none ?_)
  show wpAny _ _ (if ((1 : Int) == 0) = true then _ else _) _ _ s
  rw [if_neg (by decide)]
  refine wpAny_bind (slicePart_ pl (wpAny_bind (slicePart_ pu (wpAny_bind (wpAny_pure ?_)))))
  show wpAny _ _ (match Builtin.Slice.sliceAdjust lo hi 1 (n : Int) with | (lo, hi) => pure (lo, (1 : Int), Builtin.Slice.slicePlaces lo hi 1)) _ _ s
  rw [adjust_gen lo hi n]
  show wpAny _ _ (pure (((sIx n 0 lo : Nat) : Int), (1 : Int), Builtin.Slice.slicePlaces ((sIx n 0 lo : Nat) : Int) ((sIx n n hi : Nat) : Int) 1)) _ _ s
  rw [places_gen]
  exact wpAny_pure h
theorem pick_gen (xs : Array Value) (i k : Nat) : ((List.range k).filterMap fun (m : Nat) => xs[((i : Int) + (m : Int) * 1).toNat]?).toArray = ((xs.toList.drop i).take k).toArray := by
  have e : (fun (m : Nat) => xs[((i : Int) + (m : Int) * 1).toNat]?) = fun m => xs[i + m]? := by
    funext m
    have : ((i : Int) + (m : Int) * 1).toNat = i + m := by omega
    rw [this]
  rw [e]
  have := pick_run xs i k
  rw [List.filterMap_map] at this
  have e2 : ((fun x => xs[x]?) ∘ fun x => i + x) = fun m => xs[i + m]? := rfl
  rw [e2] at this
  rw [this]
theorem getItem_tuple_cut {t sl : Addr} {items : Array Value} {vl vu : Value} {lo hi : Option Int} {Q : Value -> Shared -> Prop} (ht : IsTup s.heap t items) (hs : s.heap.IsSliceOf sl vl vu .none) (pl : IsPart vl lo) (pu : IsPart vu hi)
    (hw : ¬ (sIx items.size 0 lo = 0 /\ sIx items.size items.size hi = items.size))
    (h : Q (.ref s.heap.objs.size) { s with heap := s.heap.push { cls := .type "tuple", data := .seq ((items.toList.drop (sIx items.size 0 lo)).take (sIx items.size items.size hi - sIx items.size 0 lo)).toArray } })
    (hsz : items.size <= sizeLine) : wpAny (model prog w) A (getItem (.ref t) (.ref sl)) Q E s := by
  have htake : sizeOk (.seq ((items.toList.drop (sIx items.size 0 lo)).take (sIx items.size items.size hi - sIx items.size 0 lo)).toArray) := by
    show ((items.toList.drop (sIx items.size 0 lo)).take (sIx items.size items.size hi - sIx items.size 0 lo)).toArray.size <= sizeLine
    rw [List.size_toArray, List.length_take, List.length_drop, Array.length_toList]
    omega
  have hj : sIx items.size items.size hi <= items.size := sIx_le _ _ (Nat.le_refl _) hi
  obtain ⟨os, hos, hcs, hds⟩ := id hs
  have hTs : s.TypeIs (.ref sl) "slice" := ⟨os, hos, hcs⟩
  unfold getItem
  try with_reducible refine wpAny_holding ?_
  first | refine wpAny_bind (wpAny_pure ?_) | skip
  refine wpAny_bind (wpAny_sequenceKey ht.typeIs (by decide) ?_)
  refine wpAny_bind (wpAny_callSpecial?_slot (name := Str.ofString "__getitem__") ht.typeIs PyProof.Rows.slot_tuple_getitem
    (wpAny_call_entry PyProof.Rows.slot_tuple_getitem ht.typeIs entry_tuple_getitem ?_ (args_tuple_getitem _ _)))
  show wpAny _ _ (Builtin.Tuple.tupleItemsOf (.ref t) >>= _) _ _ s
  refine wpAny_bind (tupleItemsOf_ ht ?_)
  refine wpAny_bind (wpAny_typeOf hTs ?_)
  rw [if_pos (by decide)]
  refine wpAny_bind (JG hs pl pu ?_)
  have hno : ¬ ((((sIx items.size 0 lo : Nat) : Int) == 0 && (1 : Int) == 1 && (sIx items.size items.size hi - sIx items.size 0 lo) == items.size) = true) := by
    intro q
    rw [Bool.and_eq_true, Bool.and_eq_true] at q
    have q1 : ((sIx items.size 0 lo : Nat) : Int) = 0 := eq_of_beq q.1.1
    have q2 : sIx items.size items.size hi - sIx items.size 0 lo = items.size := eq_of_beq q.2
    exact hw ⟨by omega, by omega⟩
  show wpAny _ _ (if (((sIx items.size 0 lo : Nat) : Int) == 0 && (1 : Int) == 1 && (sIx items.size items.size hi - sIx items.size 0 lo) == items.size) = true then _ else _) _ _ s
  rw [if_neg hno, pick_gen]
  first
    | exact wpAny_bind (m := Builtin.Tuple.tupleExact _) (wpAny_newObj_type (wpAny_pure ⟨_, rfl, wpAny_pure h⟩) htake)
    | exact wpAny_bind (m := Builtin.Tuple.tupleExact _) (wpAny_newObj_type (wpAny_bind (wpAny_pure (wpAny_pure ⟨_, rfl, wpAny_pure h⟩))) htake)
    | exact wpAny_bind (wpAny_bind (m := Builtin.Tuple.tupleExact _) (wpAny_newObj_type (wpAny_pure (wpAny_pure ⟨_, rfl, wpAny_pure h⟩)) htake))
    | exact wpAny_bind (wpAny_bind (m := Builtin.Tuple.tupleExact _) (wpAny_newObj_type (wpAny_pure ⟨_, rfl, wpAny_pure h⟩) htake))
end
end HT
namespace L2
open PySem PySem.Spec PyProof.Rows
abbrev TO := St -> Hp -> (Option Int -> Hp -> Prop) -> Prop
def PO (X : Cx) (e : Option Expr) (t : TO) : Prop :=
  ∀ (pins : List (Addr × Obj)) (s : Shared) (σ : St) (H : Hp) (Q : Option Int -> Hp -> Prop), Inv X pins σ H s -> t σ H Q ->
    wpAny (model X.prog X.w) X.A (evalPart e X.env) (fun u s' => ∃ o H', Inv X pins σ H' s' /\ IsPart u o /\ Q o H') X.xe s
def tNoPart : TO := fun _ H Q => Q none H
def tPart (t : TE) : TO := fun σ H Q => t σ H fun x H1 => ∃ i, x = .int i /\ Q (some i) H1
theorem intsAre_of {ns : List Int} : ∀ {us : List Value}, Vals (ns.map V.int) us -> IntsAre us ns := by
  induction ns with
  | nil => intro us r; rw [List.map_nil] at r; cases r; exact .nil
  | cons n ns ih =>
    intro us r
    rw [List.map_cons] at r
    cases r with
    | cons r1 r2 =>
      obtain ⟨t, e⟩ := r1
      subst e
      exact .cons n t (ih r2)
section
variable {X : Cx} {e : Expr} {te : TE} {lo hi : Option Expr} {tl th : TO} {pos p2 : Pos}
theorem YL : PO X none tNoPart := by
  intro pins s σ H Q I h
  rw [evalPart_none]
  exact wpAny_pure ⟨none, H, I, .none, h⟩
theorem YC (h : PE X e te) : PO X (some e) (tPart te) := by
  intro pins s σ H Q I hw
  rw [evalPart_some]
  refine thn (h pins s σ H _ I hw) fun u s1 ⟨x, H1, I1, r1, q1⟩ => ?_
  obtain ⟨i, rfl, q⟩ := q1
  obtain ⟨t, rfl⟩ := r1
  exact ⟨some i, H1, I1, .int i t, q⟩
def SlR (X : Cx) (r : V -> Option Int -> Option Int -> Hp -> VK -> Prop) : Prop :=
  ∀ (pins : List (Addr × Obj)) (s : Shared) (σ : St) (H : Hp) (x : V) (v vl vu : Value) (lo hi : Option Int) (sl : Addr) (Q : VK), Inv X pins σ H s -> RelV x v -> s.heap.IsSliceOf sl vl vu .none -> IsPart vl lo -> IsPart vu hi -> r x lo hi H Q ->
    ∃ T id, typeLookup (.type T) "__getitem__" = pure (some (.builtin id)) /\ s.TypeIs v T /\ wpAny (model X.prog X.w) X.A (getItem v (.ref sl)) (EP X pins σ Q) X.xe s
def tSl (r : V -> Option Int -> Option Int -> Hp -> VK -> Prop) (te : TE) (tl th : TO) : TE := fun σ H Q => te σ H fun x H1 => tl σ H1 fun l H2 => th σ H2 fun u H3 => r x l u H3 Q
theorem Z8 {r : V -> Option Int -> Option Int -> Hp -> VK -> Prop} (hr : SlR X r) (he : PE X e te) (hl : PO X lo tl) (hu : PO X hi th) : PE X (.Subscript e (.Slice lo hi none p2) pos) (tSl r te tl th) := by
  intro pins s σ H Q I h
  refine Subscript_ (thn (he pins s σ H _ I h) fun v s1 ⟨x, H1, I1, r1, q1⟩ => ?_)
  refine wpAny_Slice (thn (hl pins s1 σ H1 _ I1 q1) fun vl s2 ⟨l, H2, I2, pl, q2⟩ => thn (hu pins s2 σ H2 _ I2 q2) fun vu s3 ⟨u, H3, I3, pu, q3⟩ => ?_)
  rw [evalPart_none]
  refine wpAny_pure ?_
  have I4 : Inv X pins σ H3 { s3 with heap := s3.heap.push { cls := .type "slice", data := .fields #[vl, vu, .none] } } := I3.kept (t' := s3.toks) fun b ob q => Heap.get?_push_of_some _ q
  obtain ⟨T, id, hT, ht, hg⟩ := hr pins { s3 with heap := s3.heap.push { cls := .type "slice", data := .fields #[vl, vu, .none] } } σ H3 x v vl vu l u s3.heap.objs.size Q I4 r1 (Heap.IsSliceOf.new ..) pl pu q3
  show wpAny (model X.prog X.w) X.A (subscriptTail e (.Slice lo hi none p2) v (.ref s3.heap.objs.size)) (EP X pins σ Q) X.xe { s3 with heap := s3.heap.push { cls := .type "slice", data := .fields #[vl, vu, .none] } }
  exact tail_any (ops := [.ref s3.heap.objs.size, v]) ht hT hg (by with_unfolding_all rfl)
def Yj (xs : List V) (lo hi : Option Int) : List V := (xs.drop (HT.sIx xs.length 0 lo)).take (HT.sIx xs.length xs.length hi - HT.sIx xs.length 0 lo)
theorem Jc (xs : List V) (lo hi : Option Int) : (Yj xs lo hi).length <= xs.length := by
  unfold Yj
  rw [List.length_take, List.length_drop]
  omega
def rSlT (K : PySem.W.Frag) : V -> Option Int -> Option Int -> Hp -> VK -> Prop := fun x lo hi H Q => ∃ a xs, x = .ref a /\ SqT K H a xs /\
  ¬ (HT.sIx xs.length 0 lo = 0 /\ HT.sIx xs.length xs.length hi = xs.length) /\ ∀ p, H p = none -> Q (.ref p) (upd H p (.tup (Yj xs lo hi)))
theorem Vr : SlR X (rSlT X.K) := by
  intro pins s σ H x v vl vu lo hi sl Q I rx hs pl pu h
  obtain ⟨a, xs, rfl, hx, hw, q⟩ := h
  cases rx
  obtain ⟨its, r, ht, hz⟩ := I.tuple hx
  have hlen : its.toArray.size = xs.length := by rw [List.size_toArray]; exact r.length.symm
  refine ⟨"tuple", _, PyProof.Rows.slot_tuple_getitem.lookup, ht.typeIs, ?_⟩
  refine HT.getItem_tuple_cut ht hs pl pu (by rw [hlen]; exact hw) ?_ (by rw [hlen]; exact hz)
  rw [hlen]
  refine ⟨.ref s.heap.objs.size, _, I.laid (t' := s.toks) (o := .tup (Yj xs lo hi)) (fun b ob q => Heap.get?_push_of_some _ q) (Nat.le_refl _) ?_, rfl, q _ (I.hok.fresh (Nat.le_refl _))⟩
  exact ⟨Nat.le_trans (Jc xs lo hi) hz, _, (r.drop (HT.sIx xs.length 0 lo)).take (HT.sIx xs.length xs.length hi - HT.sIx xs.length 0 lo), Jk.new _ _⟩
def rCatT (K : PySem.W.Frag) : R2 := fun x y H Q => ∃ a b xs ys, x = .ref a /\ y = .ref b /\ SqT K H a xs /\ SqT K H b ys /\ xs ≠ [] /\ xs.length + ys.length <= sizeLine /\
  (ys = [] -> Q (.ref a) H) /\ (ys ≠ [] -> ∀ p, H p = none -> Q (.ref p) (upd H p (.tup (xs ++ ys))))
theorem Vals.nil_iff {xs : List V} {us : List Value} (r : Vals xs us) : us = [] ↔ xs = [] := by
  cases r with
  | nil => simp
  | cons _ _ => simp
theorem Vl : OpR X (binaryOp .Add) (rCatT X.K) := by
  intro pins s σ H x y v u Q I rx ry h
  obtain ⟨a, b, xs, ys, rfl, rfl, ha, hb, hx, hz, q1, q2⟩ := h
  cases rx
  cases ry
  obtain ⟨its, r1, p1, _⟩ := I.tuple ha
  obtain ⟨its2, r2, p2, _⟩ := I.tuple hb
  refine HT.cat_tup p1 p2 (fun z => hx (r1.nil_iff.mp z)) (fun z => ⟨.ref a, H, I, rfl, q1 (r2.nil_iff.mp z)⟩) (fun z => ?_) (by rw [<- r1.length, <- r2.length]; exact hz)
  refine ⟨.ref s.heap.objs.size, _, I.laid (t' := s.toks) (o := .tup (xs ++ ys)) (fun b ob q => Heap.get?_push_of_some _ q) (Nat.le_refl _) ?_, rfl, q2 (fun w => z (r2.nil_iff.mpr w)) _ (I.hok.fresh (Nat.le_refl _))⟩
  exact ⟨by rw [List.length_append]; exact hz, _, r1.append r2, Jk.new _ _⟩
end
end L2
namespace L2
open PySem PySem.Spec PyProof.Rows
def ixN (n : Nat) (i : Int) : Option Nat := if 0 <= i then (if i < n then some i.toNat else none) else if -(n : Int) <= i then some (i + n).toNat else none
def atI {α : Type} (xs : List α) (i : Int) : Option α := (ixN xs.length i).bind fun j => xs[j]?
theorem ixN_seq {n : Nat} {i : Int} {j : Nat} (h : ixN n i = some j) : seqIndex? i n = some j /\ j < n /\ -(n : Int) <= i /\ i < n := by
  unfold ixN at h
  by_cases h0 : 0 <= i
  · rw [if_pos h0] at h
    by_cases h1 : i < n
    · rw [if_pos h1] at h
      have e : i.toNat = j := Option.some.inj h
      exact ⟨by rw [seqIndex_of h0 h1, e], by omega, by omega, h1⟩
    · rw [if_neg h1] at h; cases h
  · rw [if_neg h0] at h
    by_cases h1 : -(n : Int) <= i
    · rw [if_pos h1] at h
      have e : (i + n).toNat = j := Option.some.inj h
      exact ⟨by rw [seqIndex_neg (by omega) h1, e], by omega, h1, by omega⟩
    · rw [if_neg h1] at h; cases h
theorem atI_get {α : Type} {xs : List α} {i : Int} {v : α} (h : atI xs i = some v) : ∃ j, seqIndex? i xs.length = some j /\ xs[j]? = some v /\ j < xs.length /\ -(xs.length : Int) <= i /\ i < xs.length := by
  unfold atI at h
  cases e : ixN xs.length i with
  | none => rw [e] at h; cases h
  | some j =>
    rw [e] at h
    obtain ⟨h1, h2, h3, h4⟩ := ixN_seq e
    exact ⟨j, h1, h, h2, h3, h4⟩
theorem ZQ {α : Type} {xs : List α} {j : Nat} {v : α} (h : xs[j]? = some v) : atI xs (j : Int) = some v := by
  have hj : j < xs.length := (List.getElem?_eq_some_iff.mp h).1
  have e : ixN xs.length (j : Int) = some j := by
    unfold ixN
    rw [if_pos (by omega), if_pos (by omega)]; simp
  unfold atI; rw [e]; exact h
def PlainIx (b : Expr) : Prop := ∀ o i, subscripted b false o i = operate [o, i] (getItem o i)
def IxR (X : Cx) (r : R2) : Prop :=
  ∀ (value slice : Expr) (pins : List (Addr × Obj)) (s : Shared) (σ : St) (H : Hp) (x y : V) (v u : Value) (Q : VK), Inv X pins σ H s -> RelV x v -> RelV y u -> r x y H Q ->
    subscripted slice false v u = operate [v, u] (getItem v u) -> wpAny (model X.prog X.w) X.A (subscriptTail value slice v u) (EP X pins σ Q) X.xe s
def MtR (X : Cx) (id : String) (r : V -> List V -> Hp -> VK -> Prop) : Prop :=
  ∀ (pins : List (Addr × Obj)) (s : Shared) (σ : St) (H : Hp) (x : V) (xs : List V) (v : Value) (us : List Value) (Q : VK), Inv X pins σ H s -> RelV x v -> Vals xs us -> r x xs H Q ->
    wpAny (model X.prog X.w) X.A (call (.builtin id) (v :: us)) (EP X pins σ Q) X.xe s
section
variable {X : Cx} {a b : Expr} {ta tb : TE} {pos : Pos}
theorem ZV {r : R2} (hr : IxR X r) (ha : PE X a ta) (hb : PE X b tb) (hs : PlainIx b) : PE X (.Subscript a b pos) (tOp r ta tb) := by
  intro pins s σ H Q I h
  exact Subscript_ (binT ha hb I h fun v u s2 x y H2 I2 rx ry q => hr a b pins s2 σ H2 x y v u Q I2 rx ry q (hs _ _))
def rIxL (K : PySem.W.Frag) : R2 := fun x y H Q => ∃ p xs i v, x = .ref p /\ y = .int i /\ SqL K H p xs /\ atI xs i = some v /\ Q v H
def rIxT (K : PySem.W.Frag) : R2 := fun x y H Q => ∃ p xs i v, x = .ref p /\ y = .int i /\ SqT K H p xs /\ atI xs i = some v /\ Q v H
def rIxS : R2 := fun x y H Q => ∃ z i c, x = .str z /\ y = .int i /\ z.length <= sizeLine /\ atI z.cps.toList i = some c /\ Q (.str ⟨#[c]⟩) H
theorem Zj : IxR X (rIxL X.K) := by
  intro value slice pins s σ H x y v u Q I rx ry h hs
  obtain ⟨p, xs, i, z, rfl, rfl, hq, he, q⟩ := h
  cases rx
  obtain ⟨t, rfl⟩ := ry
  obtain ⟨its, r, pl, hz⟩ := I.list hq
  obtain ⟨j, h1, h2, h3, h4, h5⟩ := atI_get he
  obtain ⟨w, ew, rw'⟩ := r.get h2
  have hl := r.length
  have hn := line63
  have fin : EP X pins σ Q w s := ⟨z, H, I, rw', q⟩
  by_cases h0 : 0 <= i
  · have hj : i.toNat = j := by
      rw [seqIndex_of h0 h5] at h1
      exact Option.some.inj h1
    exact item_listR pl.isList h0 (by omega) (by rw [hj]; simpa using ew) fin hs
  · have hj : (i + (its.toArray.size : Int)).toNat = j := by
      rw [seqIndex_neg (by omega) h4] at h1
      rw [List.size_toArray, <- hl]
      exact Option.some.inj h1
    exact subscriptTail_builtinR (x := w) pl.isList.typeIs slot_list_getitem.lookup
      (wpAny_getItem_list_neg (Q := fun r s' => r = w /\ EP X pins σ Q r s') pl.isList (by omega) (by rw [List.size_toArray] <;> omega) (by omega) (by rw [hj]; simpa using ew) ⟨rfl, fin⟩) hs
theorem Ze : IxR X (rIxT X.K) := by
  intro value slice pins s σ H x y v u Q I rx ry h hs
  obtain ⟨p, xs, i, z, rfl, rfl, hq, he, q⟩ := h
  cases rx
  obtain ⟨t, rfl⟩ := ry
  obtain ⟨its, r, pl, hz⟩ := I.tuple hq
  obtain ⟨j, h1, h2, h3, h4, h5⟩ := atI_get he
  obtain ⟨w, ew, rw'⟩ := r.get h2
  have hl := r.length
  have hn := line63
  have fin : EP X pins σ Q w s := ⟨z, H, I, rw', q⟩
  exact subscriptTail_builtinR (x := w) pl.typeIs slot_tuple_getitem.lookup
    (getItem_tuple (j := j) (Q := fun r s' => r = w /\ EP X pins σ Q r s') pl (by omega) (by omega) (by rw [List.size_toArray, <- hl]; exact h1) (by simpa using ew) ⟨rfl, fin⟩) hs
theorem ix_str : IxR X rIxS := by
  intro value slice pins s σ H x y v u Q I rx ry h hs
  obtain ⟨z, i, c, rfl, rfl, hz, he, q⟩ := h
  obtain ⟨t, rfl⟩ := rx
  obtain ⟨t', rfl⟩ := ry
  obtain ⟨j, h1, h2, h3, h4, h5⟩ := atI_get he
  have hl : z.cps.toList.length = z.length := by simp [Str.length]
  rw [hl] at h1 h4 h5
  have hn := line63
  exact tail_any (typeIs_str s z t) slot_str_getitem.lookup (getItem_str (c := c) (by
    have e1 : decide (i < -(2 ^ 63 : Int)) = false := decide_eq_false (by omega)
    have e2 : decide (i ≥ 2 ^ 63) = false := decide_eq_false (by omega)
    rw [e1, e2, Bool.or_false]) (by rw [h1]; simpa using h2) ⟨.str ⟨#[c]⟩, H, I.tok _, ⟨_, rfl⟩, q⟩) hs
theorem mapSeq_set (its : List Value) (n j : Nat) (u : Value) : Obj.mapSeq (·.setIfInBounds j u) { cls := .type "list", data := .seq its.toArray n } = { cls := .type "list", data := .seq (its.set j u).toArray n } := by
  simp [Obj.mapSeq]
theorem Inv.lst {pins : List (Addr × Obj)} {σ : St} {H : Hp} {s : Shared} {p : Addr} {xs : List V} (I : Inv X pins σ H s) (h : H p = some (.lst xs)) :
    ∃ (its : List Value) (n : Nat), Vals xs its /\ s.heap.get? p = some { cls := .type "list", data := .seq its.toArray n } /\ xs.length <= sizeLine := by
  obtain ⟨z, its, n, r, e⟩ := I.hok p _ h
  exact ⟨its, n, r, e, z⟩
theorem Inv.lstUpd {pins : List (Addr × Obj)} {σ : St} {H : Hp} {s : Shared} {p : Addr} {xs ys : List V} {its its' : List Value} {n n' : Nat} {f : Obj -> Obj} (I : Inv X pins σ H s) (h : H p = some (.lst xs))
    (ho : s.heap.get? p = some { cls := .type "list", data := .seq its.toArray n }) (hf : f { cls := .type "list", data := .seq its.toArray n } = { cls := .type "list", data := .seq its'.toArray n' }) (r : Vals ys its') (hz : ys.length <= sizeLine) (t : Nat) :
    Inv X pins σ (upd H p (.lst ys)) { s with heap := s.heap.update p f, toks := t } := by
  have e : (s.heap.update p f).get? p = some { cls := .type "list", data := .seq its'.toArray n' } := by
    rw [Heap.get?_update_self f ho (by rw [hf] <;> rfl), hf]
  refine I.write (x := p) (e := p) (by rw [h]; trivial) (.inl rfl) (fun b u hb q => (Heap.get?_update_other _ _ (Ne.symm hb)).trans q) ⟨_, e⟩ ?_
  exact ⟨hz, its', n', r, e⟩
def rSetL : V -> V -> V -> Hp -> (Hp -> Prop) -> Prop := fun o i v H Q => ∃ p xs k j, o = .ref p /\ i = .int k /\ H p = some (.lst xs) /\ ixN xs.length k = some j /\ Q (upd H p (.lst (xs.set j v)))
theorem set_list : PSet X rSetL := by
  intro pins s σ H o i v ov iv u Q I ro ri rv h
  obtain ⟨p, xs, k, j, rfl, rfl, hp, hj, q⟩ := h
  cases ro
  obtain ⟨t, rfl⟩ := ri
  obtain ⟨its, n, r, ho, hz⟩ := I.lst hp
  obtain ⟨h1, h2, h3, h4⟩ := ixN_seq hj
  have hl := r.length
  have hn := line63
  have I' : Inv X pins σ (upd H p (.lst (xs.set j v))) { s with heap := s.heap.update p (Obj.mapSeq (·.setIfInBounds j u)) } :=
    I.lstUpd hp ho (mapSeq_set its n j u) (r.set rv j) (by rw [List.length_set]; exact hz) s.toks
  by_cases h0 : 0 <= k
  · have hk : k.toNat = j := by
      rw [seqIndex_of h0 h4] at h1
      exact Option.some.inj h1
    exact PySem.W.ki_setAt ho h0 (by omega) (by rw [List.size_toArray, <- hl]; exact h4) (by rw [hk]; exact ⟨_, I', q⟩)
  · have hk : (k + (its.toArray.size : Int)).toNat = j := by
      rw [seqIndex_neg (by omega) h3] at h1
      rw [List.size_toArray, <- hl]
      exact Option.some.inj h1
    exact PySem.W.ki_setBack ho (by omega) (by rw [List.size_toArray, <- hl]; exact h3) (by omega) (by rw [hk]; exact ⟨_, I', q⟩)
theorem slice_bounds (lo hi : Option Int) (n : Nat) : (sliceBounds lo hi none n).1 = ((HT.sIx n 0 lo : Nat) : Int) /\ (sliceBounds lo hi none n).2.1 = ((HT.sIx n n hi : Nat) : Int) /\ (sliceBounds lo hi none n).2.2 = 1 := by
  refine ⟨?_, ?_, rfl⟩
  · cases lo with
    | none => simp [sliceBounds, HT.sIx]
    | some i =>
      simp only [sliceBounds, HT.sIx, Option.getD_none, show (1 : Int) > 0 by decide, if_true]
      by_cases h : i < 0
      · simp only [h, if_true] <;> omega
      · simp only [h, if_false] <;> omega
  · cases hi with
    | none => simp [sliceBounds, HT.sIx]
    | some i =>
      simp only [sliceBounds, HT.sIx, Option.getD_none, show (1 : Int) > 0 by decide, if_true]
      by_cases h : i < 0
      · simp only [h, if_true] <;> omega
      · simp only [h, if_false] <;> omega
theorem slicePick_cut (its : List Value) (lo hi : Option Int) : slicePick its.toArray lo hi none = ((its.drop (HT.sIx its.length 0 lo)).take (HT.sIx its.length its.length hi - HT.sIx its.length 0 lo)).toArray := by
  obtain ⟨h1, h2, h3⟩ := slice_bounds lo hi its.toArray.size
  unfold slicePick
  rw [h1, h2, h3]
  simp only [sliceRange_one, pick_run, List.size_toArray] <;> rfl
def rSlL (K : PySem.W.Frag) : V -> Option Int -> Option Int -> Hp -> VK -> Prop := fun x lo hi H Q => ∃ a xs, x = .ref a /\ SqL K H a xs /\ ∀ p, H p = none -> Q (.ref p) (upd H p (.lst (Yj xs lo hi)))
theorem sl_list : SlR X (rSlL X.K) := by
  intro pins s σ H x v vl vu lo hi sl Q I rx hs pl pu h
  obtain ⟨a, xs, rfl, hx, q⟩ := h
  cases rx
  obtain ⟨its, r, ht, hz⟩ := I.list hx
  have hlen := r.length
  refine ⟨"list", _, slot_list_getitem.lookup, ht.isList.typeIs, ?_⟩
  refine wpAny_getItem_list_slice ht.isList hs pl pu .none (by simp) ?_ (by rw [List.size_toArray] <;> omega)
  rw [slicePick_cut, <- hlen]
  refine ⟨.ref s.heap.objs.size, _, I.laid (t' := s.toks) (o := .lst (Yj xs lo hi)) (fun b ob q => Heap.get?_push_of_some _ q) (Nat.le_refl _) ?_, rfl, q _ (I.hok.fresh (Nat.le_refl _))⟩
  exact ⟨Nat.le_trans (Jc xs lo hi) hz, _, 0, (r.drop (HT.sIx xs.length 0 lo)).take (HT.sIx xs.length xs.length hi - HT.sIx xs.length 0 lo), Heap.get?_push_size _ rfl⟩
def Jb : V -> Bool
  | .non => true
  | .bl _ => true
  | .int _ => true
  | .str _ => true
  | _ => false
def eqV : V -> V -> Bool
  | .non, .non => true
  | .bl a, .bl b => a == b
  | .bl a, .int b => (if a then 1 else 0) == b
  | .int a, .bl b => a == (if b then 1 else 0)
  | .int a, .int b => a == b
  | .str a, .str b => a == b
  | _, _ => false
theorem eqAt_V {A : Around} {s : Shared} {y x : V} {u v : Value} (ry : RelV y u) (rx : RelV x v) (fy : Jb y = true) (fx : Jb x = true) : SeqAt.EqAt A s u v (eqV y x) := by
  cases y with
  | non =>
    cases ry
    cases x with
    | non => cases rx; exact SeqAt.EqAt.same _
    | bl b => cases rx; exact SeqAt.EqAt.none_bool b
    | int b => obtain ⟨t, rfl⟩ := rx; exact SeqAt.EqAt.none_int b t
    | str b => obtain ⟨t, rfl⟩ := rx; exact SeqAt.EqAt.none_str b t
    | _ => exact absurd (show false = true from fx) Bool.false_ne_true
  | bl a =>
    cases ry
    cases x with
    | non => cases rx; exact SeqAt.EqAt.bool_none a
    | bl b => cases rx; exact SeqAt.EqAt.bool_bool a b
    | int b => obtain ⟨t, rfl⟩ := rx; exact SeqAt.EqAt.bool_int a b t
    | str b => obtain ⟨t, rfl⟩ := rx; exact SeqAt.EqAt.bool_str a b t
    | _ => exact absurd (show false = true from fx) Bool.false_ne_true
  | int a =>
    obtain ⟨t', rfl⟩ := ry
    cases x with
    | non => cases rx; exact SeqAt.EqAt.int_none a t'
    | bl b => cases rx; exact SeqAt.EqAt.int_bool a t' b
    | int b => obtain ⟨t, rfl⟩ := rx; exact SeqAt.EqAt.int_int a t' b t
    | str b => obtain ⟨t, rfl⟩ := rx; exact SeqAt.EqAt.int_str a t' b t
    | _ => exact absurd (show false = true from fx) Bool.false_ne_true
  | str a =>
    obtain ⟨t', rfl⟩ := ry
    cases x with
    | non => cases rx; exact SeqAt.EqAt.str_none a t'
    | bl b => cases rx; exact SeqAt.EqAt.str_bool a t' b
    | int b => obtain ⟨t, rfl⟩ := rx; exact SeqAt.EqAt.str_int a t' b t
    | str b => obtain ⟨t, rfl⟩ := rx; exact SeqAt.EqAt.str_str a t' b t
    | _ => exact absurd (show false = true from fx) Bool.false_ne_true
  | _ => exact absurd (show false = true from fy) Bool.false_ne_true
def eqU (x : V) (u : Value) : Bool := match u with
  | .none => eqV .non x
  | .bool b => eqV (.bl b) x
  | .int i _ => eqV (.int i) x
  | .str z _ => eqV (.str z) x
  | _ => false
theorem eqU_of {x y : V} {u : Value} (r : RelV y u) (f : Jb y = true) : eqU x u = eqV y x := by
  cases y with
  | non => cases r; rfl
  | bl b => cases r; rfl
  | int i => obtain ⟨t, rfl⟩ := r; rfl
  | str z => obtain ⟨t, rfl⟩ := r; rfl
  | _ => exact absurd (show false = true from f) Bool.false_ne_true
theorem any_eqU {x : V} : ∀ {xs : List V} {us : List Value}, Vals xs us -> xs.all Jb = true -> us.any (eqU x) = xs.any fun y => eqV y x
  | _, _, .nil, _ => rfl
  | y :: xs, u :: us, .cons r t, f => by
    rw [List.all_cons, Bool.and_eq_true] at f
    rw [List.any_cons, List.any_cons, eqU_of r f.1, any_eqU t f.2]
theorem mem_eqAt {A : Around} {s : Shared} {x : V} {v : Value} (rx : RelV x v) (fx : Jb x = true) : ∀ {xs : List V} {us : List Value}, Vals xs us -> xs.all Jb = true -> ∀ u ∈ us, SeqAt.EqAt A s u v (eqU x u)
  | _, _, .nil, _ => fun u hu => by cases hu
  | y :: xs, u :: us, .cons r t, f => fun u' hu => by
    rw [List.all_cons, Bool.and_eq_true] at f
    rcases List.mem_cons.mp hu with rfl | hu
    · rw [eqU_of r f.1]; exact eqAt_V r rx f.1 fx
    · exact mem_eqAt rx fx t f.2 u' hu
def inV (x : V) (xs : List V) : Bool := xs.any fun y => eqV y x
def rIn (K : PySem.W.Frag) (neg : Bool) : R2 := fun x y H Q => ∃ p xs, y = .ref p /\ (SqL K H p xs ∨ SqT K H p xs) /\ Jb x = true /\ xs.all Jb = true /\ Q (.bl (if neg then !inV x xs else inV x xs)) H
theorem op_in_seq : OpR X (compareOp .In) (rIn X.K false) := by
  intro pins s σ H x y v u Q I rx ry h
  obtain ⟨p, xs, rfl, hq, fx, fs, q⟩ := h
  cases ry
  rcases hq with hq | hq
  · obtain ⟨its, r, pl, hz⟩ := I.list hq
    refine SeqAt.in_listAt (eqU x) pl.isList (fun w hw => mem_eqAt rx fx r fs w (by simpa using hw)) ⟨.bl _, H, I, rfl, ?_⟩
    rw [show its.toArray.any (eqU x) = its.any (eqU x) by simp, any_eqU r fs]
    exact q
  · obtain ⟨its, r, pl, hz⟩ := I.tuple hq
    refine SeqAt.in_tupleAt (eqU x) pl (fun w hw => mem_eqAt rx fx r fs w (by simpa using hw)) ⟨.bl _, H, I, rfl, ?_⟩
    rw [show its.toArray.any (eqU x) = its.any (eqU x) by simp, any_eqU r fs]
    exact q
theorem Zf : Yq X (.builtin "len") (fun xs H Q => ∃ p ys, xs = [.ref p] /\ (SqL X.K H p ys ∨ SqT X.K H p ys) /\ Q (.int ys.length) H) := by
  intro pins s σ H xs us Q I r h
  obtain ⟨p, ys, rfl, hq, q⟩ := h
  obtain ⟨u, rfl, rx⟩ := vals1 r
  cases rx
  have hn := line63
  rcases hq with hq | hq
  · obtain ⟨its, r', pl, hz⟩ := I.list hq
    have hlen := r'.length
    exact Calls.call_len_list pl.isList (by simp only [List.size_toArray] <;> omega) ⟨.int ys.length, H, I.tok _, ⟨s.toks + 1, by rw [List.size_toArray, hlen]⟩, q⟩
  · obtain ⟨its, r', pl, hz⟩ := I.tuple hq
    have hlen := r'.length
    exact len_tuple pl (by simp only [List.size_toArray] <;> omega) ⟨.int ys.length, H, I.tok _, ⟨s.toks + 1, by rw [List.size_toArray, hlen]⟩, q⟩
theorem VR : Yq X (.type "list") (fun xs H Q => ∃ p ys, xs = [.ref p] /\ (SqL X.K H p ys ∨ SqT X.K H p ys) /\ ∀ l, H l = none -> Q (.ref l) (upd H l (.lst ys))) := by
  intro pins s σ H xs us Q I r h
  obtain ⟨p, ys, rfl, hq, q⟩ := h
  obtain ⟨u, rfl, rx⟩ := vals1 r
  cases rx
  have fin : ∀ (its : List Value), Vals ys its -> ys.length <= sizeLine -> ∀ (h' : Heap) (c' : Nat), (∀ b o', s.heap.get? b = some o' -> h'.get? b = some o') ->
      h'.get? s.heap.objs.size = some { cls := .type "list", dict := none, data := .seq its.toArray c', slots := #[] } -> EP X pins σ Q (.ref s.heap.objs.size) { s with heap := h' } := fun its r' hz h' c' kp e =>
    ⟨.ref s.heap.objs.size, _, I.laid (t' := s.toks) kp (Nat.le_refl _) (show Z2 X.prog X.w _ h' _ (.lst ys) from ⟨hz, its, c', r', e⟩), rfl, q _ (I.hok.fresh (Nat.le_refl _))⟩
  rcases hq with hq | hq
  · obtain ⟨its, r', pl, hz⟩ := I.list hq
    have hlen := r'.length
    obtain ⟨o, ho, hc, n, hd⟩ := pl.isList
    exact call_list_seq p (.inl rfl) ho hc hd (fun h' c' kp e => fin its r' hz h' c' kp e) (by simp only [List.size_toArray] <;> omega)
  · obtain ⟨its, r', pl, hz⟩ := I.tuple hq
    have hlen := r'.length
    obtain ⟨o, ho, hc, n, hd⟩ := pl
    exact call_list_seq p (.inr rfl) ho hc hd (fun h' c' kp e => fin its r' hz h' c' kp e) (by simp only [List.size_toArray] <;> omega)
theorem Zq : Yq X (.type "tuple") (fun xs H Q => ∃ p ys, xs = [.ref p] /\ ((SqL X.K H p ys /\ ∀ l, H l = none -> Q (.ref l) (upd H l (.tup ys))) ∨ (SqT X.K H p ys /\ Q (.ref p) H))) := by
  intro pins s σ H xs us Q I r h
  obtain ⟨p, ys, rfl, h⟩ := h
  obtain ⟨u, rfl, rx⟩ := vals1 r
  cases rx
  rcases h with ⟨hq, q⟩ | ⟨hq, q⟩
  · obtain ⟨its, r', pl, hz⟩ := I.list hq
    have hlen := r'.length
    refine call_tuple_list pl.isList (fun h' kp => ?_) (by simp only [List.size_toArray] <;> omega)
    have I1 : Inv X pins σ H { s with heap := h' } := I.kept (t' := s.toks) kp
    have I2 : Inv X pins σ (upd H h'.objs.size (.tup ys)) { s with heap := h'.push { cls := .type "tuple", data := .seq its.toArray } } :=
      I1.laid (t' := s.toks) (fun b o e => Heap.get?_push_of_some _ e) (Nat.le_refl _) (show Z2 X.prog X.w _ _ _ (.tup ys) from ⟨hz, its, r', Jk.new _ _⟩)
    exact ⟨.ref h'.objs.size, _, I2, rfl, q _ (I1.hok.fresh (Nat.le_refl _))⟩
  · obtain ⟨its, r', pl, hz⟩ := I.tuple hq
    exact call_tuple_same pl ⟨.ref p, H, I, rfl, q⟩
def tyV (K : PySem.W.Frag) (T : String) (x : V) (H : Hp) : Prop := match x with
  | .str _ => T = "str"
  | .int _ => T = "int"
  | .ref p => (T = "list" /\ ∃ xs, SqL K H p xs) ∨ (T = "tuple" /\ ∃ o, K.lookup p = some o /\ o.cls = .type "tuple" /\ o.dict = none) ∨
      (T = "dict" /\ ((∃ kvs, H p = some (.dK kvs)) ∨ ∃ kvs, H p = some (.dT kvs))) ∨ (T = "set" /\ ∃ S n, H p = some (.set S n))
  | _ => False
theorem tyV_is {pins : List (Addr × Obj)} {σ : St} {H : Hp} {s : Shared} {T : String} {x : V} {v : Value} (I : Inv X pins σ H s) (r : RelV x v) (ty : tyV X.K T x H) :
    s.TypeIs v T /\ ∀ a, v = .ref a -> ∃ ob, s.heap.get? a = some ob /\ ob.dict = none := by
  cases x with
  | str z =>
    obtain ⟨t, rfl⟩ := r
    cases (show T = "str" from ty)
    exact ⟨typeIs_str s z t, fun _ e => nomatch e⟩
  | int i =>
    obtain ⟨t, rfl⟩ := r
    cases (show T = "int" from ty)
    exact ⟨typeIs_int s i t, fun _ e => nomatch e⟩
  | ref p =>
    cases r
    rcases ty with ⟨rfl, xs, hq⟩ | ⟨rfl, o, hk, hc, hd⟩ | ⟨rfl, hk⟩ | ⟨rfl, S, n, hk⟩
    · obtain ⟨its, _, pl, _⟩ := I.list hq
      refine ⟨pl.isList.typeIs, fun a e => ?_⟩
      cases e
      obtain ⟨o, n, e, c, hd, _⟩ := pl
      exact ⟨o, e, hd⟩
    · refine ⟨⟨o, I.kIn p o hk, hc⟩, fun a e => ?_⟩
      cases e
      exact ⟨o, I.kIn _ o hk, hd⟩
    · have z : ∃ o, s.heap.get? p = some o /\ o.ExactDict := by
        rcases hk with ⟨kvs, hk⟩ | ⟨kvs, hk⟩
        · obtain ⟨_, _, _, _, o, _, _, e, ex, _⟩ := I.hok p _ hk
          exact ⟨o, e, ex⟩
        · obtain ⟨_, _, _, _, o, _, _, e, ex, _⟩ := I.hok p _ hk
          exact ⟨o, e, ex⟩
      obtain ⟨o, e, ex⟩ := z
      refine ⟨⟨o, e, ex.1⟩, fun a e2 => ?_⟩
      cases e2
      exact ⟨o, e, ex.2.1⟩
    · obtain ⟨o, _, _, _, e, ex, _⟩ := I.hok p _ hk
      refine ⟨⟨o, e, ex.1⟩, fun a e2 => ?_⟩
      cases e2
      exact ⟨o, e, ex.2.1⟩
  | _ => exact False.elim ty
def tBM (K : PySem.W.Frag) (T : String) (r : V -> List V -> Hp -> VK -> Prop) (to : TE) (t : TA) : TE := fun σ H Q => to σ H fun x H1 => tyV K T x H1 /\ t σ H1 fun xs H2 => r x xs H2 Q
variable {o e : Expr} {es : List Expr} {to : TE} {t : TA} {name : Str} {apos cpos : Pos} {T id : String} {r : V -> List V -> Hp -> VK -> Prop}
theorem VT (pa : PlainAttrs T) (slot : Slot T name id) (hty : typeOf (.builtin id) = pure (.type "method_descriptor")) (hm : MtR X id r) (ho : PE X o to) (ha : PA X (e :: es) t)
    (hbase : attributeBase o name X.env (eval o X.env) = eval o X.env := by rfl)
    (hfew : ((backTo cpos (starEach (e :: es) X.env)).all (fun x => !x.1) && (backToKw cpos (keywordEach [] X.env)).all (fun x => x.1.isSome)
      && decide ((e :: es).length + ([] : List Keyword).length + (if ([] : List Keyword).isEmpty then 0 else 1) < 30)) = true := by rfl)
    (hline : (apos.endLine == cpos.line) = true := by rfl) (hs : starEach (e :: es) X.env = (false, eval e X.env) :: starEach es X.env := by rfl) (hplain : (backTo cpos (starEach es X.env)).any (·.1) = false := by rfl) :
    PE X (.Call (.Attribute o name apos) (e :: es) [] cpos) (tBM X.K T r to t) := by
  intro pins s σ H Q I h
  refine wpAny_Call_method_late hbase hfew hline rfl (thn (ho pins s σ H _ I h) fun v s1 ⟨x, H1, I1, r1, ty, q1⟩ => ?_)
  obtain ⟨h1, h2⟩ := tyV_is I1 r1 ty
  refine ⟨T, id, pa, slot, hty, h1, h2, ?_⟩
  have hA := ha cpos pins s1 σ H1 _ I1 q1
  rw [hs] at hA ⊢
  refine Calls.callWith_builtin (by show (false || (backTo cpos (starEach es X.env)).any (·.1)) = false; rw [hplain] <;> rfl) (Calls.evalArgs_plain ?_)
  exact thn hA fun us s2 ⟨vs, H2, I2, r2, q2⟩ => hm pins s2 σ H2 x vs v us Q I2 r1 r2 q2
end
end L2
namespace L2
open PySem PySem.Spec PyProof.Rows
def MtM (X : Cx) (id : String) (r : V -> List V -> Hp -> VK -> Prop) : Prop :=
  ∀ (pins : List (Addr × Obj)) (s : Shared) (σ : St) (H : Hp) (x : V) (xs : List V) (v : Value) (us : List Value) (Q : VK), Inv X pins σ H s -> RelV x v -> Vals xs us -> r x xs H Q ->
    wpAny (model X.prog X.w) X.A (call (.builtin id) (v :: us)) (EP X pins σ Q) X.xe s
theorem Vals.one : ∀ {x : V} {us : List Value}, Vals [x] us -> ∃ u, us = [u] /\ RelV x u
  | _, _, .cons r .nil => ⟨_, rfl, r⟩
section
variable {X : Cx} {pins : List (Addr × Obj)} {σ : St} {H : Hp} {s : Shared} {l b : Addr} {xs ys zs : List V}
theorem Inv.lset {its its' : List Value} {n : Nat} {f : Array Value -> Array Value} {t' : Nat} (I : Inv X pins σ H s) (hH : H l = some (.lst xs))
    (e : s.heap.get? l = some { cls := .type "list", data := .seq its.toArray n }) (hf : f its.toArray = its'.toArray) (hv : Vals ys its') (hz : ys.length <= sizeLine) :
    Inv X pins σ (upd H l (.lst ys)) { s with heap := s.heap.update l (Obj.mapSeq f), toks := t' } := by
  have q := PySem.IsL.update e f
  rw [hf] at q
  refine I.write (x := l) (e := l) (by rw [hH]; exact trivial) (.inl rfl) (fun b' u hb hu => (Heap.get?_update_other s.heap (Obj.mapSeq f) (Ne.symm hb)).trans hu) ⟨_, q⟩ ?_
  exact ⟨hz, its', _, hv, q⟩
theorem Inv.lnew {its : List Value} {t' : Nat} (I : Inv X pins σ H s) (hv : Vals ys its) (hz : ys.length <= sizeLine) :
    Inv X pins σ (upd H s.heap.objs.size (.lst ys)) { s with heap := s.heap.push { cls := .type "list", data := .seq its.toArray }, toks := t' } :=
  I.laid (fun _ _ q => Heap.get?_push_of_some _ q) (Nat.le_refl _) ⟨hz, its, 0, hv, Heap.get?_push_size _ rfl⟩
theorem Inv.fresh (I : Inv X pins σ H s) : H s.heap.objs.size = none := I.hok.fresh (Nat.le_refl _)
theorem Inv.lstM (I : Inv X pins σ H s) (hH : H l = some (.lst xs)) : xs.length <= sizeLine /\ ∃ (its : List Value) (n : Nat), Vals xs its /\ xs.length = its.length /\ s.heap.get? l = some { cls := .type "list", data := .seq its.toArray n } := by
  obtain ⟨z, its, n, r, e⟩ := I.hok l _ hH
  exact ⟨z, its, n, r, r.length, e⟩
theorem notLongL {n : Nat} (h : n <= sizeLine) : Builtin.List.listTooLong n = false := by
  unfold Builtin.List.listTooLong
  exact decide_eq_false (by omega)
end
section
variable {X : Cx}
def rAppend : V -> List V -> Hp -> VK -> Prop := fun x vs H Q => ∃ l xs y, x = .ref l /\ vs = [y] /\ H l = some (.lst xs) /\ xs.length < sizeLine /\ Q .non (upd H l (.lst (xs ++ [y])))
theorem YW : MtM X "list.append" rAppend := by
  intro pins s σ H x vs v us Q I rx rv h
  obtain ⟨l, xs, y, rfl, rfl, hH, hz, q⟩ := h
  cases rx
  obtain ⟨u, rfl, ru⟩ := rv.one
  obtain ⟨z, its, n, r, hl, e⟩ := I.lstM hH
  refine call_meets F.slot_list_append ⟨_, e, rfl⟩ F.entry_list_append (F.args_list_append_2 _ _) (PySem.list_append l its.toArray n u (by rw [List.size_toArray]; omega)) ⟨e, ?_⟩
  refine ⟨.non, _, I.lset (its' := its ++ [u]) hH e (by simp) (r.append (.cons ru .nil)) ?_, rfl, q⟩
  rw [List.length_append, List.length_singleton]
  omega
def rExtend : V -> List V -> Hp -> VK -> Prop := fun x vs H Q => ∃ l b xs zs, x = .ref l /\ vs = [.ref b] /\ H l = some (.lst xs) /\ H b = some (.lst zs) /\ xs.length + zs.length <= sizeLine /\ Q .non (upd H l (.lst (xs ++ zs)))
theorem mt_extend : MtM X "list.extend" rExtend := by
  intro pins s σ H x vs v us Q I rx rv h
  obtain ⟨l, b, xs, zs, rfl, rfl, hH, hB, hz, q⟩ := h
  cases rx
  obtain ⟨u, rfl, ru⟩ := rv.one
  cases ru
  obtain ⟨z, its, n, r, hl, e⟩ := I.lstM hH
  obtain ⟨z2, its2, n2, r2, hl2, e2⟩ := I.lstM hB
  have hsz : its.toArray.size + its2.toArray.size <= sizeLine := by rw [List.size_toArray, List.size_toArray]; omega
  have hlong : ¬ (!its.toArray.isEmpty && Builtin.List.listTooLong (its.toArray.size + its2.toArray.size)) = true := by
    rw [notLongL hsz, Bool.and_false]
    exact Bool.false_ne_true
  refine call_meets F.slot_list_extend ⟨_, e, rfl⟩ F.entry_list_extend (F.args_list_extend_2 _ _)
    (AutoSeq1.list_extend_list_list_0 l its.toArray n b its2.toArray n2 hlong (by rw [List.size_toArray]; omega) (by omega)) ⟨e, e2, ?_⟩
  refine ⟨.non, _, I.lset (its' := its ++ its2) hH e (by simp) (r.append r2) ?_, rfl, q⟩
  rw [List.length_append]
  omega
def rCat : R2 := fun x y H Q => ∃ l b xs zs, x = .ref l /\ y = .ref b /\ H l = some (.lst xs) /\ H b = some (.lst zs) /\ xs.length + zs.length <= sizeLine /\ ∀ p, H p = none -> Q (.ref p) (upd H p (.lst (xs ++ zs)))
theorem op_cat : OpR X (binaryOp .Add) rCat := by
  intro pins s σ H x y v u Q I rx ry h
  obtain ⟨l, b, xs, zs, rfl, rfl, hH, hB, hz, q⟩ := h
  cases rx
  cases ry
  obtain ⟨z, its, n, r, hl, e⟩ := I.lstM hH
  obtain ⟨z2, its2, n2, r2, hl2, e2⟩ := I.lstM hB
  refine PySem.P.add_list e e2 ?_ (by rw [List.size_toArray, List.size_toArray]; omega)
  have ea : its.toArray ++ its2.toArray = (its ++ its2).toArray := by simp
  rw [ea]
  exact ⟨.ref _, _, I.lnew (t' := s.toks) (r.append r2) (by rw [List.length_append]; omega), rfl, q _ I.fresh⟩
end
section
variable {prog : Program} {w : World} {A : Around} {E : Value -> Shared -> Prop} {s : Shared}
set_option maxRecDepth 100000 in
end
section
variable {X : Cx}
end
end L2
namespace L2
open PySem PySem.Spec PyProof.Rows
section
variable {κ : Type} [DecidableEq κ]
def YE (kvs : List (κ × V)) (k : κ) : Option V := (kvs.find? fun kv => decide (kv.1 = k)).map (·.2)
def putK (kvs : List (κ × V)) (k : κ) (v : V) : List (κ × V) :=
  if (kvs.any fun kv => decide (kv.1 = k)) = true then kvs.map (fun kv => if kv.1 = k then (kv.1, v) else kv) else kvs ++ [(k, v)]
theorem YM {p : κ × V} {r : List (κ × V)} {k : κ} (e : p.1 = k) : YE (p :: r) k = some p.2 := by simp [YE, List.find?_cons, e]
theorem YN {p : κ × V} {r : List (κ × V)} {k : κ} (e : ¬ p.1 = k) : YE (p :: r) k = YE r k := by simp [YE, List.find?_cons, e]
theorem V3 (k : κ) : ∀ kvs : List (κ × V), (kvs.any fun kv => decide (kv.1 = k)) = (YE kvs k).isSome
  | [] => rfl
  | p :: r => by
    rw [List.any_cons]
    by_cases e : p.1 = k
    · simp only [YM e, decide_eq_true e, Bool.true_or, Option.isSome_some]
    · rw [YN e, decide_eq_false e, Bool.false_or]; exact V3 k r
theorem valV_map (k j : κ) (y : V) : ∀ kvs : List (κ × V), YE (kvs.map fun kv => if kv.1 = k then (kv.1, y) else kv) j = (YE kvs j).map fun x => if j = k then y else x
  | [] => rfl
  | p :: r => by
    have ih := valV_map k j y r
    rw [List.map_cons]
    by_cases h : p.1 = k
    · rw [if_pos h]
      by_cases e : p.1 = j
      · rw [YM (p := (p.1, y)) e, YM e, Option.map_some, if_pos (e.symm.trans h)]
      · rw [YN (p := (p.1, y)) e, YN e, ih]
    · rw [if_neg h]
      by_cases e : p.1 = j
      · rw [YM (p := p) e, YM e, Option.map_some, if_neg (fun z => h (e.trans z))]
      · rw [YN (p := p) e, YN e, ih]
theorem valV_snoc (k j : κ) (y : V) : ∀ kvs : List (κ × V), YE kvs k = none -> YE (kvs ++ [(k, y)]) j = if j = k then some y else YE kvs j
  | [], _ => by
    by_cases e : k = j
    · rw [if_pos e.symm]; exact YM (p := (k, y)) e
    · rw [if_neg (fun z => e z.symm)]; exact YN (p := (k, y)) e
  | p :: r, hn => by
    rw [List.cons_append]
    have hk : ¬ p.1 = k := fun z => by rw [YM z] at hn; cases hn
    rw [YN hk] at hn
    have ih := valV_snoc k j y r hn
    by_cases e : p.1 = j
    · rw [YM e, YM e, if_neg (fun z => hk (e.trans z))]
    · rw [YN e, YN e, ih]
theorem valV_put (kvs : List (κ × V)) (k j : κ) (y : V) : YE (putK kvs k y) j = if j = k then some y else YE kvs j := by
  unfold putK
  by_cases a : (kvs.any fun kv => decide (kv.1 = k)) = true
  · rw [if_pos a, valV_map]
    rw [V3] at a
    by_cases e : j = k
    · obtain ⟨x, hx⟩ := Option.isSome_iff_exists.mp a
      rw [if_pos e, e, hx, Option.map_some, if_pos rfl]
    · rw [if_neg e]
      cases YE kvs j with
      | none => rfl
      | some x => rw [Option.map_some, if_neg e]
  · rw [if_neg a]
    refine valV_snoc k j y kvs ?_
    rw [V3] at a
    cases q : YE kvs k with
    | none => rfl
    | some x => rw [q] at a; exact (a rfl).elim
theorem Yp (kvs : List (κ × V)) (k : κ) (v : V) : (putK kvs k v).length <= kvs.length + 1 := by
  unfold putK
  split
  · rw [List.length_map]; omega
  · rw [List.length_append, List.length_cons, List.length_nil]; omega
theorem RelO.isSome_eq {o : Option V} {u : Option Value} (r : RelO o u) : o.isSome = u.isSome := by
  cases o with
  | none => cases u with
    | none => rfl
    | some _ => exact (show False from r).elim
  | some _ => cases u with
    | none => exact (show False from r).elim
    | some _ => rfl
theorem KV.val {kvs : List (κ × V)} {vs : List (κ × Value)} (r : KV kvs vs) (k : κ) : RelO (YE kvs k) (valueAt vs k) := by
  unfold KV at r
  induction r with
  | nil => exact True.intro
  | @cons p q ps qs h t ih =>
    obtain ⟨h1, h2⟩ := h
    by_cases e : p.1 = k
    · have e' : q.1 = k := h1.symm.trans e
      have b : valueAt (q :: qs) k = some q.2 := by simp [valueAt, List.find?_cons, e']
      rw [YM e, b]; exact h2
    · have e' : ¬ q.1 = k := fun z => e (h1.trans z)
      have b : valueAt (q :: qs) k = valueAt qs k := by simp [valueAt, List.find?_cons, e']
      rw [YN e, b]; exact ih
theorem KV.any {kvs : List (κ × V)} {vs : List (κ × Value)} (r : KV kvs vs) (k : κ) : (kvs.any fun kv => decide (kv.1 = k)) = vs.any fun kv => decide (kv.1 = k) := by
  unfold KV at r
  induction r with
  | nil => rfl
  | cons h t ih => rw [List.any_cons, List.any_cons, ih, h.1]
theorem KV.repl {kvs : List (κ × V)} {vs : List (κ × Value)} (r : KV kvs vs) (k : κ) {y : V} {u : Value} (ry : RelV y u) :
    KV (kvs.map fun kv => if kv.1 = k then (kv.1, y) else kv) (vs.map fun kv => if kv.1 = k then (kv.1, u) else kv) := by
  unfold KV at r ⊢
  induction r with
  | nil => exact .nil
  | @cons p q ps qs h t ih =>
    rw [List.map_cons, List.map_cons]
    refine .cons ?_ ih
    obtain ⟨h1, h2⟩ := h
    by_cases e : p.1 = k
    · rw [if_pos e, if_pos (h1.symm.trans e)]; exact ⟨h1, ry⟩
    · rw [if_neg e, if_neg (fun z => e (h1.trans z))]; exact ⟨h1, h2⟩
theorem KV.put {kvs : List (κ × V)} {vs : List (κ × Value)} (r : KV kvs vs) (k : κ) {y : V} {u : Value} (ry : RelV y u) : KV (putK kvs k y) (stored vs k u) := by
  unfold putK stored
  rw [r.any k]
  by_cases e : (vs.any fun kv => decide (kv.1 = k)) = true
  · rw [if_pos e, if_pos e]; exact r.repl k ry
  · rw [if_neg e, if_neg e]; exact Paired.snoc r ⟨rfl, ry⟩
theorem KV.keys {kvs : List (κ × V)} {vs : List (κ × Value)} (r : KV kvs vs) : kvs.map (·.1) = vs.map (·.1) := by
  unfold KV at r
  induction r with
  | nil => rfl
  | cons h t ih => rw [List.map_cons, List.map_cons, ih, h.1]
theorem KV.length {kvs : List (κ × V)} {vs : List (κ × Value)} (r : KV kvs vs) : kvs.length = vs.length := Paired.length r
end
theorem kV_is {P : Program} {w : World} {k : Key} {u : Value} (r : RelV (kV k) u) : (Zx P w).is k u = true := by
  cases k with
  | inl i => obtain ⟨t, e⟩ := (show ∃ t, u = Value.int i t from r); subst e; exact mixKind_int P w i t
  | inr x => obtain ⟨t, e⟩ := (show ∃ t, u = Value.str x t from r); subst e; exact mixKind_str P w x t
theorem items_are {P : Program} {w : World} : ∀ {ks : List Key} {us : List Value}, Vals (ks.map kV) us -> ItemsAre (Zx P w) ks us
  | [], _, r => by rw [List.map_nil] at r; cases r; exact .nil
  | k :: ks, _, r => by
    rw [List.map_cons] at r
    cases r with
    | cons h t => exact .cons (kV_is h) (items_are t)
abbrev KT (H : Hp) : List (List Key × V) -> List (List Key × Addr × Value) -> Prop := Paired fun p q => p.1 = q.1 /\ H q.2.1 = some (.tup (p.1.map kV)) /\ RelV p.2 q.2.2
theorem KT.val {H : Hp} {kvs : List (List Key × V)} {xs : List (List Key × Addr × Value)} (r : KT H kvs xs) (k : List Key) : RelO (YE kvs k) ((atKey xs k).map (·.2)) := by
  induction r with
  | nil => exact True.intro
  | @cons p q ps qs h t ih =>
    obtain ⟨h1, _, h2⟩ := h
    by_cases e : p.1 = k
    · have e' : q.1 = k := h1.symm.trans e
      have b : atKey (q :: qs) k = some q.2 := by simp [atKey, List.find?_cons, e']
      rw [YM e, b]; exact h2
    · have e' : ¬ q.1 = k := fun z => e (h1.trans z)
      have b : atKey (q :: qs) k = atKey qs k := by simp [atKey, List.find?_cons, e']
      rw [YN e, b]; exact ih
theorem KT.repl {H : Hp} {kvs : List (List Key × V)} {xs : List (List Key × Addr × Value)} (r : KT H kvs xs) (k : List Key) {y : V} {u : Value} (ry : RelV y u) :
    KT H (kvs.map fun kv => if kv.1 = k then (kv.1, y) else kv) (xs.map (putAt k u)) := by
  induction r with
  | nil => exact .nil
  | @cons p q ps qs h t ih =>
    rw [List.map_cons, List.map_cons]
    refine .cons ?_ ih
    obtain ⟨h1, h2, h3⟩ := h
    unfold putAt
    by_cases e : p.1 = k
    · rw [if_pos e, if_pos (h1.symm.trans e)]; exact ⟨h1, h2, ry⟩
    · rw [if_neg e, if_neg (fun z => e (h1.trans z))]; exact ⟨h1, h2, h3⟩
theorem KT.put {H : Hp} {kvs : List (List Key × V)} {xs : List (List Key × Addr × Value)} (r : KT H kvs xs) (k : List Key) {b : Addr} {y : V} {u : Value} (hb : H b = some (.tup (k.map kV))) (ry : RelV y u) :
    KT H (putK kvs k y) (storedH xs k b u) := by
  have e : (kvs.any fun kv => decide (kv.1 = k)) = (atKey xs k).isSome := by
    rw [V3, (r.val k).isSome_eq, Option.isSome_map]
  unfold putK storedH
  rw [e]
  by_cases q : (atKey xs k).isSome = true
  · rw [if_pos q, if_pos q]; exact r.repl k ry
  · rw [if_neg q, if_neg q]; exact Paired.snoc r ⟨rfl, hb, ry⟩
theorem KT.keeps {H H' : Hp} {kvs : List (List Key × V)} {xs : List (List Key × Addr × Value)} (r : KT H kvs xs) (ht : ∀ b ys, H b = some (.tup ys) -> H' b = some (.tup ys)) : KT H' kvs xs :=
  Paired.mapP r fun _ _ z => ⟨z.1, ht _ _ z.2.1, z.2.2⟩
section
variable {P : Program} {w : World} {H : Hp} {h : Heap} {a : Addr}
theorem rd_of {u : HO} (ok : HOk P w H h) (e : Rd H a u) : Z2 P w H h a u := e.ok ok
theorem dk_rd {kvs : List (Key × V)} (ok : HOk P w H h) (e : Rd H a (.dK kvs)) : kvs.length <= sizeLine /\ (a == sysModules) = false /\ ∃ vs, KV kvs vs /\ h.DictOf (Zx P w) a vs :=
  show Z2 P w H h a (.dK kvs) from rd_of ok e
theorem dk_of {kvs : List (Key × V)} (ok : HOk P w H h) (e : H a = some (.dK kvs)) : kvs.length <= sizeLine /\ (a == sysModules) = false /\ ∃ vs, KV kvs vs /\ h.DictOf (Zx P w) a vs := dk_rd ok (.inl e)
theorem key_of {ks : List Key} (ok : HOk P w H h) (e : H a = some (.tup (ks.map kV))) : (tupleKind (Zx P w)).is h ks a := by
  obtain ⟨_, its, r, o, h1, _, h2, n, h3⟩ := (show Z2 P w H h a (.tup (ks.map kV)) from ok a _ e)
  exact ⟨o, its.toArray, n, h1, h2, h3, by simpa using items_are r⟩
theorem dt_rd {kvs : List (List Key × V)} (ok : HOk P w H h) (e : Rd H a (.dT kvs)) : kvs.length <= sizeLine /\ (a == sysModules) = false /\
    ∃ xs, KT H kvs xs /\ h.DictOfH (tupleKind (Zx P w)) a xs := by
  obtain ⟨z, y, xs, r, o, es, ep, h1, h2, h3, h4, h5⟩ := (show Z2 P w H h a (.dT kvs) from rd_of ok e)
  refine ⟨z, y, xs, r, o, es, ep, h1, h2, h3, h4, fun x hx => ?_, h5⟩
  have all : ∀ {l : List (List Key × V)} {m : List (List Key × Addr × Value)}, KT H l m -> ∀ x ∈ m, (tupleKind (Zx P w)).is h x.1 x.2.1 := by
    intro l m q
    induction q with
    | nil => intro x hx; exact nomatch hx
    | @cons p q ps qs hq t ih =>
      intro x hx
      rcases List.mem_cons.mp hx with e | hx
      · subst e
        exact key_of ok (by rw [<- hq.1]; exact hq.2.1)
      · exact ih x hx
  exact all r x hx
theorem dt_of {kvs : List (List Key × V)} (ok : HOk P w H h) (e : H a = some (.dT kvs)) : kvs.length <= sizeLine /\ (a == sysModules) = false /\
    ∃ xs, KT H kvs xs /\ h.DictOfH (tupleKind (Zx P w)) a xs := dt_rd ok (.inl e)
end
def YY (H : Hp) (a : Addr) (y : V) (r : Option V) : Prop :=
  (∃ kvs k, Rd H a (.dK kvs) /\ y = kV k /\ r = YE kvs k) ∨ ∃ kvs k b, Rd H a (.dT kvs) /\ y = .ref b /\ H b = some (.tup (k.map kV)) /\ r = YE kvs k
def JU (H : Hp) (a : Addr) (y v : V) (H' : Hp) : Prop :=
  (∃ kvs k, H a = some (.dK kvs) /\ y = kV k /\ kvs.length < sizeLine /\ H' = upd H a (.dK (putK kvs k v))) ∨
  ∃ kvs k b, H a = some (.dT kvs) /\ y = .ref b /\ H b = some (.tup (k.map kV)) /\ kvs.length < sizeLine /\ H' = upd H a (.dT (putK kvs k v))
theorem YY.k {H : Hp} {a : Addr} {kvs : List (Key × V)} {k : Key} (e : H a = some (.dK kvs)) : YY H a (kV k) (YE kvs k) := .inl ⟨kvs, k, .inl e, rfl, rfl⟩
theorem JU.k {H : Hp} {a : Addr} {kvs : List (Key × V)} {k : Key} {v : V} (e : H a = some (.dK kvs)) (hl : kvs.length < sizeLine) : JU H a (kV k) v (upd H a (.dK (putK kvs k v))) := .inl ⟨kvs, k, e, rfl, hl, rfl⟩
section
variable {X : Cx} {pins : List (Addr × Obj)} {σ : St} {H : Hp} {s : Shared} {a : Addr} {y v : V} {u r : Value} {o : Option V} {A : Around} {E : Value -> Shared -> Prop}
theorem Inv.big (I : Inv X pins σ H s) : sysModules < s.heap.objs.size := by
  have h : mainGlobals < s.heap.objs.size := (I.mod.glob.keeps I.bk).lt
  exact Nat.lt_trans (by decide) h
theorem d_getItem {Q : Value -> Shared -> Prop} (hu : A.units + 1 < cLine) (I : Inv X pins σ H s) (g : YY H a y (some v)) (ry : RelV y u) (h : ∀ w' s', Inv X pins σ H s' -> RelV v w' -> Q w' s') :
    wpAny (model X.prog X.w) A (getItem (.ref a) u) Q E s := by
  rcases g with ⟨kvs, k, e, ey, l⟩ | ⟨kvs, k, b, e, ey, eb, l⟩
  · subst ey
    obtain ⟨z, hd, vs, rel, dd⟩ := dk_rd I.hok e
    obtain ⟨w', hw, rw'⟩ := RelO.some_of (v := v) (o := valueAt vs k) (by rw [l]; exact rel.val k)
    exact wpAny_getItem_of (kV_is ry) dd.mapOf hw (h w' _ (I.tok _) rw')
  · subst ey
    cases (show u = Value.ref b from ry)
    obtain ⟨z, hd, xs, rel, dd⟩ := dt_rd I.hok e
    obtain ⟨w', hw, rw'⟩ := RelO.some_of (v := v) (o := (atKey xs k).map (·.2)) (by rw [l]; exact rel.val k)
    obtain ⟨p, hp, hp2⟩ := Option.map_eq_some_iff.mp hw
    refine wpAny_getItem_heap (tupleKind_room_in1 hu) (key_of I.hok eb) dd hp ?_
    rw [hp2]
    exact h w' _ (I.tok _) rw'
theorem d_notIn {Q : Value -> Shared -> Prop} (hu : A.units + 1 < cLine) (I : Inv X pins σ H s) (g : YY H a y o) (ry : RelV y u) (h : ∀ s', Inv X pins σ H s' -> Q (.bool (!o.isSome)) s') :
    wpAny (model X.prog X.w) A (compareOp .NotIn u (.ref a)) Q E s := by
  rcases g with ⟨kvs, k, e, ey, l⟩ | ⟨kvs, k, b, e, ey, eb, l⟩
  · subst ey
    obtain ⟨z, hd, vs, rel, dd⟩ := dk_rd I.hok e
    refine wpAny_notIn_of (kV_is ry) hd dd.mapOf ?_
    rw [<- (rel.val k).isSome_eq, <- l]
    exact h _ (I.tok _)
  · subst ey
    cases (show u = Value.ref b from ry)
    obtain ⟨z, hd, xs, rel, dd⟩ := dt_rd I.hok e
    refine wpAny_notIn_heap (tupleKind_room_in1 hu) (key_of I.hok eb) hd dd ?_
    have q := (rel.val k).isSome_eq
    rw [Option.isSome_map] at q
    rw [<- q, <- l]
    exact h _ (I.tok _)
theorem d_write {h' : Heap} {t' : Nat} {ob : HO} (I : Inv X pins σ H s) (mu : Mut (H a)) (hs : Heap.SameBut a s.heap h') (he : ∃ q, h'.get? a = some q) (new : Z2 X.prog X.w (upd H a ob) h' a ob) :
    Inv X pins σ (upd H a ob) { s with heap := h', toks := t' } :=
  I.write (x := a) (e := a) mu (.inl rfl) (fun b q hb z => (hs.2 b hb).trans z) he new
theorem dk_new {P : Program} {w : World} {H' : Hp} {h' : Heap} {kvs : List (Key × V)} {vs : List (Key × Value)} (z : kvs.length <= sizeLine) (hd : (a == sysModules) = false) (rel : KV kvs vs) (dd : h'.DictOf (Zx P w) a vs) :
    Z2 P w H' h' a (.dK kvs) := ⟨z, hd, vs, rel, dd⟩
theorem d_setItem {H' : Hp} {Q : Unit -> Shared -> Prop} (hu : A.units + 1 < cLine) (I : Inv X pins σ H s) (g : JU H a y v H') (ry : RelV y u) (rv : RelV v r) (h : ∀ s', Inv X pins σ H' s' -> Q () s') :
    wpAny (model X.prog X.w) A (setItem (.ref a) u r) Q E s := by
  rcases g with ⟨kvs, k, e, ey, l, eH⟩ | ⟨kvs, k, b, e, ey, eb, l, eH⟩
  · subst ey eH
    obtain ⟨z, hd, vs, rel, dd⟩ := dk_of I.hok e
    have hz : vs.length <= sizeLine := by rw [<- rel.length]; exact z
    have hl : (putK kvs k v).length <= sizeLine := by have := Yp kvs k v; omega
    refine wpAny_setItem_pairs (hsz := hz) (kV_is ry) dd fun h' dd' hs => h _ ?_
    have he : ∃ q, h'.get? a = some q := let ⟨q, _, _, hq, _⟩ := dd'; ⟨q, hq⟩
    exact d_write I (by rw [e]; exact True.intro) hs he (dk_new hl hd (rel.put k rv) dd')
  · subst ey eH
    cases (show u = Value.ref b from ry)
    obtain ⟨z, hd, xs, rel, dd⟩ := dt_of I.hok e
    have hz : xs.length <= sizeLine := by rw [<- Paired.length rel]; exact z
    have hl : (putK kvs k v).length <= sizeLine := by have := Yp kvs k v; omega
    refine wpAny_setItem_heap (hsz := hz) (tupleKind_room_in1 hu) (key_of I.hok eb) dd fun h' dd' hs => h _ ?_
    obtain ⟨q, es, ep, hq, h2, h3, h4, _, h5⟩ := dd'
    refine d_write I (by rw [e]; exact True.intro) hs ⟨q, hq⟩ ⟨hl, hd, _, (rel.put k eb rv).keeps fun c ys ec => ?_, q, es, ep, hq, h2, h3, h4, h5⟩
    rw [ZJ (VZ ec e (fun z => nomatch z))]
    exact ec
end
section
variable {X : Cx} {pins : List (Addr × Obj)} {σ : St} {H : Hp} {s : Shared} {a : Addr} {kvs : List (Key × V)} {k : Key} {u : Value} {A : Around} {E : Value -> Shared -> Prop}
theorem d_len {Q : Value -> Shared -> Prop} (I : Inv X pins σ H s) (e : Rd H a (.dK kvs)) (h : ∀ t s', Inv X pins σ H s' -> Q (.int kvs.length t) s') : wpAny (model X.prog X.w) A (call (.builtin "len") [.ref a]) Q E s := by
  obtain ⟨z, hd, vs, rel, dd⟩ := dk_rd I.hok e
  refine call_len_dict hd dd (by rw [<- rel.length]; rw [sizeLine_eq] at z; omega) ?_
  rw [<- rel.length]
  exact h _ _ (I.tok _)
end
def NoSl (i : Expr) : Prop := ∀ ov iv, subscripted i false ov iv = operate [ov, iv] (getItem ov iv)
theorem subD_of {prog : Program} {w : World} {A : Around} {E : Value -> Shared -> Prop} {s : Shared} {env : Env} {value slice : Expr} {pos : Pos} {T id : String} {Q : Value -> Shared -> Prop}
    (hl : typeLookup (.type T) "__getitem__" = pure (some (.builtin id))) (hs : NoSl slice)
    (h : wpAny (model prog w) A (eval value env) (fun o s₁ => wpAny (model prog w) A (eval slice env) (fun i s₂ => s₂.TypeIs o T /\ wpAny (model prog w) A (getItem o i) Q E s₂) E s₁) E s) :
    wpAny (model prog w) A (eval (.Subscript value slice pos) env) Q E s := by
  refine Subscript_ (wpAny_mono h (fun o s₁ h₁ => wpAny_mono h₁ (fun i s₂ h₂ => ?_) fun _ _ x => x) fun _ _ x => x)
  obtain ⟨hT, h₂⟩ := h₂
  unfold subscriptTail
  refine wpAny_bind ?_
  rw [getitemInPython_of_ne hT.not_modules]
  refine wpAny_bind (wpAny_specialOf hT hl ?_)
  have fin : wpAny (model prog w) A (subscripted slice false o i) (fun r s₃ => wpAny (model prog w) A (letTemporaryGo value o r >>= fun _ => pure r) Q E s₃) E s₂ := by
    rw [hs o i]
    exact wpAny_operating (wpAny_mono h₂ (fun r s₃ h₃ => wpAny_bind (wpAny_letTemporaryGo (wpAny_pure h₃))) fun _ _ x => x)
  first
    | exact wpAny_pure (wpAny_bind fin)
    | exact wpAny_bind (wpAny_pure (wpAny_bind fin))
    | exact wpAny_bind fin
theorem dict_typeIs {X : Cx} {pins : List (Addr × Obj)} {σ : St} {H : Hp} {s : Shared} {a : Addr} {y : V} {o : Option V} (I : Inv X pins σ H s) (g : YY H a y o) : s.TypeIs (.ref a) "dict" := by
  rcases g with ⟨kvs, k, e, _, _⟩ | ⟨kvs, k, b, e, _, _, _⟩
  · obtain ⟨_, _, vs, _, dd⟩ := dk_rd I.hok e
    exact dd.typeIs
  · obtain ⟨_, _, xs, _, dd⟩ := dt_rd I.hok e
    exact dd.typeIs
def tDGet (td ty : TE) : TE := fun σ H Q => td σ H fun x H1 => ty σ H1 fun y H2 => ∃ a v, x = .ref a /\ YY H2 a y (some v) /\ Q v H2
def tDNotIn (ty td : TE) : TE := fun σ H Q => ty σ H fun y H1 => td σ H1 fun x H2 => ∃ a o, x = .ref a /\ YY H2 a y o /\ Q (.bl (!o.isSome)) H2
def sDPut (td ty tv : TE) : TS := fun D σ H => tv σ H fun v H1 => td σ H1 fun x H2 => ty σ H2 fun y H3 => ∃ a H4, x = .ref a /\ JU H3 a y v H4 /\ D.nx σ H4
section
variable {X : Cx} {o i e value : Expr} {pos pos' tpos : Pos} {td ty tv : TE}
theorem Zg (hu : X.A.units + 1 < cLine) (ho : PE X o td) (hi : PE X i ty) (hs : NoSl i) : PE X (.Subscript o i pos) (tDGet td ty) := by
  intro pins s σ H Q I h
  refine subD_of PySem.F.slot_dict_getitem.lookup hs (thn (ho pins s σ H _ I h) fun u s1 ⟨x, H1, I1, rx, q1⟩ => thn (hi pins s1 σ H1 _ I1 q1) fun iv s2 ⟨y, H2, I2, ry, a, v, ex, g, q2⟩ => ?_)
  subst ex
  obtain rfl : u = Value.ref a := rx
  exact ⟨dict_typeIs I2 g, d_getItem hu I2 g ry fun w' s3 I3 rw' => ⟨v, H2, I3, rw', q2⟩⟩
theorem pc_dnotin (hu : X.A.units + 1 < cLine) (hi : PE X i ty) (ho : PE X o td) : PC X .NotIn i o (tDNotIn ty td) := by
  intro pins s σ H Q I h
  refine thn (hi pins s σ H _ I h) fun iv s1 ⟨y, H1, I1, ry, q1⟩ => thn (ho pins s1 σ H1 _ I1 q1) fun u s2 ⟨x, H2, I2, rx, a, ov, ex, g, q2⟩ => ?_
  subst ex
  obtain rfl : u = Value.ref a := rx
  exact d_notIn hu I2 g ry fun s3 I3 => ⟨.bl (!ov.isSome), H2, I3, rfl, q2⟩
theorem Yu (hu : X.A.units + 1 < cLine) (ho : PE X o td) (hi : PE X i ty) (hv : PE X value tv) (hs : swapsWith value (some (.Subscript o i pos')) pos.line X.env = pure false) :
    PS X (.Assign [.Subscript o i pos'] value pos) (sDPut td ty tv) := by
  intro pins s σ H D I h
  refine wpAny_Assign_Subscript (thn (hv pins s σ H _ I h) fun r s1 ⟨v, H1, I1, rv, q1⟩ => thn (ho pins s1 σ H1 _ I1 q1) fun u s2 ⟨x, H2, I2, rx, q2⟩ => thn (hi pins s2 σ H2 _ I2 q2) fun iv s3 ⟨y, H3, I3, ry, a, H4, ex, g, q3⟩ => ?_) hs
  subst ex
  obtain rfl : u = Value.ref a := rx
  exact d_setItem hu I3 g ry rv fun s4 I4 => ⟨σ, H4, I4, q3⟩
end
theorem dk_empty {P : Program} {w : World} {H : Hp} (h : Heap) (hb : sysModules < h.objs.size) : Z2 P w H (h.push { cls := .type "dict", data := .dict #[] }) h.objs.size (.dK []) :=
  ⟨Nat.zero_le _, beq_eq_false_iff_ne.mpr (Ne.symm (Nat.ne_of_lt hb)), [], .nil, Heap.DictOf.new h⟩
def tDNewK : TE := fun _ H Q => ∀ p, H p = none -> Q (.ref p) (upd H p (.dK []))
section
variable {X : Cx} {pos : Pos}
theorem pe_dnewK : PE X (.Dict [] [] pos) tDNewK := fun pins s σ H Q I h =>
  wpAny_Dict_empty ⟨.ref s.heap.objs.size, _, I.laid (a := s.heap.objs.size) (o := .dK []) (t' := s.toks) (fun _ _ q => Heap.get?_push_of_some _ q) (Nat.le_refl _) (dk_empty s.heap I.big), rfl, h _ (I.hok.fresh (Nat.le_refl _))⟩
end
def tPairs : List (TE × TE) -> St -> Hp -> (List (V × V) -> Hp -> Prop) -> Prop
  | [], _, H, Q => Q [] H
  | (tk, tv) :: r, σ, H, Q => tk σ H fun x H1 => tv σ H1 fun y H2 => tPairs r σ H2 fun ps H3 => Q ((x, y) :: ps) H3
abbrev VV : List (V × V) -> List (Value × Value) -> Prop := Paired fun p q => RelV p.1 q.1 /\ RelV p.2 q.2
def PPs (X : Cx) (pos : Pos) (keys : List (Option Expr)) (values : List Expr) (trs : List (TE × TE)) : Prop :=
  ∀ (pins : List (Addr × Obj)) (s : Shared) (σ : St) (H : Hp) (Q : List (V × V) -> Hp -> Prop), Inv X pins σ H s -> tPairs trs σ H Q ->
    wpAny (model X.prog X.w) X.A (evalPairs (pairTrees keys values X.env pos)) (fun vs s' => ∃ ps H', Inv X pins σ H' s' /\ VV ps vs /\ Q ps H') X.xe s
theorem pps_nil {X : Cx} {pos : Pos} : PPs X pos [] [] [] := fun pins s σ H Q I h => pairTrees_nil_walk ⟨[], H, I, .nil, h⟩
theorem JA {X : Cx} {pos : Pos} {k v : Expr} {ks : List (Option Expr)} {vs : List Expr} {tk tv : TE} {trs : List (TE × TE)} (hk : PE X k tk) (hv : PE X v tv) (hr : PPs X pos ks vs trs) :
    PPs X pos (some k :: ks) (v :: vs) ((tk, tv) :: trs) := fun pins s σ H Q I h =>
  pairTrees_cons_walk (thn (hk pins s σ H _ I h) fun u s1 ⟨x, H1, I1, rx, q1⟩ => thn (hv pins s1 σ H1 _ I1 q1) fun w2 s2 ⟨y, H2, I2, ry, q2⟩ =>
    thn (hr pins s2 σ H2 _ I2 q2) fun ws s3 ⟨ps, H3, I3, rel, q3⟩ => ⟨(x, y) :: ps, H3, I3, .cons ⟨rx, ry⟩ rel, q3⟩)
def mergeK (kvs more : List (Key × V)) : List (Key × V) := more.foldl (fun acc kv => putK acc kv.1 kv.2) kvs
theorem KV.merge : ∀ {more : List (Key × V)} {rs : List (Key × Value)} {kvs : List (Key × V)} {vs : List (Key × Value)}, KV more rs -> KV kvs vs -> KV (mergeK kvs more) (merged vs rs) := by
  intro more rs kvs vs r
  unfold KV at r
  induction r generalizing kvs vs with
  | nil => intro q; exact q
  | @cons p q ps qs h t ih =>
    intro r0
    have e : KV (putK kvs p.1 p.2) (stored vs q.1 q.2) := by
      have := r0.put p.1 h.2
      rw [<- h.1]; exact this
    exact ih e
theorem Vn : ∀ (more kvs : List (Key × V)), (mergeK kvs more).length <= kvs.length + more.length
  | [], kvs => by show kvs.length <= kvs.length + 0; omega
  | p :: r, kvs => by
    have h1 := Vn r (putK kvs p.1 p.2)
    have h2 := Yp kvs p.1 p.2
    show (mergeK (putK kvs p.1 p.2) r).length <= _
    rw [List.length_cons]; omega
theorem carries_of {P : Program} {w : World} : ∀ {kvs : List (Key × V)} {ws : List (Value × Value)}, VV (kvs.map fun kv => (kV kv.1, kv.2)) ws -> ∃ rs, Carries (Zx P w) ws rs /\ KV kvs rs
  | [], _, r => by rw [List.map_nil] at r; cases r; exact ⟨[], True.intro, .nil⟩
  | p :: kvs, _, r => by
    rw [List.map_cons] at r
    cases r with
    | @cons a b as bs h t =>
      obtain ⟨rs, c, q⟩ := carries_of (P := P) (w := w) t
      obtain ⟨b1, b2⟩ := b
      exact ⟨(p.1, b2) :: rs, ⟨kV_is h.1, rfl, c⟩, .cons ⟨rfl, h.2⟩ q⟩
def tDisp (trs : List (TE × TE)) : TE := fun σ H Q => ∀ p, H p = none -> tPairs trs σ (upd H p (.dK [])) fun ps H2 => H2 p = some (.dK []) /\ ∃ kvs : List (Key × V), ps = kvs.map (fun kv => (kV kv.1, kv.2)) /\ kvs.length <= 15 /\ Q (.ref p) (upd H2 p (.dK (mergeK [] kvs)))
theorem pe_disp {X : Cx} {pos : Pos} {keys : List (Option Expr)} {values : List Expr} {trs : List (TE × TE)} (h : PPs X pos keys values trs) (hall : keys.all (·.isSome) = true) (hl : keys.length = values.length) (h0 : keys ≠ [])
    (h15 : keys.length <= 15) : PE X (.Dict keys values pos) (tDisp trs) := by
  intro pins s σ H Q I q
  have hn := I.hok.fresh (Nat.le_refl s.heap.objs.size)
  have I1 := I.laid (a := s.heap.objs.size) (o := .dK []) (h' := s.heap.push { cls := .type "dict", data := .dict #[] }) (t' := s.toks) (fun _ _ q => Heap.get?_push_of_some _ q) (Nat.le_refl _) (dk_empty s.heap I.big)
  refine wpAny_Dict_walk (knd := Zx X.prog X.w) hall hl h0 h15 (thn (h pins _ σ _ _ I1 (q _ hn)) fun ws s2 ⟨ps, H2, I2, rel, e, kvs, ep, lk, q2⟩ => ?_)
  subst ep
  obtain ⟨rs, c, rk⟩ := carries_of (P := X.prog) (w := X.w) rel
  obtain ⟨z, hd, vs0, r0, dd⟩ := dk_of I2.hok e
  cases r0
  refine ⟨rs, c, dd, fun h' dd' hs => ⟨.ref s.heap.objs.size, _, ?_, rfl, q2⟩⟩
  have hz : (mergeK [] kvs).length <= sizeLine := by
    have h1 := Vn kvs []
    rw [List.length_nil] at h1
    rw [sizeLine_eq]; omega
  have he : ∃ q, h'.get? s.heap.objs.size = some q := let ⟨q, _, _, hq, _⟩ := dd'; ⟨q, hq⟩
  exact d_write I2 (by rw [e]; exact True.intro) hs he (dk_new hz hd (rk.merge .nil) dd')
structure M1 (X : Cx) (o : Expr) (m : Str) (apos : Pos) (e : Expr) (cpos : Pos) : Prop where
  base : attributeBase o m X.env (eval o X.env) = eval o X.env
  few : ((backTo cpos (starEach [e] X.env)).all (fun x => !x.1) && (backToKw cpos (keywordEach [] X.env)).all (fun x => x.1.isSome)
    && decide (([e] : List Expr).length + ([] : List Keyword).length + (if ([] : List Keyword).isEmpty then 0 else 1) < 30)) = true
  line : (apos.endLine == cpos.line) = true
  trees : backTo cpos (starEach [e] X.env) = [(false, eval e X.env)]
structure M2 (X : Cx) (o : Expr) (m : Str) (apos : Pos) (e f : Expr) (cpos : Pos) : Prop where
  base : attributeBase o m X.env (eval o X.env) = eval o X.env
  few : ((backTo cpos (starEach [e, f] X.env)).all (fun x => !x.1) && (backToKw cpos (keywordEach [] X.env)).all (fun x => x.1.isSome)
    && decide (([e, f] : List Expr).length + ([] : List Keyword).length + (if ([] : List Keyword).isEmpty then 0 else 1) < 30)) = true
  line : (apos.endLine == cpos.line) = true
  trees : backTo cpos (starEach [e, f] X.env) = [(false, eval e X.env), (false, eval f X.env)]
section
variable {X : Cx} {pins : List (Addr × Obj)} {σ : St} {H : Hp} {s : Shared} {a : Addr} {y d : V} {u r : Value} {o : Option V} {A : Around} {E : Value -> Shared -> Prop}
end
section
variable {X : Cx} {o e f : Expr} {apos cpos : Pos} {td ty tx : TE}
end
section
variable {X : Cx} {pins : List (Addr × Obj)} {σ : St} {H : Hp} {s : Shared} {a : Addr} {kvs : List (Key × V)} {A : Around} {E : Value -> Shared -> Prop}
end
section
variable {X : Cx} {pins : List (Addr × Obj)} {σ : St} {H : Hp} {s : Shared} {a : Addr} {y : V} {u : Value} {A : Around} {E : Value -> Shared -> Prop}
end
end L2
namespace Att
open PySem PySem.W PySem.Calls PyProof.Rows
theorem Jh {P : Params} {h : Heap} : ∀ (ns : List Int) (vs : List Value), WellAll P h vs (ns.map WData.int) -> IntsAre vs ns := by
  intro ns
  induction ns with
  | nil =>
    intro vs w
    rw [List.map_nil] at w
    cases w
    exact .nil
  | cons n ns ih =>
    intro vs w
    rw [List.map_cons] at w
    cases w with
    | cons a b =>
      cases a
      exact .cons _ _ (ih _ b)
theorem script_of {l : OpenLaw} {n : Nat} (hn : l.most = some n) {P : Params} {h : Heap} {args : List WData} {vals : List Value}
    (hpre : l.row.toRowW.claim.pre args = true) (hwl : WellAll P h vals args) :
    ∃ a vs ns, vals = [Value.ref a] /\ args = [WData.list (ns.map WData.int)] /\ h.get? a = some { cls := .type "list", data := .seq vs.toArray } /\ IntsAre vs ns /\ ns.length <= n := by
  have hsh : WShape.hasAll [] args [.list .int] = true := (pre_splitW hpre).1
  have hc : l.pre.holds [] { args := args } = true := (pre_splitW hpre).2
  obtain ⟨d, r, rfl, h1, h2⟩ := hasAllW_cons hsh
  obtain rfl := hasAllW_nil h2
  obtain ⟨xs, rfl, h3⟩ := hasW_list h1
  obtain ⟨ns, rfl⟩ := items_int h3
  have hlen : ns.length <= n := by
    unfold OpenLaw.pre at hc
    have h4 : (WTm.not (.lt (.lit (.int (n : Int))) (.len (.arg 0)))).holds [] { args := [.list (ns.map .int)] } = true := by
      have h4 := (holds_andW hc).1
      rw [hn] at h4
      exact h4
    have h5 := condW_of h4 (w_not (w_lt w_lit (w_len_list (w_arg rfl))))
    rw [List.length_map] at h5
    refine Nat.le_of_not_lt fun q => ?_
    have q' : (n : Int) < ((ns.length : Nat) : Int) := by omega
    first
      | (rw [decide_eq_true q'] at h5; exact absurd h5 (by decide))
      | (simp at h5; omega)
  cases hwl with
  | cons w1 w2 =>
    cases w2
    cases w1 with
    | list ho hall => exact ⟨_, _, ns, rfl, rfl, ho, Jh ns _ hall, hlen⟩
theorem post_true (l : OpenLaw) (args : List WData) : l.row.toRowW.claim.post args (.bool true) args = true :=
  postW_of (r := l.row.toRowW) (X := (true == true))
    (show WShape.has [] (.bool true) .bool = true by first | rfl | decide | simp [WShape.has, WShape.arms, WShape.armsAll])
    (show (WTm.eq .res (.lit (.bool true))).value [] { args := args, res := some (.bool true), after := args } = some (.bool (true == true)) from w_eq_bool (w_res rfl) w_lit) rfl
theorem attach_call {l : OpenLaw} {n : Nat} {q : Program} {loose : List Str} {XP : (Str -> Option Value) -> Heap -> Prop} {YP : World -> Heap -> Prop} {d : DefRec}
    (hn : l.most = some n) (hdf : d.params.defaults = [])
    (call : ∀ (w : World) (s₀ s₁ : Shared) (mg mb : Str -> Option Value) (fa : Addr) (o : Obj) (pm cd doc : Value) (a : Addr) (vs : List Value) (ns : List Int),
      Ground q loose [] XP w s₀ mg mb s₁.heap -> YP w s₁.heap ->
      s₁.heap.get? fa = some o -> o.data = .func (docDef d.name d.params d.body d.scope pm cd doc) -> s₁.heap.CodeRec cd d.name -> mg d.name = some (.ref fa) ->
      s₁.heap.get? a = some { cls := .type "list", data := .seq vs.toArray } -> IntsAre vs ns -> ns.length <= n -> s₁.gens = #[] ->
      codeAny (model l.prog w) callerA (.call (.ref fa) ⟨[.ref a], []⟩) (fun r s' => r = .ok (.ret (.bool true)) /\ OldK s₁.heap s'.heap /\ s'.os = s₁.os /\ AllBare s'.gens) s₁) :
    WalkO q loose XP YP l.row.toRowW d [] (fun f vs => PySem.call f vs) := by
  intro w s₀ s₁ mg mb G Y fa o pm cd doc dV kV ho hd hcd hD hmg hg args vals as hpre hlay hrd hwl hlo
  obtain rfl : dV = .none := Dflts.none hD hdf
  obtain rfl : kV = .none := Dflts.noKw hD
  obtain ⟨a, vs, ns, rfl, rfl, hobj, hints, hlen⟩ := script_of hn hpre hwl
  refine enter_call (codeAny_mono (call w s₀ s₁ mg mb fa o pm cd doc a vs ns G Y ho (fd_plain hd) hcd hmg hobj hints hlen hg) fun r s' hq => ?_)
  obtain ⟨rfl, h2, h3, h4⟩ := hq
  exact ⟨.inl ⟨.bool true, .bool true, [], rfl, fun _ => rfl, .bool true, post_true l _, fun _ => ⟨List.Pairwise.nil, fun _ hm => (nomatch hm)⟩⟩, h2, h3, h4⟩
section
variable {prog : Program} {w : World} {A : Around} {E : Value -> Shared -> Prop} {s : Shared} {K : Frag}
end
end Att
namespace L2
open PySem PySem.Spec PyProof.Rows
theorem vals_ints : ∀ {vs : List Value} {ns : List Int}, IntsAre vs ns -> Vals (ns.map V.int) vs
  | _, _, .nil => .nil
  | _, _, .cons n t h => .cons ⟨t, rfl⟩ (vals_ints h)
def Only (H : Hp) : Prop := ∀ b, H b = none ∨ ∃ o xs, H b = some (.frz o (.lst xs))
theorem law_call {P : Program} {w : World} {K : PySem.W.Frag} {mg mb : Str -> Option Value} {CX : CXT} {k : Nat} {fa a : Addr} {fd : FuncData} {x : Str} {sp : Sp} {s₁ : Shared} {vs : List Value} {ns : List Int}
    (KX : K.In s₁.heap) (hns : s₁.heap.Ns mainGlobals mg) (hb : s₁.heap.Ns builtinsNs mb) (hbb : ∀ x : Str, x ≠ "__name__" -> mb x = bootBuiltins x) (hlim : s₁.heap.NoLimit) (hg : s₁.gens = #[])
    (ha : s₁.heap.get? a = some { cls := .type "list", data := .seq vs.toArray }) (hi : IntsAre vs ns) (hl : ns.length <= sizeLine) (hr : Room k callerA)
    (F : ∀ base : Heap, K.In base -> base.Ns mainGlobals mg -> FnOk P w K mg base CX k fa fd [x] sp) (hbind : ∀ (s : Shared) (u : Value), BindsTo s fd ⟨[u], []⟩ [(x, u)])
    (hsp : ∀ H : Hp, Only H -> SqL K H a (ns.map V.int) -> sp [.ref a] H (fun v _ => v = .bl true) fun _ _ _ => False)
    (hCX : ∀ H e s', CX [] H s₁ (fun _ _ _ => False) e s' -> False) :
    codeAny (model P w) callerA (.call (.ref fa) ⟨[.ref a], []⟩) (fun r s' => r = .ok (.ret (.bool true)) /\ OldK s₁.heap s'.heap /\ s'.os = s₁.os /\ AllBare s'.gens) s₁ := by
  have rv := vals_ints hi
  have lenV := hi.length
  -- from an abstract heap in which nothing but the script may be tracked
  have core : ∀ H : Hp, Only H -> SqL K H a (ns.map V.int) -> HOk P w H s₁.heap -> (∀ b, H b ≠ none -> b = a) -> (H a ≠ none -> K.lookup a = none) ->
      codeAny (model P w) callerA (.call (.ref fa) ⟨[.ref a], []⟩) (fun r s' => r = .ok (.ret (.bool true)) /\ OldK s₁.heap s'.heap /\ s'.os = s₁.os /\ AllBare s'.gens) s₁ := by
    intro H hO hS hok hA hK
    have base_of : ∀ {b : Addr} {o : Obj}, s₁.heap.get? b = some o -> H b = none -> (hidT s₁.heap H).get? b = some o := fun e n => hidT_get e n
    have noA : ∀ {b : Addr} {o : Obj} {es : Array DictEntry} {ep : Nat}, s₁.heap.get? b = some o -> o.data = .dict es ep -> H b = none := fun {b o es ep} e d => by
      cases q : H b with
      | none => rfl
      | some u =>
        have e' : b = a := hA b (by rw [q]; simp)
        subst e'
        rw [ha] at e; cases e
        have d' : Data.seq vs.toArray _ = Data.dict es ep := d
        cases d'
    have nsK : ∀ {b : Addr} {m : Str -> Option Value}, s₁.heap.Ns b m -> (hidT s₁.heap H).Ns b m := fun {b m} ⟨o, es, ep, e, d, r⟩ => ⟨o, es, ep, base_of e (noA e d), d, r⟩
    have hKb : K.In (hidT s₁.heap H) := fun b o e => base_of (KX b o e) (by
      cases q : H b with
      | none => rfl
      | some u =>
        have e' : b = a := hA b (by rw [q]; simp)
        subst e'
        rw [hK (by rw [q]; simp)] at e; cases e)
    have hM : Mod K mg (hidT s₁.heap H) := ⟨hKb, nsK hns, ⟨mb, nsK hb, hbb⟩, let ⟨mc, h1, h2⟩ := hlim; ⟨mc, nsK h1, h2⟩⟩
    have e0 : Env0 P w K mg (hidT s₁.heap H) callerA [] s₁ H := ⟨rfl, hM, fun b o e => of_hidT e, Nat.le_of_eq (hidT_size _ _), trivial, fun b hb => absurd (show b ∈ ([] : List Addr) from hb) (by simp), hok, .of_eq hg⟩
    refine codeAny_mono ((F _ hKb (nsK hns)).run callerA [] s₁ H ⟨[.ref a], []⟩ [.ref a] [.ref a] _ _ hr e0 (hbind s₁ (.ref a)) (.cons rfl .nil) (hsp H hO hS)) fun r s' h => ?_
    cases r with
    | error e => exact (hCX H e s' h).elim
    | ok fl =>
      cases fl with
      | next => exact False.elim h
      | brk => exact False.elim h
      | cont => exact False.elim h
      | ret u =>
        obtain ⟨v, H', os, bare, un, hok', r', q⟩ := h
        have q' : v = .bl true := q
        subst q'
        obtain rfl : u = Value.bool true := r'
        refine ⟨rfl, OldK.of_keep fun b o e => ?_, os, bare⟩
        cases q : H b with
        | none => exact un.keep b o e q (by intro z; exact absurd (show b ∈ ([] : List Addr) from z) (by simp)) (by simp)
        | some u =>
          rcases hO b with z | ⟨ob, xs, z⟩
          · rw [q] at z; cases z
          · have z2 := un.frzs b ob _ z
            obtain ⟨e1, _⟩ := hok b _ z
            obtain ⟨e2, _⟩ := hok' b _ z2
            rw [e] at e1; cases e1
            exact e2
  cases hk : K.lookup a with
  | some o =>
    -- the script is one of the module's own objects
    have e := KX a o hk
    rw [ha] at e
    cases e
    refine core (fun _ => none) (fun _ => .inl rfl) (.inr ⟨_, vs.toArray, _, hk, rfl, rfl, rfl, by rw [List.size_toArray, lenV]; exact hl, by simpa using rv⟩) (fun b u z => by have z' : (none : Option HO) = some u := z; cases z') (fun b z => absurd rfl z) fun z => absurd rfl z
  | none =>
    refine core (fun b => if b = a then some (.frz { cls := .type "list", data := .seq vs.toArray } (.lst (ns.map V.int))) else none) (fun b => ?_) (.inl (.inr ⟨{ cls := .type "list", data := .seq vs.toArray }, if_pos rfl⟩)) (fun b u z => ?_) (fun b z => ?_) fun _ => hk
    · by_cases hb : b = a
      · exact .inr ⟨_, _, if_pos hb⟩
      · exact .inl (if_neg hb)
    · by_cases hb : b = a
      · have z' := (if_pos hb).symm.trans z
        cases z'
        subst hb
        exact ⟨ha, by rw [List.length_map]; exact hl, vs, _, rv, ha⟩
      · have z' := (if_neg hb).symm.trans z
        cases z'
    · by_cases hb : b = a
      · exact hb
      · exact absurd (if_neg hb) z
end L2
namespace L2
open PySem PySem.Spec PyProof.Rows
theorem walk_of {l : PySem.W.OpenLaw} {n k : Nat} {q : Program} {loose : List Str} {XP : (Str -> Option Value) -> Heap -> Prop} {YP : World -> Heap -> Prop} {d : DefRec} {K : Params -> PySem.W.Frag} {CX : World -> CXT} {sp : World -> Sp} {x : Str}
    (hn : l.most = some n) (hn2 : n <= sizeLine) (hdf : d.params.defaults = []) (hr : Room k callerA)
    (hY : ∀ (w : World) (h : Heap), YP w h -> (K w.params).In h)
    (F : ∀ (w : World) (mg : Str -> Option Value) (fa : Addr) (h : Heap), (K w.params).In h -> h.Ns mainGlobals mg -> mg d.name = some (.ref fa) ->
      ∃ fd : FuncData, (∀ (s : Shared) (u : Value), BindsTo s fd ⟨[u], []⟩ [(x, u)]) /\
        ∀ base : Heap, (K w.params).In base -> base.Ns mainGlobals mg -> FnOk l.prog w (K w.params) mg base (CX w) k fa fd [x] (sp w))
    (hsp : ∀ (w : World) (H : Hp) (a : Addr) (ns : List Int), ns.length <= n -> Only H -> SqL (K w.params) H a (ns.map V.int) -> sp w [.ref a] H (fun v _ => v = .bl true) fun _ _ _ => False)
    (hCX : ∀ (w : World) (H : Hp) (s : Shared) (e : Value) (s' : Shared), CX w [] H s (fun _ _ _ => False) e s' -> False) :
    PySem.W.WalkO q loose XP YP l.row.toRowW d [] (fun f vs => PySem.call f vs) := by
  refine Att.attach_call hn hdf fun w s₀ s₁ mg mb fa o pm cd doc a vs ns G Y ho hd hcd hmg hobj hints hlen hg => ?_
  have KX := hY w _ Y
  obtain ⟨fd, hb, hF⟩ := F w mg fa _ KX G.T.g hmg
  exact law_call KX G.T.g G.T.b G.T.builtins G.T.nolimit hg hobj hints (Nat.le_trans hlen hn2) hr hF hb (fun H hO hS => hsp w H a ns hlen hO hS) fun H e s' => hCX w H s₁ e s'
end L2
namespace L2
open PySem PySem.Spec PyProof.Rows
def Zm (s : Stmt) : Arguments := match s with
  | .FunctionDef _ a _ _ _ _ _ _ _ _ => a
  | _ => { posonlyargs := [], args := [], vararg := none, kwonlyargs := [], kw_defaults := [], kwarg := none, defaults := [] }
def Zl (s : Stmt) : List Stmt := match s with
  | .FunctionDef _ _ b _ _ _ _ _ _ _ => b
  | _ => []
def ZN (s : Stmt) : Scope := match s with
  | .FunctionDef _ _ _ _ _ _ sc _ _ _ => sc
  | _ => { kind := .function, names := [], isGenerator := false, isCoroutine := false }
abbrev CX0 : CXT := fun _ _ _ _ _ _ => False
abbrev E0 : XK := fun _ _ _ => False
theorem ZU {X : Cx} : Passes CX0 X E0 := fun _ _ _ _ _ _ _ h => h.elim
structure Fun (K : PySem.W.Frag) (x qual : Str) (st : Stmt) (f : Addr) (fd : FuncData) : Prop where
  ex : ∃ (oc : Value) (od : Option Addr) (kV doc pm : Value) (an : Option Addr) (cdv ct : Value) (osl : Array (Option Value)),
    fd = PySem.W.fnOf x qual (Zm st) (Zl st) (ZN st) .none kV doc pm an cdv ct /\ K.lookup f = some ⟨oc, od, .func fd, osl⟩ /\ PySem.W.codeIn K cdv qual = true
  kp : PySem.W.keepIn K (.ref f) = true
section
variable {P : Program} {w : World} {K : PySem.W.Frag} {mg : Str -> Option Value} {base : Heap}
theorem Fun.ok {x qual : Str} {st : Stmt} {f : Addr} {fd : FuncData} {N ps : List Str} {k : Nat} {sp : Sp} (F : Fun K x qual st f fd) (S : FnScope N ps (ZN st)) (len : ∀ vs H Q E, sp vs H Q E -> vs.length = ps.length)
    (hbody : ∀ (cdv : Value) (A : Around) (outer : List Env) (s : Shared) (H : Hp) (vs : List V) (Q : VK) (E : XK), Room k (A.deeper (envOfC qual (ZN st) s.heap.objs.size f cdv)) -> sp vs H Q E ->
      ∃ t, PSs (Y9 CX0 P w K mg base N qual (ZN st) f cdv A outer s H E).nox (Zl st) t /\ t { nx := fun _ H' => Q .non H', rt := Q } (start N vs) H) : FnOk P w K mg base CX0 (k + 1) f fd ps sp := by
  obtain ⟨oc, od, kV, doc, pm, an, cdv, ct, osl, rfl, lk, hcd⟩ := F.ex
  refine fn_of lk hcd S len fun A outer s H vs Q E hr hsp => ?_
  obtain ⟨t, h, q⟩ := hbody cdv A outer s H vs Q E hr hsp
  exact ⟨t, h.nox, q⟩
theorem Fun.binds {x qual : Str} {st : Stmt} {f : Addr} {fd : FuncData} {ps : List Str} (F : Fun K x qual st f fd)
    (h : ∀ (kV doc pm : Value) (an : Option Addr) (cdv ct : Value) (us : List Value), us.length = ps.length -> bindArgs (PySem.W.fnOf x qual (Zm st) (Zl st) (ZN st) .none kV doc pm an cdv ct) ⟨us, []⟩ = pure (ps.zip us)) : Binds K fd ps [] := by
  obtain ⟨oc, od, kV, doc, pm, an, cdv, ct, osl, rfl, lk, hcd⟩ := F.ex
  exact .all (h kV doc pm an cdv ct)
theorem Z0 {x qual : Str} {st : Stmt} {f : Addr} {oc : Value} {od an : Option Addr} {osl : Array (Option Value)} {kV doc pm cdv ct : Value} (l : K.lookup f = some ⟨oc, od, .func (PySem.W.fnOf x qual (Zm st) (Zl st) (ZN st) .none kV doc pm an cdv ct), osl⟩)
    (c : PySem.W.codeIn K cdv qual = true) (k : PySem.W.keepIn K (.ref f) = true) : Fun K x qual st f (PySem.W.fnOf x qual (Zm st) (Zl st) (ZN st) .none kV doc pm an cdv ct) := ⟨⟨oc, od, kV, doc, pm, an, cdv, ct, osl, rfl, l, c⟩, k⟩
end
theorem Vb {A : Around} {k : Nat} (hr : Room k A) : A.units + 1 < cLine := Nat.lt_of_le_of_lt (Nat.add_le_add_left (by decide : 1 <= 64) _) hr.units
theorem ZP {n : Nat} (h : n <= 1000) : n < sizeLine := Nat.lt_of_le_of_lt h (by decide)
section
variable {X : Cx}
theorem pv (i : Nat) {x : Str} {pos : Pos} (hN : X.N[i]? = some x := by rfl) (hv : Vis X.env.scope x := by first | exact Or.inl rfl | exact Or.inr (Or.inl rfl) | exact Or.inr (Or.inr rfl)) (hd : (x == ("__debug__" : Str)) = false := by decide)
    (hcd : (x == ("__classdict__" : Str)) = false := by decide) : PE X (.Name x pos) (tVar i) := pe_var hN hv hd hcd
end
theorem YI {c A B : Prop} [Decidable c] (h1 : c -> A) (h2 : ¬ c -> B) : if c then A else B := by
  by_cases h : c
  · rw [if_pos h]
    exact h1 h
  · rw [if_neg h]
    exact h2 h
def Same (H H' : Hp) : Prop := ∀ b o, H b = some o -> H' b = some o
theorem Same.refl (H : Hp) : Same H H := fun _ _ h => h
theorem Same.trans {H H1 H2 : Hp} (a : Same H H1) (b : Same H1 H2) : Same H H2 := fun c o h => b c o (a c o h)
theorem Same.free {H H' : Hp} (e : Same H H') {l : Addr} (h : H' l = Option.none) : H l = Option.none := by
  cases q : H l with
  | none => rfl
  | some o =>
    rw [e l o q] at h
    cases h
theorem Same.seq {K : PySem.W.Frag} {H H' : Hp} {a : Addr} {xs : List V} (e : Same H H') (h : SqL K H a xs) : SqL K H' a xs := by
  rcases h with (h | ⟨o, h⟩) | h
  · exact .inl (.inl (e _ _ h))
  · exact .inl (.inr ⟨o, e _ _ h⟩)
  · exact .inr h
section
variable {X : Cx}
end
section
variable {κ : Type} [DecidableEq κ]
end
end L2
namespace L2
open PySem PySem.Spec PyProof.Rows
theorem closure_go {env : Env} (cs : List (Str × NameKind)) : ∀ (acc : List (Str × Addr)), (∀ x ∈ cs, x.2 = .free -> ∃ c, env.cells.lookup x.1 = some c) ->
    ∃ cl, (forIn cs acc (fun (x : Str × NameKind) (r : List (Str × Addr)) => (if (x.2 == NameKind.free) = true then do let c <- cellOf env x.1; pure (ForInStep.yield ((x.1, c) :: r)) else pure (ForInStep.yield r) : Sem (ForInStep (List (Str × Addr))))) = pure cl) /\
      (∀ x c, cl.lookup x = some c -> env.cells.lookup x = some c ∨ acc.lookup x = some c) /\ (∀ x, (x, NameKind.free) ∈ cs -> ∃ c, cl.lookup x = some c) /\ (∀ x c, acc.lookup x = some c -> ∃ c', cl.lookup x = some c') := by
  induction cs with
  | nil => intro acc _; exact ⟨acc, rfl, fun x c h => .inr h, fun x h => (nomatch h), fun x c h => ⟨c, h⟩⟩
  | cons y r ih =>
    intro acc h
    obtain ⟨n, k⟩ := y
    by_cases hk : k = .free
    · subst hk
      obtain ⟨c, hc⟩ := h (n, .free) List.mem_cons_self rfl
      obtain ⟨cl, e1, e2, e3, e4⟩ := ih ((n, c) :: acc) fun x hx => h x (List.mem_cons_of_mem _ hx)
      refine ⟨cl, ?_, fun x c' hx => ?_, fun x hx => ?_, fun x c' hx => ?_⟩
      · rw [<- e1]
        simp only [List.forIn_cons, beq_self_eq_true, if_true, cellOf, hc]
        rfl
      · rcases e2 x c' hx with q | q
        · exact .inl q
        · rw [List.lookup_cons] at q
          cases hb : x == n with
          | true =>
            rw [hb] at q
            have : x = n := by simpa using hb
            subst this
            cases q
            exact .inl hc
          | false => rw [hb] at q; exact .inr q
      · rcases List.mem_cons.mp hx with q | q
        · cases q
          exact e4 n c (by simp [List.lookup_cons])
        · exact e3 x q
      · cases hb : x == n with
        | true => exact e4 x c (by simp [List.lookup_cons, hb])
        | false => exact e4 x c' (by simp [List.lookup_cons, hb, hx])
    · obtain ⟨cl, e1, e2, e3, e4⟩ := ih acc fun x hx => h x (List.mem_cons_of_mem _ hx)
      have hb : (k == NameKind.free) = false := by simpa using hk
      refine ⟨cl, ?_, e2, fun x hx => ?_, e4⟩
      · rw [<- e1]
        simp only [List.forIn_cons, hb, Bool.false_eq_true, if_false]
        rfl
      · rcases List.mem_cons.mp hx with q | q
        · cases q; exact absurd rfl hk
        · exact e3 x q
theorem VQ {scope : Scope} {env : Env} (h : ∀ x ∈ scope.names, x.2 = .free -> ∃ c, env.cells.lookup x.1 = some c) :
    ∃ cl, closureFor scope env = pure cl /\ (∀ x c, cl.lookup x = some c -> env.cells.lookup x = some c) /\ (∀ x, (x, NameKind.free) ∈ scope.names -> ∃ c, cl.lookup x = some c) := by
  obtain ⟨cl, e1, e2, e3, _⟩ := closure_go scope.names [] h
  refine ⟨cl, ?_, fun x c hx => (e2 x c hx).resolve_right (by simp), e3⟩
  rw [<- bind_pure (pure cl : Sem (List (Str × Addr))), <- e1]
  rfl
theorem Yb {scope : Scope} {env : Env} {x : Str} : ∀ {names : List (Str × NameKind)}, (names.map fun (n, k) => if (k == NameKind.free && env.scope.kind == .function && env.kindOf n == some .cell) then (n, NameKind.cell) else (n, k)).lookup x = some .cell ∨
    (names.map fun (n, k) => if (k == NameKind.free && env.scope.kind == .function && env.kindOf n == some .cell) then (n, NameKind.cell) else (n, k)).lookup x = some .free -> (∀ y ∈ names, y.2 ≠ .cell) -> (x, NameKind.free) ∈ names
  | [], h, _ => by simp at h
  | (n, k) :: r, h, hc => by
    have ih := @Yb scope env x r
    rw [List.map_cons] at h
    have key : ∀ k' : NameKind, (∀ k₂, ((n, k') :: (r.map fun (n, k) => if (k == NameKind.free && env.scope.kind == .function && env.kindOf n == some .cell) then (n, NameKind.cell) else (n, k))).lookup x = some k₂ -> (x = n /\ k' = k₂) ∨ (r.map fun (n, k) => if (k == NameKind.free && env.scope.kind == .function && env.kindOf n == some .cell) then (n, NameKind.cell) else (n, k)).lookup x = some k₂) := fun k' k₂ q => by
      rw [List.lookup_cons] at q
      cases hb : x == n with
      | true => rw [hb] at q; exact .inl ⟨by simpa using hb, Option.some.inj q⟩
      | false => rw [hb] at q; exact .inr q
    dsimp only at h
    split at h
    · rename_i hk
      have kf : k = .free := by
        cases k <;> simp at hk
        rfl
      subst kf
      rcases h with h | h
      · rcases key _ _ h with ⟨e, _⟩ | q
        · subst e; exact List.mem_cons_self
        · exact List.mem_cons_of_mem _ (ih (.inl q) fun y hy => hc y (List.mem_cons_of_mem _ hy))
      · rcases key _ _ h with ⟨e, _⟩ | q
        · subst e; exact List.mem_cons_self
        · exact List.mem_cons_of_mem _ (ih (.inr q) fun y hy => hc y (List.mem_cons_of_mem _ hy))
    · rcases h with h | h
      · rcases key _ _ h with ⟨e, e2⟩ | q
        · exact absurd e2 (hc (n, k) List.mem_cons_self)
        · exact List.mem_cons_of_mem _ (ih (.inl q) fun y hy => hc y (List.mem_cons_of_mem _ hy))
      · rcases key _ _ h with ⟨e, e2⟩ | q
        · subst e; subst e2; exact List.mem_cons_self
        · exact List.mem_cons_of_mem _ (ih (.inr q) fun y hy => hc y (List.mem_cons_of_mem _ hy))
theorem Jd {prog : Program} {w : World} {A : Around} {R : Result -> Shared -> Prop} {s : Shared} {elt target iter : Expr} {scope : Scope} {pos : Pos} {it acc : Value} {env : Env} (I : Nat -> Shared -> Prop)
    (turn : ∀ n s, I n s -> wpAny (model prog w) A (pyNext it) (fun r s1 => match r with
      | none => R (.ok .next) s1
      | some v => wpAny (model prog w) A (letOwnedTupleGo target it v) (fun _ s1' => wpAny (model prog w) A (assign target env v) (fun _ s2 => wpAny (model prog w) A (eval elt env) (fun x s3 =>
          wpAny (model prog w) A (call (.builtin "list.append") [acc, x]) (fun _ s4 => ∃ m, m < n /\ I m s4) (fun _ _ => False) s3)
          (fun _ _ => False) s2) (fun _ _ => False) s1') (fun _ _ => False) s1) (fun _ _ => False) s)
    (n : Nat) (h : I n s) : codeAny (model prog w) A
      (.compLoop (.ListComp elt [⟨target, iter, [], 0⟩] scope pos) 0 it acc env) R s := by
  refine codeAny_loop rfl I (fun n s hI => wpAny_noted (m := compTurn (.ListComp elt [⟨target, iter, [], 0⟩] scope pos) 0 it acc env) ?_) n h
  rw [compTurn_list1]
  refine wpAny_bind (wpAny_standAt (wpAny_bind (wpAny_mono (turn n s hI) (fun r s1 h1 => ?_) fun _ _ h' => h'.elim)))
  cases r with
  | none => exact wpAny_pure h1
  | some v =>
    exact wpAny_bind (wpAny_mono h1 (fun _ s1' h1' => wpAny_bind (wpAny_mono h1' (fun _ s2 h2 => wpAny_bind (wpAny_bind (wpAny_mono h2 (fun x s3 h3 => wpAny_bind (wpAny_mono h3
      (fun _ s4 h4 => wpAny_pure (wpAny_pure ⟨rfl, h4⟩)) fun _ _ h' => h'.elim)) fun _ _ h' => h'.elim))) fun _ _ h' => h'.elim)) fun _ _ h' => h'.elim)
end L2
namespace L2
open PySem PySem.Spec PyProof.Rows
theorem Yo {env : Env} {x : Str} : ∀ {names : List (Str × NameKind)}, names.lookup x = some .free ->
    (names.map fun (n, k) => if (k == NameKind.free && env.scope.kind == .function && env.kindOf n == some .cell) then (n, NameKind.cell) else (n, k)).lookup x ≠ some .local
  | [], h => by simp at h
  | (n, k) :: r, h => by
    have ih := @Yo env x r
    rw [List.map_cons]
    dsimp only
    rw [List.lookup_cons] at h
    cases hb : x == n with
    | true =>
      rw [hb] at h
      have kf : k = .free := Option.some.inj h
      subst kf
      split <;> simp [List.lookup_cons, hb]
    | false =>
      rw [hb] at h
      split <;> (simp only [List.lookup_cons, hb]; exact ih h)
def Z6 (X : Cx) (N' : List Str) (scope : Scope) (cl : List (Str × Addr)) (C : Addr) (fp : List Addr) (s : Shared) (H : Hp) : Cx :=
  { X with N := N', s₀ := s, H₀ := H, env := compEnvC scope cl C X.env, outer := X.stack, stack := X.stack, ex := fp, fn := fun _ => false, pn := [], xe := fun _ _ => False }
def Z7 (X : Cx) (own : List Str) (ix : List Nat) : List Str := own ++ ix.map fun j => X.N.getD j ("" : Str)
def Zy (k : Nat) (ix : List Nat) (σ : St) : St := List.replicate k none ++ ix.map fun j => σ.getD j none
def GK (k : Nat) (g : TG) : Prop := ∀ x σ H Q, g x σ H Q -> g x σ H fun σ2 H2 => Q σ2 H2 /\ σ2.length = σ.length /\ σ2.drop k = σ.drop k
theorem YR {k i : Nat} (h : i < k) : GK k (Y2 i) := fun x σ H Q q => ⟨q, by simp, by rw [List.drop_set, if_pos h]⟩
def GKs (k : Nat) (g : TGs) : Prop := ∀ x σ H Q, g x σ H Q -> g x σ H fun σ2 H2 => Q σ2 H2 /\ σ2.length = σ.length /\ σ2.drop k = σ.drop k
theorem gk_nil {k : Nat} : GKs k gNil := fun x σ H Q q => ⟨q.1, q.2, rfl, rfl⟩
theorem gk_cons {k : Nat} {g : TG} {gs : TGs} (h1 : GK k g) (h2 : GKs k gs) (m1 : ∀ x σ H (Q Q' : St -> Hp -> Prop), (∀ a b, Q a b -> Q' a b) -> g x σ H Q -> g x σ H Q') (m2 : ∀ x σ H (Q Q' : St -> Hp -> Prop), (∀ a b, Q a b -> Q' a b) -> gs x σ H Q -> gs x σ H Q') : GKs k (Ja g gs) := fun x σ H Q q => by
  obtain ⟨v, r, e, q⟩ := q
  refine ⟨v, r, e, m1 _ _ _ _ _ (fun a b z => ?_) (h1 _ _ _ _ q)⟩
  obtain ⟨z1, z2, z3⟩ := z
  refine m2 _ _ _ _ _ (fun c d y => ?_) (h2 _ _ _ _ z1)
  exact ⟨y.1, y.2.1.trans z2, y.2.2.trans z3⟩
theorem gk_tup {K : PySem.W.Frag} {k n : Nat} {gs : TGs} (h : GKs k gs) : GK k (gTup K n gs) := fun x σ H Q q => by
  obtain ⟨a, xs, e, h1, h2, q⟩ := q
  exact ⟨a, xs, e, h1, h2, h _ _ _ _ q⟩
def CompW (J : It) (g : TG) (te : TE) (s0 : St) (Q : VK) (H1 : Hp) : Prop := ∃ W : Nat -> Nat -> List V -> Hp -> Prop, (∃ m, W 0 m [] H1) /\ ∀ i m ys H, W i m ys H ->
  ys.length < sizeLine /\ ((J.stop i H /\ ∀ p, H p = none -> Q (.ref p) (upd H p (.lst ys))) ∨
    (J.go i H /\ ∀ x H', J.yld i H x H' -> g x s0 H' fun σ2 H2 => te σ2 H2 fun y H3 => ∃ m', m' < m /\ W (i + 1) m' (ys ++ [y]) H3))
def tComp (k : Nat) (ix : List Nat) (wi : TI) (g : TG) (te : TE) : TE := fun σ H Q => wi σ H fun J H1 => CompW J g te (Zy k ix σ) Q H1
theorem Inv.retrack {X : Cx} {pins : List (Addr × Obj)} {σ : St} {H : Hp} {s : Shared} {D : Addr} {o : HO} (I : Inv X pins σ H s) (hD : H D = none) (f : VA X pins H D) (new : Z2 X.prog X.w (upd H D o) s.heap D o) : Inv X pins σ (upd H D o) s := by
  have ne : ∀ b u, H b = some u -> b ≠ D := fun b u e => ZO e hD
  have r := I.step (h' := s.heap) (H' := upd H D o) (g' := s.gens) (d' := s.drawn) (t' := s.toks) (ch := [D])
    (fun b hb => by
      have e : b = D := by simpa using hb
      subst e
      exact ⟨f.2.2.2.1, f.2.1, f.2.2.2.2.1, f.2.2.2.2.2⟩)
    (fun b o _ _ _ e _ => e) (fun b o _ _ _ e _ => ⟨o.slots, e⟩) (fun b o hb e n => by rw [ZJ (fun z => hb (by simp [z]))]; exact n) (fun b o _ e => ⟨o, e⟩)
    (fun b xs e => by rw [ZJ (ne _ _ e)]; exact e) (fun b o u e => by rw [ZJ (ne _ _ e)]; exact e) (fun b ps e => ⟨#[], by rw [ZJ (ne _ _ e), e]; simp⟩) (fun m hm => hm)
    (fun b u e => by
      by_cases hb : b = D
      · subst hb; rw [ZD] at e; cases e; exact new
      · rw [ZJ hb] at e
        exact (I.hok b u e).stay (fun c v _ q => q) (fun c q => by rw [ZJ (ne _ _ q)]; exact q) fun c xs q => by rw [ZJ (ne _ _ q)]; exact q) I.bare
  exact r
section
variable {X : Cx}
theorem pe_comp {elt tg iter : Expr} {scope : Scope} {pos : Pos} {wi : TI} {g : TG} {te : TE} (own : List Str) (ix : List Nat) (hc : X.calm = true) (hi : PI X tg iter wi)
    (hkind : scope.kind = .function) (hnames : ∀ x ∈ scope.names, x.2 = .local -> scope.names.lookup x.1 = some .local) (hcell : ∀ x ∈ scope.names, x.2 ≠ .cell)
    (hcap : ∀ x ∈ scope.names, x.2 = .free -> X.env.scope.names.lookup x.1 = some .cell ∨ X.env.scope.names.lookup x.1 = some .free)
    (hix : ∀ j ∈ ix, ∃ y, X.N[j]? = some y /\ scope.names.lookup y = some .free) (hgk : GK own.length g)
    (hg : ∀ cl C fp s H, PG (Z6 X (Z7 X own ix) scope cl C fp s H) tg g) (he : ∀ cl C fp s H, PE (Z6 X (Z7 X own ix) scope cl C fp s H) elt te)
    (hs : ∀ x, foldedSetIterable iter X.env x = pure x := by intro _; rfl) :
    PE X (.ListComp elt [⟨tg, iter, [], 0⟩] scope pos) (tComp own.length ix wi g te) := by
  intro pins s σ H Q I h
  have hcells : ∀ x ∈ scope.names, x.2 = .free -> ∃ c, X.env.cells.lookup x.1 = some c := fun x hx hf => I.ok.has x.1 (hcap x hx hf)
  obtain ⟨cl, hcl, hcl1, hcl2⟩ := VQ hcells
  rw [eval_ListComp]
  refine wpAny_comprehension_free (use := none) rfl hs hcl hkind hnames ?_
  refine thn (hi pins s σ H _ I h) fun v s1 h1 => thn h1 fun itv s2 h2 => ?_
  obtain ⟨it, fp, tn, J, H2, e, I2, T, st2, f2, W, ⟨m0, w0⟩, turn⟩ := h2
  subst e
  refine wpAny_newObj_type (wpAny_newFunctionEnv hcell (by intro y hy; simp at hy) (fun h4 hns hsb => ?_) hkind)
  dsimp only at hns hsb ⊢
  -- the list
  generalize hh3 : s2.heap.push { cls := .type "list", dict := none, data := .seq ([] : List Value).toArray } = h3 at hns hsb ⊢
  have sz3 : h3.objs.size = s2.heap.objs.size + 1 := by rw [<- hh3, Heap.size_push]
  have k23 : ∀ b u, s2.heap.get? b = some u -> h3.get? b = some u := fun b u q => by rw [<- hh3]; exact Heap.get?_push_of_some _ q
  have D3 : h3.get? s2.heap.objs.size = some { cls := .type "list", data := .seq #[] } := by rw [<- hh3]; exact Heap.get?_push_size _ rfl
  obtain ⟨D, hD⟩ : ∃ D, D = s2.heap.objs.size := ⟨_, rfl⟩
  obtain ⟨C, hC⟩ : ∃ C, C = h3.objs.size := ⟨_, rfl⟩
  rw [<- hC] at hns hsb
  rw [<- hD] at D3 sz3
  have hCD : C = D + 1 := hC.trans sz3
  let s3 : Shared := { s2 with heap := h3 }
  have I3 : Inv X pins σ H2 s3 := I2.kept (t' := s2.toks) k23
  have lt3 : ∀ b u, h3.get? b = some u -> b < C := fun b u q => by rw [hC]; exact Heap.lt_size q
  have k34 : ∀ b u, h3.get? b = some u -> h4.get? b = some u := fun b u q => hsb.extBut b u (Nat.ne_of_lt (lt3 b u q)) (Heap.get?_push_of_some _ q)
  have H2D : H2 D = none := I2.hok.fresh (by rw [hD]; exact Nat.le_refl _)
  have H2C : H2 C = none := I2.hok.fresh (by rw [hCD, hD]; exact Nat.le_succ _)
  have fD : VA X pins H2 D := I2.fpOk (by rw [hD]; exact Nat.le_refl _) H2D
  have cellsLt : ∀ x c, X.env.cells.lookup x = some c -> c < D := fun x c e => by
    obtain ⟨v, z⟩ := I2.cell x c e
    rw [hD]; exact z.lt
  -- the iterator's own objects stand below the list
  have fpLt : ∀ b ∈ fp, b < D := fun b hb => by
    obtain ⟨o, e, _⟩ := T.obj 0 _ st2 b hb
    rw [hD]; exact Heap.lt_size e
  let X' : Cx := Z6 X (Z7 X own ix) scope cl C (D :: fp) s3 H2
  have stkLt : ∀ b ∈ frs X.stack, b ∉ D :: fp := fun b hb z => by
    rcases List.mem_cons.mp z with z | z
    · have q := I2.stack
      obtain ⟨_, o, e, _⟩ := q.mem hb
      have := Heap.lt_size e
      rw [z, hD] at this
      exact Nat.lt_irrefl _ this
    · rcases List.mem_cons.mp (I2.stkSub b hb) with q | q
      · exact (f2 b z).2.1 q
      · exact (f2 b z).2.2.1 q
  have ok' : X'.Ok := by
    refine ⟨I.ok.mod, hkind, I.ok.glob, I.ok.blt, ?_, fun x y c h1 h2 => I.ok.inj x y c (hcl1 x c h1) (hcl1 y c h2), fun x hx => hcl2 x (Yb (scope := scope) hx hcell), (fun x c z => Bool.noConfusion (show false = true from z)), I.ok.hd, I.ok.frames, .inl rfl, fun b hb => ⟨?_, fun x c h1 => ?_⟩, fun b o e => ?_, ?_, fun b o e hb => ?_, fun b hb z => stkLt b z hb, ?_, fun b hb => I2.stkFree b hb⟩
    · show h3.objs.size <= C
      rw [hC]; exact Nat.le_refl _
    · show b ≠ C
      rcases List.mem_cons.mp hb with z | z
      · rw [z, hCD]; exact Nat.ne_of_lt (Nat.lt_succ_self _)
      · rw [hCD]; exact Nat.ne_of_lt (Nat.lt_succ_of_lt (fpLt b z))
    · rcases List.mem_cons.mp hb with z | z
      · rw [z]; exact Nat.ne_of_lt (cellsLt x c (hcl1 x c h1))
      · exact (f2 b z).2.2.2.2.1 x c (hcl1 x c h1)
    · exact I3.bs b o e
    · show X.base.objs.size <= h3.objs.size
      have := Nat.le_trans I.ok.bsz I2.sz
      rw [<- hD] at this
      rw [<- hC, hCD]
      exact Nat.le_succ_of_le this
    · rcases List.mem_cons.mp hb with z | z
      · have := Heap.lt_size (I2.bk b o e)
        rw [z, hD] at this
        exact Nat.lt_irrefl _ this
      · rcases (f2 b z).2.2.2.1 with q | q
        · exact I.ok.noex b o e q
        · have := Nat.lt_of_lt_of_le (Heap.lt_size (I.ok.bs b o e).1) q
          exact Nat.lt_irrefl _ this
    · exact I3.stack
  have lenN : (Zy own.length ix σ).length = (Z7 X own ix).length := by simp [Zy, Z7]
  have I4 : ∀ t, Inv X' [] (Zy own.length ix σ) H2 { s2 with heap := h4, toks := t } := fun t => by
    refine ⟨ok', rfl, I2.bare, Un.kept k34, ⟨_, hns, fun i x v e1 e2 e3 => ?_⟩, fun x c e => ?_, H2C, fun x c e => I2.freeC x c (hcl1 x c e), fun p hp => absurd (show p ∈ ([] : List (Addr × Obj)) from hp) (by simp), (I3.hok).kept k34, lenN⟩
    · -- a name of the def that the block reads
      have hi' : own.length <= i := by
        apply Nat.le_of_not_lt
        intro hlt
        unfold Zy at e2
        rw [List.getElem?_append_left (by simpa using hlt), List.getElem?_replicate, if_pos hlt] at e2
        cases e2
      have e1' : (ix.map fun j => X.N.getD j ("" : Str))[i - own.length]? = some x := by
        have z : (own ++ ix.map fun j => X.N.getD j ("" : Str))[i]? = some x := e1
        rwa [List.getElem?_append_right hi'] at z
      have e2' : (ix.map fun j => σ.getD j none)[i - own.length]? = some (some v) := by
        unfold Zy at e2
        rw [List.getElem?_append_right (by simpa using hi')] at e2
        simpa using e2
      rw [List.getElem?_map] at e1' e2'
      cases hj : ix[i - own.length]? with
      | none => rw [hj] at e1'; cases e1'
      | some j =>
        rw [hj] at e1' e2'
        obtain ⟨y, hy, hfree⟩ := hix j (List.mem_of_getElem? hj)
        have ex : x = y := by
          have z : X.N.getD j ("" : Str) = x := Option.some.inj e1'
          rw [<- z, List.getD_eq_getElem?_getD, hy]; rfl
        subst ex
        have ev : σ[j]? = some (some v) := by
          have z : σ.getD j none = some v := Option.some.inj e2'
          rw [List.getD_eq_getElem?_getD] at z
          cases q : σ[j]? with
          | none => rw [q] at z; cases z
          | some a => rw [q] at z; exact congrArg some z
        have hxm := PySem.mem_of_lookup hfree
        have hvis := hcap _ hxm rfl
        obtain ⟨m, hn, hl⟩ := I2.loc
        obtain ⟨u, r, lk⟩ := hl j x v hy ev (.inr hvis)
        refine ⟨u, r, .inr ⟨?_, ?_⟩⟩
        · rcases e3 with z | z
          · exact absurd z (Yo hfree)
          · exact z
        · rcases lk with ⟨k, _⟩ | ⟨_, c, hc1, z⟩
          · rcases hvis with q | q
            · exact absurd (k.symm.trans q) (by simp)
            · exact absurd (k.symm.trans q) (by simp)
          · obtain ⟨c', hc'⟩ := hcl2 x hxm
            have := hcl1 x c' hc'
            rw [hc1] at this
            cases this
            obtain ⟨o, ho, hd⟩ := z
            exact ⟨c, hc', o, k34 _ _ (k23 _ _ ho), hd⟩
    · obtain ⟨v, z⟩ := I3.cell x c (hcl1 x c e)
      obtain ⟨o, ho, hd⟩ := z
      exact ⟨v, o, k34 _ _ ho, hd⟩
  have nfp : ∀ b ∈ fp, b ≠ D := fun b hb => Nat.ne_of_lt (fpLt b hb)
  have fp' : ∀ {H' : Hp} {pl : List (Addr × Obj)}, (∀ p ∈ pl, p.1 = D) -> (∀ b ∈ fp, H' b = none) -> ∀ b ∈ fp, VA X' pl H' b := fun {H' pl} hp hn b hb =>
    ⟨hn b hb, (ok'.exf b (List.mem_cons_of_mem _ hb)).1, ok'.exfs b (List.mem_cons_of_mem _ hb), .inl (List.mem_cons_of_mem _ hb), (ok'.exf b (List.mem_cons_of_mem _ hb)).2, fun p hp' z => nfp b hb (z ▸ hp p (by
      have q : p ∈ ([] : List (Addr × Obj)) ++ pl := hp'
      simpa using q))⟩
  have dX : D ≠ X'.env.locals := (ok'.exf D List.mem_cons_self).1
  have dF : D ∉ X'.fs := ok'.exfs D List.mem_cons_self
  have loop : ∀ t, codeAny (model X.prog X.w) X.A (.compLoop (.ListComp elt [⟨tg, iter, [], 0⟩] scope pos) 0 (.ref it) (.ref D) (compEnvC scope cl C X.env))
      (compPost (model X.prog X.w) X.A X.xe none (EP X pins σ Q) (.ref D) C) { s2 with heap := h4, toks := t } := fun t => by
    have st4 : tn 0 h4 := T.keep 0 _ _ st2 fun b _ o e => k34 _ _ (k23 _ _ e)
    refine Jd (fun n s' => ∃ i ys its H', Inv X' [] (Zy own.length ix σ) H' s' /\ tn i s'.heap /\ (∀ b ∈ fp, H' b = none) /\ H' D = none /\ s'.heap.PlainList D (List.toArray its) /\ Vals ys its /\ W i n ys H') ?_ m0
      ⟨0, [], [], H2, I4 t, st4, fun b hb => (f2 b hb).1, H2D, ⟨_, k34 _ _ D3⟩, .nil, w0⟩
    rintro n s5 ⟨i, ys, its, H5, I5, st5, fr5, d5, ⟨nn, l5⟩, v5, w5⟩
    obtain ⟨hz, hcase⟩ := turn i n ys H5 w5
    let oD : Obj := { cls := .type "list", data := .seq its.toArray nn }
    have onlyD : ∀ p ∈ [((D, oD) : Addr × Obj)], p.1 = D := fun p hp => by
      have e : p = (D, oD) := by simpa using hp
      rw [e]
    have I5' : Inv X' [(D, oD)] (Zy own.length ix σ) H5 s5 := I5.pins_of fun p hp => by
      have e : p = (D, oD) := by simpa using hp
      subst e
      exact ⟨l5, d5, dX, dF, fun v z => nomatch z⟩
    rcases hcase with ⟨stop, qn⟩ | ⟨go, step⟩
    · refine thn (T.done X' rfl rfl rfl hc i _ s5 _ H5 _ I5' (fp' onlyD fr5) st5 stop) fun r s6 ⟨hr, I6⟩ => ?_
      subst hr
      obtain ⟨m, hn6, _⟩ := id I6.loc
      refine ⟨m, hn6, fun h' hs' => ?_⟩
      have ne : ∀ b u, h3.get? b = some u -> h'.get? b = s6.heap.get? b := fun b u q => hs'.2 b (Nat.ne_of_lt (lt3 b u q))
      have b6 : Un (frs X.stack) (D :: fp) H2 H5 h3 s6.heap := I6.base
      have u6 : Un (frs X.stack) (D :: fp) H2 H5 h3 h' := ⟨fun b o q n hb hx => (ne b o q).trans (b6.keep b o q n hb hx), fun b o q n hb hx => by
          obtain ⟨sl, z⟩ := b6.slot b o q n hb hx
          exact ⟨sl, (ne b o q).trans z⟩, b6.free, fun b o q hx => by
          obtain ⟨o', z⟩ := b6.there b o q hx
          exact ⟨o', (ne b o q).trans z⟩, b6.tups, b6.frzs, b6.tbls⟩
      have hC6 : H5 C = none := I6.free
      have hok6 : HOk X.prog X.w H5 h' := fun b ob e => (I6.hok b ob e).stay (fun c w' hc q => (hs'.2 c (by
          rintro rfl
          rcases hc with rfl | hc
          · rw [hC6] at e; cases e
          · rw [hC6] at hc; cases hc)).trans q) (fun _ q => q) fun _ _ q => q
      have I7 : Inv X pins σ H5 { s6 with heap := h' } := I3.call' (s' := { s6 with heap := h' }) (ch := D :: fp) I6.os u6 hok6 I6.bare fun b hb => by
        rcases List.mem_cons.mp hb with z | z
        · subst z
          exact ⟨fD.2.2.2.1, fD.2.1, fD.2.2.2.2.1, fD.2.2.2.2.2⟩
        · have f := f2 b z
          exact ⟨f.2.2.2.1, f.2.1, f.2.2.2.2.1, f.2.2.2.2.2⟩
      obtain ⟨gD, nD, _⟩ := I6.pin (D, oD) (by simp)
      have gD' : h'.get? D = some oD := (hs'.2 D (by rw [hCD]; exact Nat.ne_of_lt (Nat.lt_succ_self _))).trans gD
      exact ⟨.ref D, _, I7.retrack (o := .lst ys) nD ⟨nD, fD.2⟩ ⟨Nat.le_of_lt hz, its, nn, v5, gD'⟩, rfl, qn D nD⟩
    · refine thn (T.item X' rfl rfl rfl hc i _ s5 _ H5 _ I5' (fp' onlyD fr5) st5 go) fun r s6 ⟨u, hr, h6⟩ => ?_
      subst hr
      refine thn h6 fun _ s7 ⟨x, H7, I7, r7, y7, st7, fr7⟩ => ?_
      have I7' := I7.pinned (fp' onlyD fr7) (T.obj _ _ st7)
      refine thn (hg cl C (D :: fp) s3 H2 _ s7 _ H7 x u _ I7' r7 (hgk _ _ _ _ (step x H7 y7))) fun _ s8 ⟨σ8, H8, I8, q8, l8, k8⟩ => ?_
      refine thn (he cl C (D :: fp) s3 H2 _ s8 σ8 H8 _ I8 q8) fun yv s9 ⟨y, H9, I9, r9, m', hm', w9⟩ => ?_
      obtain ⟨gD, nD, _⟩ := I9.pin (D, oD) (by simp)
      have hlen : its.length = ys.length := v5.length.symm
      refine wpAny_list_append_plain (l := D) (items := its.toArray) ⟨nn, gD⟩ (fun h' hl' hs' => ?_) (by rw [List.size_toArray, hlen]; exact Nat.le_of_lt hz)
      have kp : ∀ b o, b ≠ D -> s9.heap.get? b = some o -> h'.get? b = some o := fun b o hb q => (hs'.2 b hb).trans q
      have I9' : Inv X' (Z4 fp s7.heap) σ8 H9 s9 := I9.pins_of fun p hp => I9.pin p (by
        refine List.mem_append_right _ (List.mem_append_right _ hp))
      have pinNe : ∀ p ∈ X'.pn ++ Z4 fp s7.heap, p.1 ≠ D := fun p hp => by
        have q : p ∈ ([] : List (Addr × Obj)) ++ Z4 fp s7.heap := hp
        exact nfp _ (VE (by simpa using q)).1
      have I10 : Inv X' (Z4 fp s7.heap) σ8 H9 { s9 with heap := h', toks := s9.toks } := I9'.turned (it := D) kp nD dX (.inl List.mem_cons_self) (ok'.exf D List.mem_cons_self).2 pinNe
      refine ⟨m', hm', i + 1, ys ++ [y], its ++ [yv], H9, ?_, ?_, ?_, nD, ?_, v5.append (.cons r9 .nil), w9⟩
      · refine Inv.weak (I10.pins_of (pins' := []) fun p hp => nomatch hp) (by rw [l8]) fun j v hj => ?_
        by_cases hlt : j < own.length
        · unfold Zy at hj
          rw [List.getElem?_append_left (by simpa using hlt), List.getElem?_replicate, if_pos hlt] at hj
          cases hj
        · have e : σ8[j]? = (Zy own.length ix σ)[j]? := by
            have q := congrArg (fun l : List (Option V) => l[j - own.length]?) k8
            simp only [List.getElem?_drop] at q
            rwa [Nat.add_sub_cancel' (Nat.le_of_not_lt hlt)] at q
          rw [e]; exact hj
      · exact T.keep _ _ _ st7 fun b hb o e => (I10.pin (b, o) (List.mem_append_right _ (Zz hb e))).1
      · intro b hb
        obtain ⟨o, e, d⟩ := T.obj _ _ st7 b hb
        exact (I10.pin (b, o) (List.mem_append_right _ (Zz hb e))).2.1
      · have e : (its ++ [yv]).toArray = its.toArray.push yv := by simp
        rw [e]; exact hl'
  rw [<- hC, <- hD]
  exact codeAny_compStart_list (loop _) (T.self _ 0 _ _ _ (T.keep 0 _ _ st2 fun b _ o e => k34 _ _ (k23 _ _ e)) (loop _))
def Vf (sc : Scope) (outer : List (Str × NameKind)) (N : List Str) (ix : List Nat) : Bool :=
  sc.names.all (fun x => (decide (x.2 ≠ .local) || decide (sc.names.lookup x.1 = some .local)) && decide (x.2 ≠ .cell) && (decide (x.2 ≠ .free) || decide (outer.lookup x.1 = some .cell) || decide (outer.lookup x.1 = some .free))) &&
    ix.all fun j => match N[j]? with
      | some y => decide (sc.names.lookup y = some .free)
      | none => false
theorem Yv {elt tg iter : Expr} {scope : Scope} {pos : Pos} {wi : TI} {g : TG} {te : TE} (own : List Str) (ix : List Nat) (hi : PI X tg iter wi) (hgk : GK own.length g)
    (hg : ∀ cl C fp s H, PG (Z6 X (Z7 X own ix) scope cl C fp s H) tg g) (he : ∀ cl C fp s H, PE (Z6 X (Z7 X own ix) scope cl C fp s H) elt te)
    (hc : X.calm = true := by rfl) (hkind : scope.kind = .function := by rfl) (hok : Vf scope X.env.scope.names X.N ix = true := by rfl)
    (hs : ∀ x, foldedSetIterable iter X.env x = pure x := by intro _; rfl) :
    PE X (.ListComp elt [⟨tg, iter, [], 0⟩] scope pos) (tComp own.length ix wi g te) := by
  unfold Vf at hok
  rw [Bool.and_eq_true, List.all_eq_true, List.all_eq_true] at hok
  obtain ⟨h1, h2⟩ := hok
  refine pe_comp own ix hc hi hkind (fun x hx hl => ?_) (fun x hx => ?_) (fun x hx hf => ?_) (fun j hj => ?_) hgk hg he hs
  · have q := h1 x hx
    simp only [Bool.and_eq_true, Bool.or_eq_true, decide_eq_true_eq] at q
    exact q.1.1.resolve_left fun z => z hl
  · have q := h1 x hx
    simp only [Bool.and_eq_true, Bool.or_eq_true, decide_eq_true_eq] at q
    exact q.1.2
  · have q := h1 x hx
    simp only [Bool.and_eq_true, Bool.or_eq_true, decide_eq_true_eq] at q
    rcases q.2 with (z | z) | z
    · exact absurd hf z
    · exact .inl z
    · exact .inr z
  · have q := h2 j hj
    cases e : X.N[j]? with
    | none => rw [e] at q; cases q
    | some y => rw [e] at q; exact ⟨y, rfl, of_decide_eq_true q⟩
end
end L2
namespace L2
open PySem PySem.Spec PyProof.Rows
section
variable {X : Cx}
def rIsi (K : PySem.W.Frag) : List V -> Hp -> VK -> Prop := fun xs H Q => ∃ x T t b, xs = [x, .ty T] /\ TyOf K H x t /\ PySem.W.kitOne K t (.type T) = some b /\ Q (.bl b) H
theorem call_isi : Yq X (.builtin "isinstance") (rIsi X.K) := by
  intro pins s σ H xs us Q I r h
  obtain ⟨x, T, t, b, rfl, ty, e, q⟩ := h
  obtain ⟨u, w', rfl, ru, rw'⟩ := vals2 r
  cases rw'
  exact isinst_ok I ru ty e fun tk => ⟨.bl b, H, I.tok _, rfl, q⟩
theorem vals_strs : ∀ {ys : List Str} {us : List Value}, Vals (ys.map V.str) us -> StrsAre us ys
  | [], _, r => by cases r; exact .nil
  | y :: ys, _, r => by
    cases r with
    | cons h t =>
      obtain ⟨tk, e⟩ := h
      subst e
      exact .cons _ _ (vals_strs t)
def rJoin (K : PySem.W.Frag) : V -> List V -> Hp -> VK -> Prop := fun x vs H Q => ∃ z p ys, x = .str z /\ vs = [.ref p] /\ SqL K H p (ys.map V.str) /\ (ys.map (·.length)).sum + ys.length * z.length <= 16777216 /\ Q (.str (Txt.join z ys)) H
theorem mt_join : MtR X "str.join" (rJoin X.K) := by
  intro pins s σ H x vs v us Q I rx rv h
  obtain ⟨z, p, ys, rfl, rfl, hq, hz, q⟩ := h
  obtain ⟨t, rfl⟩ := rx
  obtain ⟨u, rfl, ru⟩ := vals1 rv
  cases ru
  obtain ⟨its, r, pl, hl⟩ := I.list hq
  exact join_list pl.isList (by simpa using vals_strs r) hz fun t' k => ⟨.str _, H, I.tok _, ⟨_, rfl⟩, q⟩
def rIndex : V -> List V -> Hp -> VK -> Prop := fun x vs H Q => ∃ z y i rest, x = .str z /\ vs = [.str y] /\ Builtin.Str.occurrences z y 0 z.length 1 = i :: rest /\ Q (.int (i : Nat)) H
theorem mt_index : MtR X "str.index" rIndex := by
  intro pins s σ H x vs v us Q I rx rv h
  obtain ⟨z, y, i, rest, rfl, rfl, ho, q⟩ := h
  obtain ⟨t, rfl⟩ := rx
  obtain ⟨u, rfl, t', rfl⟩ := vals1 rv
  exact SC.index ho ⟨.int _, H, I.tok _, ⟨_, rfl⟩, q⟩
def rSlS : V -> Option Int -> Option Int -> Hp -> VK -> Prop := fun x lo hi H Q => ∃ z, x = .str z /\ z.length <= sizeLine /\ Q (.str (Txt.slice z lo hi)) H
theorem sl_str : SlR X rSlS := by
  intro pins s σ H x v vl vu lo hi sl Q I rx hs pl pu h
  obtain ⟨z, rfl, hz, q⟩ := h
  obtain ⟨t, rfl⟩ := rx
  refine ⟨"str", _, F.slot_str_getitem.lookup, typeIs_str _ _ _, ?_⟩
  have fin : ∀ (l u : Option (Int × Tok)), l.map (·.1) = lo -> u.map (·.1) = hi -> s.heap.IsSlice sl l u none -> wpAny (model X.prog X.w) X.A (getItem (.str z t) (.ref sl)) (EP X pins σ Q) X.xe s := fun l u el eu hsl => by
    subst el; subst eu
    exact wpAny_getItem_str_slice hsl rfl (post_val_or_str ⟨Nat.le_trans (Txt.slice_le z (l.map (·.1)) (u.map (·.1))) hz, fun t' k => ⟨.str _, H, I.tok _, ⟨_, rfl⟩, q⟩⟩)
  obtain ⟨o, h1, h2, h3⟩ := hs
  cases pl with
  | none =>
    cases pu with
    | none => exact fin none none rfl rfl ⟨o, h1, h2, h3⟩
    | int j tj => exact fin none (some (j, tj)) rfl rfl ⟨o, h1, h2, h3⟩
  | int i ti =>
    cases pu with
    | none => exact fin (some (i, ti)) none rfl rfl ⟨o, h1, h2, h3⟩
    | int j tj => exact fin (some (i, ti)) (some (j, tj)) rfl rfl ⟨o, h1, h2, h3⟩
theorem bools_get : ∀ {bs : List Bool} {us : List Value}, Vals (bs.map V.bl) us -> ∀ (i : Nat) (v : Value), us[i]? = some v -> ∃ b, bs[i]? = some b /\ v = .bool b
  | [], _, r, i, v, e => by cases r; simp at e
  | b :: bs, _, r, i, v, e => by
    cases r with
    | cons h t =>
      cases i with
      | zero =>
        have e' : some _ = some v := e
        cases e'
        exact ⟨b, rfl, h⟩
      | succ j => exact bools_get t j v e
theorem all_range : ∀ (bs : List Bool), ((List.range bs.length).all fun i => (bs[i]?).getD true) = bs.all id := fun bs => by
  have e : ((List.range bs.length).map fun i => (bs[i]?).getD true) = bs := List.ext_getElem (by simp) fun i h1 h2 => by simp [h2]
  have z := List.all_map (l := List.range bs.length) (f := fun i => (bs[i]?).getD true) (p := id)
  rw [e] at z
  exact z.symm
theorem call_all (hc : X.calm = true) : Yq X (.builtin "all") (fun xs H Q => ∃ (p : Addr) (bs : List Bool), xs = [.ref p] /\ SqL X.K H p (bs.map V.bl) /\ Q (.bl (bs.all id)) H) := by
  intro pins s σ H xs us Q I r h
  obtain ⟨p, bs, rfl, hq, q⟩ := h
  obtain ⟨u, rfl, ru⟩ := vals1 r
  cases ru
  obtain ⟨its, r', pl, hz⟩ := I.list hq
  have hp : p < s.heap.objs.size := by
    obtain ⟨o, n, e, _⟩ := pl
    exact Heap.lt_size e
  have hlen : its.length = bs.length := by
    have := r'.length
    rw [List.length_map] at this
    exact this.symm
  refine call_all_walk (wpAny_pyIter_list pl.isList ?_)
  refine ⟨s.heap.objs.size, _, _, its.toArray.size, _, _, fun i => (bs[i]?).getD true, rfl, Walks.list (A := X.A.in1) (I.ok.hd hc) _ p (Nat.ne_of_lt hp) its.toArray, ?_, ?_, ?_⟩
  · exact ⟨⟨_, Heap.get?_push_size _ rfl, rfl, rfl⟩, pl.isList.push _⟩
  · intro i v s' Q' E' hP hQ
    obtain ⟨b, e, rfl⟩ := bools_get r' i v (by simpa using hP)
    have hb : (bs[i]?).getD true = b := by rw [e]; rfl
    exact wpAny_truthy_bool (hb ▸ hQ)
  · intro h' tk hk
    rw [List.size_toArray, hlen, all_range]
    refine ⟨.bl (bs.all id), H, I.kept fun b o e => hk b o (fun hm => ?_) (Heap.get?_push_of_some _ e), rfl, q⟩
    have e' : b = s.heap.objs.size := by simpa using hm
    rw [e'] at e
    exact Nat.lt_irrefl _ (Heap.lt_size e)
theorem JV : ∀ {xs : List V} {us : List Value}, xs.length = us.length -> (∀ (j : Nat) (x : V) (u : Value), xs[j]? = some x -> us[j]? = some u -> RelV x u) -> Vals xs us
  | [], [], _, _ => .nil
  | [], _ :: _, h, _ => absurd h (by simp)
  | _ :: _, [], h, _ => absurd h (by simp)
  | x :: xs, u :: us, h, hr => .cons (hr 0 x u rfl rfl) (JV (by simpa using h) fun j a b e1 e2 => hr (j + 1) a b e1 e2)
end
end L2
namespace L2
open PySem PySem.Spec PyProof.Rows
def SI (tp : Bool) (h : Heap) (i l : Addr) (k : Nat) (xs : Array Value) : Prop := match tp with
  | false => h.IsListIter i l k /\ h.IsList l xs
  | true => h.IsTupleIter i l k /\ h.IsTuple l xs
theorem SI.to {tp : Bool} {h h' : Heap} {i l : Addr} {k : Nat} {xs : Array Value} (z : SI tp h i l k xs) (kp : ∀ b o, (b = i ∨ b = l) -> h.get? b = some o -> h'.get? b = some o) : SI tp h' i l k xs := by
  cases tp with
  | false => exact ⟨let ⟨o, e, r⟩ := z.1; ⟨o, kp _ _ (.inl rfl) e, r⟩, let ⟨o, e, r⟩ := z.2; ⟨o, kp _ _ (.inr rfl) e, r⟩⟩
  | true => exact ⟨let ⟨o, e, r⟩ := z.1; ⟨o, kp _ _ (.inl rfl) e, r⟩, let ⟨o, e, r⟩ := z.2; ⟨o, kp _ _ (.inr rfl) e, r⟩⟩
theorem SI.but {tp : Bool} {h h' : Heap} {i l b : Addr} {k : Nat} {xs : Array Value} (z : SI tp h i l k xs) (e : Heap.ExtBut b h h') (h1 : i ≠ b) (h2 : l ≠ b) : SI tp h' i l k xs :=
  z.to fun c o hc q => e c o (by rcases hc with hc | hc <;> rw [hc] <;> assumption) q
theorem wp_else {α : Type} {M : Model} {A : Around} {E : Value -> Shared -> Prop} {s : Shared} {c : Bool} {a b : Sem α} {Q : α -> Shared -> Prop} (hc : c = false) (h : wpAny M A b Q E s) : wpAny M A (if c = true then a else b) Q E s := by
  subst hc
  rwa [if_neg (by decide)]
section
variable {prog : Program} {w : World} {A : Around} {E : Value -> Shared -> Prop} {s : Shared}
theorem Vg {tp : Bool} {i l : Addr} {k : Nat} {xs : Array Value} {x : Value} {Q : Value -> Shared -> Prop} (z : SI tp s.heap i l k xs) (ne : l ≠ i) (hx : xs[k]? = some x)
    (hQ : ∀ g, SI tp g i l (k + 1) xs -> Heap.SameBut i s.heap g -> Q x { s with heap := g }) : wpAny (model prog w) A (Builtin.SmallTypes.nextOf (.ref i)) Q E s := by
  cases tp with
  | false => exact wpAny_nextOf_list_item z.1 z.2 hx fun g a sb => hQ g ⟨a, z.2.extBut sb.extBut ne⟩ sb
  | true =>
    obtain ⟨z1, z2⟩ := z
    obtain ⟨ob, hob, cob, dob⟩ := id z1
    obtain ⟨ot, hot, _, nt, dt⟩ := id z2
    have sn := F.slot_tuple_iterator_next
    simp only [Builtin.SmallTypes.nextOf]
    refine wpAny_bind (wpAny_callSpecial?_slot (name := Str.ofString "__next__") z1.typeIs sn (wpAny_call_entry sn z1.typeIs F.entry_tuple_iterator_next ?_ (F.args_tuple_iterator_next_1 _)))
    refine wpAny_bind (m := field (.ref i) 0) (wpAny_field hob dob (x := .ref l) rfl (wp_else (c := Value.ref l == .none) rfl ?_))
    refine wpAny_bind (m := field (.ref i) 1) (wpAny_field hob dob (x := .int k 0) rfl (wpAny_bind (m := seqItems? (.ref l)) (wpAny_seqItems hot dt ?_)))
    simp only [hx, Int.toNat_natCast]
    refine wpAny_bind (wpAny_setField hob dob (by simp) (wpAny_pure ⟨x, rfl, wpAny_pure (hQ _ ⟨?_, ?_⟩ (Heap.SameBut.update ..))⟩))
    · refine ⟨_, Heap.get?_update_self _ hob (Obj.isFreed_of_fields (Obj.data_mapFields dob _)), (Obj.cls_mapFields ..).trans cob, ?_⟩
      rw [Obj.data_mapFields dob]; simp [rawInt]
    · exact z2.extBut (Heap.SameBut.update ..).extBut ne
theorem si_end {tp : Bool} {i l : Addr} {k : Nat} {xs : Array Value} {Q : Value -> Shared -> Prop} (hh : A.handled = none) (z : SI tp s.heap i l k xs) (hx : xs[k]? = none)
    (hE : ∀ g e, Heap.ExtBut i s.heap g -> (∃ o, g.get? e = some o /\ o.cls = .type "StopIteration") -> E (.ref e) { s with heap := g }) : wpAny (model prog w) A (Builtin.SmallTypes.nextOf (.ref i)) Q E s := by
  cases tp with
  | false => exact wpAny_nextOf_list_end hh z.1 z.2 hx hE
  | true =>
    obtain ⟨z1, z2⟩ := z
    obtain ⟨ob, hob, cob, dob⟩ := id z1
    obtain ⟨ot, hot, _, nt, dt⟩ := id z2
    have sn := F.slot_tuple_iterator_next
    simp only [Builtin.SmallTypes.nextOf]
    refine wpAny_bind (wpAny_callSpecial?_slot (name := Str.ofString "__next__") z1.typeIs sn (wpAny_call_entry sn z1.typeIs F.entry_tuple_iterator_next ?_ (F.args_tuple_iterator_next_1 _)))
    refine wpAny_bind (m := field (.ref i) 0) (wpAny_field hob dob (x := .ref l) rfl (wp_else (c := Value.ref l == .none) rfl ?_))
    refine wpAny_bind (m := field (.ref i) 1) (wpAny_field hob dob (x := .int k 0) rfl (wpAny_bind (m := seqItems? (.ref l)) (wpAny_seqItems hot dt ?_)))
    simp only [hx, Int.toNat_natCast]
    refine wpAny_bind (wpAny_rule (wpAny_bind (wpAny_setField hob dob (by simp) ?_)))
    refine wpAny_bind (m := newExc (.type "StopIteration") []) ?_
    simp only [newExc, newTuple]
    refine wpAny_bind (wpAny_newObj_type (wpAny_bind (m := firstArgMember _ _) (wpAny_of_eq (a := .none) (by simp only [firstArgMember]; rfl) (wpAny_newObj_type ?_ (by size_fits)))) (by size_fits))
    have nh : A.in1.handled = none := hh
    simp only [raiseNew]
    refine wpAny_bind (wpAny_handled (?_))
    rw [nh]
    exact wpAny_bind (wpAny_pure (wpAny_throw (hE _ _ (((Heap.SameBut.update ..).extBut.push _).push _) ⟨_, Heap.get?_push_size _ rfl, rfl⟩)))
structure ZS (h : Heap) (z TI TO : Addr) (f0 : Value) (t1 : Bool) (i1 l1 : Addr) (xs : Array Value) (t2 : Bool) (i2 l2 : Addr) (ys : Array Value) (k : Nat) : Prop where
  zip : IsZip h z TI TO f0
  its : IsPair h TI (.ref i1) (.ref i2)
  out : ∃ a b, IsPair h TO a b
  one : SI t1 h i1 l1 k xs
  two : SI t2 h i2 l2 k ys
theorem zs_item {z TI TO i1 i2 l1 l2 : Addr} {t1 t2 : Bool} {k : Nat} {xs ys : Array Value} {x y : Value} {Q : Option Value -> Shared -> Prop} (D : ZipApart z TI TO i1 i2 l1 l2)
    (S : ZS s.heap z TI TO .none t1 i1 l1 xs t2 i2 l2 ys k) (hx : xs[k]? = some x) (hy : ys[k]? = some y)
    (hQ : ∀ g, ZS g z TI TO (rawInt s.heap.objs.size) t1 i1 l1 xs t2 i2 l2 ys (k + 1) -> IsPair g s.heap.objs.size x y -> g.objs.size = s.heap.objs.size + 1 ->
      (∀ c o, c ≠ z -> c ≠ TO -> c ≠ i1 -> c ≠ i2 -> s.heap.get? c = some o -> g.get? c = some o) -> Q (some (.ref s.heap.objs.size)) { s with heap := g }) : wpAny (model prog w) A (pyNext (.ref z)) Q E s := by
  have hT : s.TypeIs (.ref z) "zip" := ⟨_, S.zip, rfl⟩
  obtain ⟨a, b, So⟩ := S.out
  simp only [pyNext]
  refine wpAny_bind (wpAny_attempt (wpAny_callSpecial?_slot (name := Str.ofString "__next__") hT F.slot_zip_next (wpAny_call_entry F.slot_zip_next hT F.entry_zip_next ?_ (F.args_zip_next_1 _))))
  refine wpAny_bind (m := field (.ref z) 2) (wpAny_field S.zip rfl (x := .bool false) rfl (wpAny_bind (m := field (.ref z) 3) (wpAny_field S.zip rfl (x := .ref TI) rfl (wpAny_bind (wpAny_seqItems S.its rfl ?_)))))
  refine wpAny_bind (m := Builtin.SmallTypes.ownedTupleIsFree (.ref z)) (wpAny_bind (m := field (.ref z) 0) (wpAny_field S.zip rfl (x := .none) rfl (wpAny_pure ?_)))
  simp only [if_true]
  refine wpAny_bind (wpAny_rule (wpAny_bind (wpAny_field S.zip rfl (x := .ref TO) rfl (wpAny_bind (wpAny_setField_rec S.zip (by simp) fun g1 z1 s1 => wpAny_bind ?_)))))
  replace z1 : IsZip g1 z TI TO .ellipsis := z1
  simp only [List.forIn_cons, List.forIn_nil, List.zipIdx_cons, List.zipIdx_nil]
  refine wpAny_bind (wpAny_bind (wpAny_onRaise (?_ : wpAny _ _ (Builtin.SmallTypes.nextOf (.ref i1) >>= _) _ _ _)))
  refine wpAny_bind (Vg (S.one.but s1.extBut D.i1z D.l1z) D.l1i1 hx fun g2 a2 s2 => wpAny_pure ?_)
  have o2 : IsPair g2 TO a b := s2.extBut _ _ D.TOi1 (s1.extBut _ _ D.TOz So)
  refine wpAny_bind (wpAny_seqItems o2 rfl ?_)
  refine wpAny_bind (wpAny_updateSeq_pair o2 fun g3 o3 s3 => ?_)
  replace o3 : IsPair g3 TO x b := o3
  refine wpAny_bind (wpAny_letGo (wpAny_pure (wpAny_bind (wpAny_bind (wpAny_onRaise (?_ : wpAny _ _ (Builtin.SmallTypes.nextOf (.ref i2) >>= _) _ _ _))))))
  have b3 : SI t2 g3 i2 l2 k ys := ((S.two.but s1.extBut D.i2z D.l2z).but s2.extBut D.i12.symm D.l2i1).but s3.extBut D.TOi2.symm D.l2TO
  refine wpAny_bind (Vg b3 D.l2i2 hy fun g4 b4 s4 => wpAny_pure ?_)
  have o4 : IsPair g4 TO x b := s4.extBut _ _ D.TOi2 o3
  refine wpAny_bind (wpAny_seqItems o4 rfl ?_)
  refine wpAny_bind (wpAny_updateSeq_pair o4 fun g5 o5 s5 => ?_)
  replace o5 : IsPair g5 TO x y := o5
  refine wpAny_bind (wpAny_letGo (wpAny_pure (wpAny_pure (wpAny_bind (wpAny_seqItems o5 rfl (wpAny_bind (wpAny_newTuple ?_)))))))
  have sz : g5.objs.size = s.heap.objs.size := by rw [s5.1, s4.1, s3.1, s2.1, s1.1]
  have z5 : IsZip g5 z TI TO .ellipsis := s5.extBut _ _ D.TOz.symm (s4.extBut _ _ D.i2z.symm (s3.extBut _ _ D.TOz.symm (s2.extBut _ _ D.i1z.symm z1)))
  have k5 : ∀ c o, c ≠ z -> c ≠ TO -> c ≠ i1 -> c ≠ i2 -> s.heap.get? c = some o -> g5.get? c = some o := fun c o c1 c2 c3 c4 e =>
    s5.extBut _ _ c2 (s4.extBut _ _ c4 (s3.extBut _ _ c2 (s2.extBut _ _ c3 (s1.extBut _ _ c1 e))))
  have a5 : SI t1 g5 i1 l1 (k + 1) xs := ((a2.but s3.extBut D.TOi1.symm D.l1TO).but s4.extBut D.i12 D.l1i2).but s5.extBut D.TOi1.symm D.l1TO
  have b5 : SI t2 g5 i2 l2 (k + 1) ys := b4.but s5.extBut D.TOi2.symm D.l2TO
  have zlt : z < g5.objs.size := Heap.lt_size z5
  show wpAny _ _ (Builtin.SmallTypes.ownedTupleHandOut (.ref z) (.ref g5.objs.size) >>= _) _ _ _
  refine wpAny_bind ?_
  simp only [Builtin.SmallTypes.ownedTupleHandOut]
  have z6 : IsZip (g5.push { cls := .type "tuple", data := .seq #[x, y] }) z TI TO .ellipsis := Heap.get?_push_of_some _ z5
  refine wpAny_bind (wpAny_setField_rec z6 (by simp) fun g7 z7 s7 => ?_)
  replace z7 : IsZip g7 z TI TO (rawInt g5.objs.size) := z7
  refine wpAny_setField_rec z7 (by simp) fun g8 z8 s8 => ?_
  replace z8 : IsZip g8 z TI TO (rawInt g5.objs.size) := z8
  have up : ∀ c o, c ≠ z -> g5.get? c = some o -> g8.get? c = some o := fun c o c1 e => s8.extBut _ _ c1 (s7.extBut _ _ c1 (Heap.get?_push_of_some _ e))
  have t8 : IsPair g8 g5.objs.size x y := s8.extBut _ _ (Nat.ne_of_gt zlt) (s7.extBut _ _ (Nat.ne_of_gt zlt) (Heap.get?_push_size _ rfl))
  have sz8 : g8.objs.size = g5.objs.size + 1 := by rw [s8.1, s7.1, Heap.size_push]
  rw [sz] at z8 t8 sz8
  refine wpAny_pure ⟨_, rfl, wpAny_pure ?_⟩
  show Q (some (.ref g5.objs.size)) _
  rw [sz]
  refine hQ g8 ⟨z8, up _ _ D.TIz (k5 _ _ D.TIz D.TITO D.TIi1 D.TIi2 S.its), ⟨_, _, up _ _ D.TOz o5⟩, ?_, ?_⟩ t8 sz8 fun c o c1 c2 c3 c4 e => up c o c1 (k5 c o c1 c2 c3 c4 e)
  · exact a5.to fun c o hc e => up c o (hc.elim (fun q => q ▸ D.i1z) fun q => q ▸ D.l1z) e
  · exact b5.to fun c o hc e => up c o (hc.elim (fun q => q ▸ D.i2z) fun q => q ▸ D.l2z) e
theorem zs_end {z TI TO i1 i2 l1 l2 : Addr} {t1 t2 : Bool} {k : Nat} {xs ys : Array Value} {Q : Option Value -> Shared -> Prop} (hh : A.handled = none) (D : ZipApart z TI TO i1 i2 l1 l2)
    (S : ZS s.heap z TI TO .none t1 i1 l1 xs t2 i2 l2 ys k) (hend : xs[k]? = none ∨ ys[k]? = none)
    (hQ : ∀ g, (∀ c o, c ≠ z -> c ≠ TO -> c ≠ i1 -> c ≠ i2 -> s.heap.get? c = some o -> g.get? c = some o) -> Q none { s with heap := g }) : wpAny (model prog w) A (pyNext (.ref z)) Q E s := by
  have hT : s.TypeIs (.ref z) "zip" := ⟨_, S.zip, rfl⟩
  obtain ⟨a, b, So⟩ := S.out
  have stop : ∀ (g : Heap) (e : Addr), (∀ c o, c ≠ z -> c ≠ TO -> c ≠ i1 -> c ≠ i2 -> s.heap.get? c = some o -> g.get? c = some o) -> (∃ o, g.get? e = some o /\ o.cls = .type "StopIteration") ->
      wpAny (model prog w) A (do if (<- isInstance (.ref e) (.type "StopIteration")) then pure none else throw (.ref e) : Sem (Option Value)) Q E { s with heap := g } := fun g e kp ⟨o, ho, hc⟩ =>
    wpAny_bind (wpAny_isInstance (T := "StopIteration") (b := true) ⟨o, ho, hc⟩ isSubtype_stop (wpAny_pure (hQ g kp)))
  simp only [pyNext]
  refine wpAny_bind (wpAny_attempt (wpAny_callSpecial?_slot (name := Str.ofString "__next__") hT F.slot_zip_next (wpAny_call_entry F.slot_zip_next hT F.entry_zip_next ?_ (F.args_zip_next_1 _))))
  refine wpAny_bind (m := field (.ref z) 2) (wpAny_field S.zip rfl (x := .bool false) rfl (wpAny_bind (m := field (.ref z) 3) (wpAny_field S.zip rfl (x := .ref TI) rfl (wpAny_bind (wpAny_seqItems S.its rfl ?_)))))
  refine wpAny_bind (m := Builtin.SmallTypes.ownedTupleIsFree (.ref z)) (wpAny_bind (m := field (.ref z) 0) (wpAny_field S.zip rfl (x := .none) rfl (wpAny_pure ?_)))
  simp only [if_true]
  refine wpAny_bind (wpAny_rule (wpAny_bind (wpAny_field S.zip rfl (x := .ref TO) rfl (wpAny_bind (wpAny_setField_rec S.zip (by simp) fun g1 z1 s1 => wpAny_bind ?_)))))
  replace z1 : IsZip g1 z TI TO .ellipsis := z1
  simp only [List.forIn_cons, List.forIn_nil, List.zipIdx_cons, List.zipIdx_nil]
  refine wpAny_bind (wpAny_bind (wpAny_onRaise (?_ : wpAny _ _ (Builtin.SmallTypes.nextOf (.ref i1) >>= _) _ _ _)))
  cases hx : xs[k]? with
  | none =>
    refine wpAny_bind (si_end hh (S.one.but s1.extBut D.i1z D.l1z) hx fun g2 e e2 he => ?_)
    obtain ⟨oe, hoe, hce⟩ := he
    have z2 : IsZip g2 z TI TO .ellipsis := e2 _ _ D.i1z.symm z1
    have hez : e ≠ z := fun q => by subst q; rw [z2] at hoe; cases hoe; simp at hce
    refine wpAny_setField_rec z2 (by simp) fun g3 _ s3 => ?_
    exact stop g3 e (fun c o c1 _ c3 _ q => s3.extBut _ _ c1 (e2 _ _ c3 (s1.extBut _ _ c1 q))) ⟨oe, s3.extBut _ _ hez hoe, hce⟩
  | some x =>
    have hy : ys[k]? = none := by rcases hend with q | q; rw [hx] at q; cases q; exact q
    refine wpAny_bind (Vg (S.one.but s1.extBut D.i1z D.l1z) D.l1i1 hx fun g2 a2 s2 => wpAny_pure ?_)
    have o2 : IsPair g2 TO a b := s2.extBut _ _ D.TOi1 (s1.extBut _ _ D.TOz So)
    refine wpAny_bind (wpAny_seqItems o2 rfl ?_)
    refine wpAny_bind (wpAny_updateSeq_pair o2 fun g3 o3 s3 => ?_)
    refine wpAny_bind (wpAny_letGo (wpAny_pure (wpAny_bind (wpAny_bind (wpAny_onRaise (?_ : wpAny _ _ (Builtin.SmallTypes.nextOf (.ref i2) >>= _) _ _ _))))))
    have b3 : SI t2 g3 i2 l2 k ys := ((S.two.but s1.extBut D.i2z D.l2z).but s2.extBut D.i12.symm D.l2i1).but s3.extBut D.TOi2.symm D.l2TO
    refine wpAny_bind (si_end hh b3 hy fun g4 e e4 he => ?_)
    obtain ⟨oe, hoe, hce⟩ := he
    have z4 : IsZip g4 z TI TO .ellipsis := e4 _ _ D.i2z.symm (s3.extBut _ _ D.TOz.symm (s2.extBut _ _ D.i1z.symm z1))
    have hez : e ≠ z := fun q => by subst q; rw [z4] at hoe; cases hoe; simp at hce
    refine wpAny_setField_rec z4 (by simp) fun g5 _ s5 => ?_
    exact stop g5 e (fun c o c1 c2 c3 c4 q => s5.extBut _ _ c1 (e4 _ _ c4 (s3.extBut _ _ c2 (s2.extBut _ _ c3 (s1.extBut _ _ c1 q))))) ⟨oe, s5.extBut _ _ hez hoe, hce⟩
def Wk (tp : Bool) (h : Heap) (l : Addr) (xs : Array Value) : Prop := match tp with
  | false => h.IsList l xs
  | true => h.IsTuple l xs
def Ye (tp : Bool) (l : Addr) : Obj := { cls := .type (if tp then "tuple_iterator" else "list_iterator"), data := .fields #[.ref l, .int 0 0] }
theorem Jl {tp : Bool} {l : Addr} {xs : Array Value} {Q : Value -> Shared -> Prop} (h : Wk tp s.heap l xs) (q : Q (.ref s.heap.objs.size) { s with heap := s.heap.push (Ye tp l) }) : wpAny (model prog w) A (pyIter (.ref l)) Q E s := by
  cases tp with
  | false => exact wpAny_pyIter_list h q
  | true => exact wpAny_pyIter_tuple h q
theorem Wk.push {tp : Bool} {h : Heap} {l : Addr} {xs : Array Value} (z : Wk tp h l xs) (o : Obj) : Wk tp (h.push o) l xs := by
  cases tp with
  | false => exact Heap.IsList.push z o
  | true => exact Heap.IsTuple.push z o
end
abbrev zg1 (h : Heap) (t1 : Bool) (l1 : Addr) : Heap := h.push (Ye t1 l1)
abbrev zg2 (h : Heap) (t1 : Bool) (l1 : Addr) (t2 : Bool) (l2 : Addr) : Heap := (zg1 h t1 l1).push (Ye t2 l2)
abbrev zg3 (h : Heap) (t1 : Bool) (l1 : Addr) (t2 : Bool) (l2 : Addr) : Heap := (zg2 h t1 l1 t2 l2).push { cls := .type "tuple", data := .seq #[.ref h.objs.size, .ref (zg1 h t1 l1).objs.size] }
abbrev zg4 (h : Heap) (t1 : Bool) (l1 : Addr) (t2 : Bool) (l2 : Addr) : Heap := (zg3 h t1 l1 t2 l2).push { cls := .type "tuple", data := .seq #[.none, .none] }
abbrev zg5 (h : Heap) (t1 : Bool) (l1 : Addr) (t2 : Bool) (l2 : Addr) : Heap := (zg4 h t1 l1 t2 l2).push { cls := .type "zip", data := .fields #[.none, .bool false, .bool false, .ref (zg2 h t1 l1 t2 l2).objs.size, .ref (zg3 h t1 l1 t2 l2).objs.size] }
theorem zip_new_go (t1 t2 : Bool) (l1 l2 : Addr) (xs ys : Array Value) :
    Meets (Builtin.«zip.__new__» ⟨[.type "zip", .ref l1, .ref l2], []⟩) (fun _ R s => Wk t1 s.heap l1 xs /\ Wk t2 s.heap l2 ys /\
      R (.ok (.ret (.ref (zg4 s.heap t1 l1 t2 l2).objs.size))) { s with heap := zg5 s.heap t1 l1 t2 l2 }) :=
  .of_wp fun prog w A R s h => by
    obtain ⟨hp, g, d, tk, os⟩ := s; obtain ⟨h1, h2, h⟩ := h
    have hsub := sub_zip
    have k1 : Wk t1 (Shared.heap ⟨hp, g, d, tk, os⟩) l1 xs := h1
    have k2 : Wk t2 (Shared.heap ⟨hp.push (Ye t1 l1), g, d, tk, os⟩) l2 ys := Wk.push h2 _
    wp_walk using Jl k1, Jl k2
    exact ⟨_, rfl, h⟩
end L2
namespace L2
open PySem PySem.Spec PyProof.Rows
def SJ (tp : Bool) (h : Heap) (i l : Addr) (k : Nat) : Prop := match tp with
  | false => h.IsListIter i l k
  | true => h.IsTupleIter i l k
theorem SJ.si {tp : Bool} {h : Heap} {i l : Addr} {k : Nat} {xs : Array Value} (z : SJ tp h i l k) (c : Wk tp h l xs) : SI tp h i l k xs := by
  cases tp <;> exact ⟨z, c⟩
theorem SI.sj {tp : Bool} {h : Heap} {i l : Addr} {k : Nat} {xs : Array Value} (z : SI tp h i l k xs) : SJ tp h i l k := by
  cases tp <;> exact z.1
theorem SJ.to {tp : Bool} {h h' : Heap} {i l : Addr} {k : Nat} (z : SJ tp h i l k) (kp : ∀ o, h.get? i = some o -> h'.get? i = some o) : SJ tp h' i l k := by
  cases tp with
  | false => exact let ⟨o, e, r⟩ := z; ⟨o, kp _ e, r⟩
  | true => exact let ⟨o, e, r⟩ := z; ⟨o, kp _ e, r⟩
theorem SJ.obj {tp : Bool} {h : Heap} {i l : Addr} {k : Nat} (z : SJ tp h i l k) : ∃ o, h.get? i = some o /\ ∀ v, o.data ≠ .cell v := by
  cases tp with
  | false => obtain ⟨o, e, _, d⟩ := z; exact ⟨o, e, fun v q => by rw [d] at q; cases q⟩
  | true => obtain ⟨o, e, _, d⟩ := z; exact ⟨o, e, fun v q => by rw [d] at q; cases q⟩
theorem SJ.new (tp : Bool) (h : Heap) (l : Addr) : SJ tp (h.push (Ye tp l)) h.objs.size l 0 := by
  cases tp <;> exact ⟨_, Heap.get?_push_size _ rfl, rfl, rfl⟩
structure ZR (h : Heap) (z TI TO : Addr) (t1 : Bool) (i1 l1 : Addr) (t2 : Bool) (i2 l2 : Addr) (k : Nat) : Prop where
  zip : IsZip h z TI TO .none
  its : IsPair h TI (.ref i1) (.ref i2)
  out : ∃ a b, IsPair h TO a b
  one : SJ t1 h i1 l1 k
  two : SJ t2 h i2 l2 k
section
variable {prog : Program} {w : World} {A : Around} {E : Value -> Shared -> Prop} {s : Shared}
theorem call_zip {t1 t2 : Bool} {l1 l2 : Addr} {xs ys : Array Value} {Q : Value -> Shared -> Prop} (h1 : Wk t1 s.heap l1 xs) (h2 : Wk t2 s.heap l2 ys)
    (h : ∀ g, ZR g (s.heap.objs.size + 4) (s.heap.objs.size + 2) (s.heap.objs.size + 3) t1 s.heap.objs.size l1 t2 (s.heap.objs.size + 1) l2 0 ->
      (∀ c o, s.heap.get? c = some o -> g.get? c = some o) -> Q (.ref (s.heap.objs.size + 4)) { s with heap := g }) : wpAny (model prog w) A (call (.type "zip") [.ref l1, .ref l2]) Q E s := by
  refine callType_new F.called_zip (by decide) (F.typeCall_zip_2 _ _) (F.newCall_zip_2 _ _) (fun obj => F.args_object_init_3 obj _ _) F.entry_zip_new (zip_new_go t1 t2 l1 l2 xs ys) ⟨h1, h2, ?_⟩
  have e1 : (zg1 s.heap t1 l1).objs.size = s.heap.objs.size + 1 := Heap.size_push ..
  have e2 : (zg2 s.heap t1 l1 t2 l2).objs.size = s.heap.objs.size + 2 := by rw [Heap.size_push, e1]
  have e3 : (zg3 s.heap t1 l1 t2 l2).objs.size = s.heap.objs.size + 3 := by rw [Heap.size_push, e2]
  have e4 : (zg4 s.heap t1 l1 t2 l2).objs.size = s.heap.objs.size + 4 := by rw [Heap.size_push, e3]
  have p5 : (zg5 s.heap t1 l1 t2 l2).get? (zg4 s.heap t1 l1 t2 l2).objs.size = some _ := Heap.get?_push_size _ rfl
  have p4 : (zg5 s.heap t1 l1 t2 l2).get? (zg3 s.heap t1 l1 t2 l2).objs.size = some _ := Heap.get?_push_of_some _ (Heap.get?_push_size _ rfl)
  have p3 : (zg5 s.heap t1 l1 t2 l2).get? (zg2 s.heap t1 l1 t2 l2).objs.size = some _ := Heap.get?_push_of_some _ (Heap.get?_push_of_some _ (Heap.get?_push_size _ rfl))
  have p2 : SJ t2 (zg5 s.heap t1 l1 t2 l2) (zg1 s.heap t1 l1).objs.size l2 0 := (SJ.new t2 (zg1 s.heap t1 l1) l2).to fun o q => Heap.get?_push_of_some _ (Heap.get?_push_of_some _ (Heap.get?_push_of_some _ q))
  have p1 : SJ t1 (zg5 s.heap t1 l1 t2 l2) s.heap.objs.size l1 0 := (SJ.new t1 s.heap l1).to fun o q => Heap.get?_push_of_some _ (Heap.get?_push_of_some _ (Heap.get?_push_of_some _ (Heap.get?_push_of_some _ q)))
  show _ /\ _
  rw [e2, e3, e4] at p5
  rw [e1, e2] at p3
  rw [e3] at p4
  rw [e1] at p2
  rw [e4]
  exact ⟨⟨_, p5, rfl⟩, h _ ⟨p5, p3, ⟨_, _, p4⟩, p1, p2⟩ fun c o q =>
    Heap.get?_push_of_some _ (Heap.get?_push_of_some _ (Heap.get?_push_of_some _ (Heap.get?_push_of_some _ (Heap.get?_push_of_some _ q))))⟩
end
def Sq (K : PySem.W.Frag) (tp : Bool) (H : Hp) (l : Addr) (xs : List V) : Prop := match tp with
  | false => SqL K H l xs
  | true => SqT K H l xs
theorem Inv.sq {X : Cx} {pins : List (Addr × Obj)} {σ : St} {H : Hp} {s : Shared} {tp : Bool} {l : Addr} {xs : List V} (I : Inv X pins σ H s) (h : Sq X.K tp H l xs) : ∃ its : List Value, Vals xs its /\ Wk tp s.heap l its.toArray := by
  cases tp with
  | false =>
    obtain ⟨its, r, p, _⟩ := I.list h
    exact ⟨its, r, p.isList⟩
  | true =>
    obtain ⟨its, r, p, _⟩ := I.tuple h
    exact ⟨its, r, p⟩
theorem Inv.sq_inj {X : Cx} {pins : List (Addr × Obj)} {σ : St} {H : Hp} {s : Shared} {tp : Bool} {l : Addr} {xs ys : List V} (I : Inv X pins σ H s) (h : Sq X.K tp H l xs) (h' : Sq X.K tp H l ys) : xs = ys := by
  cases tp with
  | false => exact I.list_inj h h'
  | true => exact I.tuple_inj h h'
theorem Wk.lt {tp : Bool} {h : Heap} {l : Addr} {xs : Array Value} (z : Wk tp h l xs) : l < h.objs.size := by
  cases tp with
  | false => obtain ⟨_, e, _⟩ := z; exact Heap.lt_size e
  | true => obtain ⟨_, e, _⟩ := z; exact Heap.lt_size e
theorem Wk.fields {tp : Bool} {h : Heap} {l : Addr} {xs : Array Value} (z : Wk tp h l xs) : ∃ o ys n, h.get? l = some o /\ o.data = .seq ys n := by
  cases tp with
  | false => obtain ⟨o, e, _, n, d⟩ := z; exact ⟨o, _, n, e, d⟩
  | true => obtain ⟨o, e, _, n, d⟩ := z; exact ⟨o, _, n, e, d⟩
def Itz (K : PySem.W.Frag) (t1 : Bool) (l1 : Addr) (t2 : Bool) (l2 : Addr) : It :=
  ⟨fun i H => ∃ xs ys x y, Sq K t1 H l1 xs /\ Sq K t2 H l2 ys /\ xs[i]? = some x /\ ys[i]? = some y,
   fun i H v H' => ∃ p x y, v = .ref p /\ H p = none /\ H' = upd H p (.tup [x, y]) /\ (∀ xs, Sq K t1 H l1 xs -> xs[i]? = some x) /\ ∀ ys, Sq K t2 H l2 ys -> ys[i]? = some y,
   fun i H => ∃ xs ys, Sq K t1 H l1 xs /\ Sq K t2 H l2 ys /\ (xs.length <= i ∨ ys.length <= i)⟩
end L2
namespace L2
open PySem PySem.Spec PyProof.Rows
theorem boot_zip' : bootBuiltins "zip" = some (.type "zip") := by decide +kernel
theorem Inv.turnedL {X : Cx} {pins : List (Addr × Obj)} {σ : St} {H : Hp} {s : Shared} {h' : Heap} {t' : Nat} {ch : List Addr} (I : Inv X pins σ H s) (k : ∀ b o, b ∉ ch -> s.heap.get? b = some o -> h'.get? b = some o) (f : ∀ b ∈ ch, VA X pins H b) :
    Inv X pins σ H { s with heap := h', toks := t' } := by
  have ne : ∀ b u, H b = some u -> b ∉ ch := fun b u e z => by rw [(f b z).1] at e; cases e
  have nl : X.env.locals ∉ ch := fun z => (f _ z).2.1 rfl
  refine I.step (g' := s.gens) (d' := s.drawn) (ch := ch) (fun b hb => ⟨(f b hb).2.2.2.1, (f b hb).2.1, (f b hb).2.2.2.2.1, (f b hb).2.2.2.2.2⟩) (fun b o _ _ hc e _ => k b o hc e) (fun b o _ _ hc e _ => ⟨o.slots, k b o hc e⟩) (fun _ _ _ _ n => n)
    (fun b o hc e => ⟨o, k b o hc e⟩) (fun _ _ e => e) (fun _ _ _ e => e) (fun b ps e => ⟨#[], by rw [e]; simp⟩) (fun m hm => ?_) (fun b u e => ?_) I.bare
  · obtain ⟨o, es, ep, ho, r⟩ := hm
    exact ⟨o, es, ep, k _ o nl ho, r⟩
  · refine (I.hok b u e).stay (fun c v hc q => k c v ?_ q) (fun _ q => q) fun _ _ q => q
    rcases hc with z | z
    · rw [z]; exact ne b u e
    · exact ne c _ z
theorem mem4 {a b c d x : Addr} (h : x ∈ [a, b, c, d]) : x = a ∨ x = b ∨ x = c ∨ x = d := by simpa using h
theorem turn_zip {P : Program} {w : World} {K : PySem.W.Frag} {elts : List Expr} {x1} {pos : Pos} {z TI TO i1 i2 l1 l2 : Addr} {t1 t2 : Bool} (D : ZipApart z TI TO i1 i2 l1 l2) :
    Turn P w K (.Tuple elts x1 pos) (Itz K t1 l1 t2 l2) [z, TO, i1, i2, TI] z (fun i h => ZR h z TI TO t1 i1 l1 t2 i2 l2 i) where
  mem := by simp
  obj := fun i h st b hb => by
    have q : b = z ∨ b = TO ∨ b = i1 ∨ b = i2 ∨ b = TI := by simpa using hb
    rcases q with q | q | q | q | q <;> rw [q]
    · exact ⟨_, st.zip, fun v e => nomatch e⟩
    · obtain ⟨a, b, e⟩ := st.out
      exact ⟨_, e, fun v e => nomatch e⟩
    · exact st.one.obj
    · exact st.two.obj
    · exact ⟨_, st.its, fun v e => nomatch e⟩
  keep := fun i h h' st k => ⟨k z (by simp) _ st.zip, k TI (by simp) _ st.its, let ⟨a, b, e⟩ := st.out; ⟨a, b, k TO (by simp) _ e⟩, st.one.to fun o e => k i1 (by simp) o e, st.two.to fun o e => k i2 (by simp) o e⟩
  item := by
    intro X hP hw hK hc i pins s σ H E I hf st hg
    subst hP hw hK
    obtain ⟨xs, ys, x, y, q1, q2, hx, hy⟩ := hg
    obtain ⟨its1, r1, w1⟩ := I.sq q1
    obtain ⟨its2, r2, w2⟩ := I.sq q2
    obtain ⟨u1, hu1, ru1⟩ := r1.get hx
    obtain ⟨u2, hu2, ru2⟩ := r2.get hy
    refine zs_item D ⟨st.zip, st.its, st.out, st.one.si w1, st.two.si w2⟩ (x := u1) (y := u2) (by simpa using hu1) (by simpa using hu2) fun g S' hp sz kp => ?_
    have f : ∀ b ∈ [z, TO, i1, i2], VA X pins H b := fun b hb => hf b (by
      rcases mem4 hb with q | q | q | q <;> rw [q] <;> simp)
    have kp' : ∀ b o, b ∉ [z, TO, i1, i2] -> s.heap.get? b = some o -> g.get? b = some o := fun b o hb e => kp b o (fun q => hb (by simp [q])) (fun q => hb (by simp [q])) (fun q => hb (by simp [q])) (fun q => hb (by simp [q])) e
    have I1 : Inv X pins σ H { s with heap := g } := I.turnedL (t' := s.toks) kp' f
    have hn : H s.heap.objs.size = none := I.hok.fresh (Nat.le_refl _)
    have zlt : z < s.heap.objs.size := Heap.lt_size st.zip
    refine ⟨_, rfl, ?_⟩
    refine wpAny_letOwnedTupleGo_zip (s := { s with heap := g }) S'.zip fun g2 z2 s2 => ?_
    have I2 : Inv X pins σ H { s with heap := g2 } := I1.turnedL (s := { s with heap := g }) (t' := s.toks) (ch := [z]) (fun b o hb e => s2.extBut b o (fun q => hb (by simp [q])) e) fun b hb => by
      have q : b = z := by simpa using hb
      rw [q]; exact f z (by simp)
    have pg2 : IsPair g2 s.heap.objs.size u1 u2 := s2.extBut _ _ (Nat.ne_of_gt zlt) hp
    have I3 : Inv X pins σ (upd H s.heap.objs.size (.tup [x, y])) { s with heap := g2 } := I2.retrack hn (I.fpOk (Nat.le_refl _) hn) ⟨by show 2 <= sizeLine; decide, [u1, u2], .cons ru1 (.cons ru2 .nil), ⟨_, pg2, rfl, rfl, _, rfl⟩⟩
    have ltf : ∀ b ∈ [z, TO, i1, i2, TI], b < s.heap.objs.size := fun b hb => by
      have q : b = z ∨ b = TO ∨ b = i1 ∨ b = i2 ∨ b = TI := by simpa using hb
      rcases q with q | q | q | q | q <;> rw [q]
      · exact zlt
      · obtain ⟨a, b, e⟩ := st.out
        exact Heap.lt_size e
      · obtain ⟨o, e, _⟩ := st.one.obj
        exact Heap.lt_size e
      · obtain ⟨o, e, _⟩ := st.two.obj
        exact Heap.lt_size e
      · exact Heap.lt_size st.its
    refine ⟨.ref s.heap.objs.size, _, I3, rfl, ⟨_, x, y, rfl, hn, rfl, fun zs h => by rw [I.sq_inj h q1]; exact hx, fun zs h => by rw [I.sq_inj h q2]; exact hy⟩, ?_, fun b hb => ?_⟩
    · refine ⟨z2, s2.extBut _ _ D.TIz S'.its, let ⟨a, b, e⟩ := S'.out; ⟨a, b, s2.extBut _ _ D.TOz e⟩, S'.one.sj.to fun o e => s2.extBut _ _ D.i1z e, S'.two.sj.to fun o e => s2.extBut _ _ D.i2z e⟩
    · rw [ZJ (Nat.ne_of_lt (ltf b hb))]
      exact (hf b hb).1
  done := by
    intro X hP hw hK hc i pins s σ H E I hf st hg
    subst hP hw hK
    obtain ⟨xs, ys, q1, q2, hend⟩ := hg
    obtain ⟨its1, r1, w1⟩ := I.sq q1
    obtain ⟨its2, r2, w2⟩ := I.sq q2
    have e1 := r1.length
    have e2 := r2.length
    refine zs_end (I.ok.hd hc) D ⟨st.zip, st.its, st.out, st.one.si w1, st.two.si w2⟩ ?_ fun g kp => ⟨rfl, ?_⟩
    · rcases hend with q | q
      · exact .inl (by simp; omega)
      · exact .inr (by simp; omega)
    · refine I.turnedL (t' := s.toks) (ch := [z, TO, i1, i2]) (fun b o hb e => kp b o (fun q => hb (by simp [q])) (fun q => hb (by simp [q])) (fun q => hb (by simp [q])) (fun q => hb (by simp [q])) e) fun b hb => hf b (by
        rcases mem4 hb with q | q | q | q <;> rw [q] <;> simp)
  self := fun _ _ _ _ _ st h => wpAny_pyIter_zip st.zip h
theorem zap (n l1 l2 : Nat) (h1 : l1 < n) (h2 : l2 < n) : ZipApart (n + 4) (n + 2) (n + 3) n (n + 1) l1 l2 := by
  constructor <;> (intro q; have q' : (_ : Nat) = _ := q; omega)
def iZip (K : PySem.W.Frag) (ta : TA) : TI := fun σ H R => ta σ H fun vs H1 => ∃ a b t1 t2 xs ys, vs = [.ref a, .ref b] /\ Sq K t1 H1 a xs /\ Sq K t2 H1 b ys /\ R (Itz K t1 a t2 b) H1
theorem pi_zip {X : Cx} {elts : List Expr} {x1} {tpos : Pos} {a b : Expr} {ta : TA} {p pos : Pos} (hg : Gl X "zip") (hm : X.mg "zip" = none) (ha : PA X [a, b] ta)
    (hs : starEach [a, b] X.env = [(false, eval a X.env), (false, eval b X.env)] := by rfl) (hs2 : starEach [b] X.env = [(false, eval b X.env)] := by rfl) : PI X (.Tuple elts x1 tpos) (.Call (.Name "zip" p) [a, b] [] pos) (iZip X.K ta) := by
  intro pins s σ H R I h
  refine Call_ (Va I hg hm boot_zip' (PyProof.Rows.callWith_type1 (thn (ha pos pins s σ H _ I h) fun us s1 ⟨vs, H1, I1, r1, q1⟩ => ?_) (by rw [hs, hs2]) (by rw [hs2]; rfl)))
  obtain ⟨l1, l2, t1, t2, xs, ys, e, q1, q2, q⟩ := q1
  subst e
  obtain ⟨u, w', rfl, ru, rw'⟩ := vals2 r1
  cases ru
  cases rw'
  obtain ⟨its1, rr1, w1⟩ := I1.sq q1
  obtain ⟨its2, rr2, w2⟩ := I1.sq q2
  have n1 := w1.lt
  have n2 := w2.lt
  refine call_zip w1 w2 fun g S kp => ?_
  refine wpAny_pyIter_zip (s := { s1 with heap := g }) S.zip ?_
  have D := zap _ _ _ n1 n2
  have I2 : Inv X pins σ H1 { s1 with heap := g } := I1.kept (t' := s1.toks) kp
  refine ⟨_, [s1.heap.objs.size + 4, s1.heap.objs.size + 3, s1.heap.objs.size, s1.heap.objs.size + 1, s1.heap.objs.size + 2], _, _, H1, rfl, I2, turn_zip D, S, fun b hb => ?_, q⟩
  have hb' : s1.heap.objs.size <= b := by
    have z : b = s1.heap.objs.size + 4 ∨ b = s1.heap.objs.size + 3 ∨ b = s1.heap.objs.size ∨ b = s1.heap.objs.size + 1 ∨ b = s1.heap.objs.size + 2 := by simpa using hb
    rcases z with z | z | z | z | z <;> rw [z] <;> first | exact Nat.le_refl _ | exact Nat.le_add_right _ _
  exact I1.fpOk hb' (I1.hok.fresh hb')
end L2
namespace L2
open PySem PySem.Spec PyProof.Rows
inductive Dat where
  | non | bl (b : Bool) | int (i : Int) | str (x : Str) | tup (ds : List Dat) | lst (ds : List Dat)
mutual
def Dat.beq : Dat -> Dat -> Bool
  | .non, .non => true
  | .bl a, .bl b => a == b
  | .int a, .int b => a == b
  | .str a, .str b => a == b
  | .tup a, .tup b => Dat.beqs a b
  | .lst a, .lst b => Dat.beqs a b
  | _, _ => false
def Dat.beqs : List Dat -> List Dat -> Bool
  | [], [] => true
  | a :: as, b :: bs => Dat.beq a b && Dat.beqs as bs
  | _, _ => false
end
mutual
theorem Dat.beq_self : ∀ a : Dat, a.beq a = true
  | .non => by unfold Dat.beq; rfl
  | .bl b => by unfold Dat.beq; exact beq_self_eq_true b
  | .int i => by unfold Dat.beq; exact beq_self_eq_true i
  | .str x => by unfold Dat.beq; exact beq_self_eq_true x
  | .tup ds => by unfold Dat.beq; exact Dat.beqs_self ds
  | .lst ds => by unfold Dat.beq; exact Dat.beqs_self ds
theorem Dat.beqs_self : ∀ a : List Dat, Dat.beqs a a = true
  | [] => by unfold Dat.beqs; rfl
  | a :: as => by unfold Dat.beqs; rw [Dat.beq_self a, Dat.beqs_self as]; rfl
end
mutual
def Has (H : Hp) : V -> Dat -> Prop
  | v, .non => v = .non
  | v, .bl b => v = .bl b
  | v, .int i => v = .int i
  | v, .str x => v = .str x
  | v, .tup ds => ∃ a xs, v = .ref a /\ H a = some (.tup xs) /\ HasL H xs ds
  | v, .lst ds => ∃ a xs, v = .ref a /\ H a = some (.lst xs) /\ HasL H xs ds
def HasL (H : Hp) : List V -> List Dat -> Prop
  | [], [] => True
  | x :: xs, d :: ds => Has H x d /\ HasL H xs ds
  | _ :: _, [] => False
  | [], _ :: _ => False
end
mutual
theorem Has.mono {H H' : Hp} (e : Same H H') : ∀ (d : Dat) {v : V}, Has H v d -> Has H' v d
  | .non, _, h => by unfold Has at h ⊢; exact h
  | .bl _, _, h => by unfold Has at h ⊢; exact h
  | .int _, _, h => by unfold Has at h ⊢; exact h
  | .str _, _, h => by unfold Has at h ⊢; exact h
  | .tup ds, _, h => by
    unfold Has at h ⊢
    obtain ⟨a, xs, h1, h2, h3⟩ := h
    exact ⟨a, xs, h1, e _ _ h2, HasL.mono e ds h3⟩
  | .lst ds, _, h => by
    unfold Has at h ⊢
    obtain ⟨a, xs, h1, h2, h3⟩ := h
    exact ⟨a, xs, h1, e _ _ h2, HasL.mono e ds h3⟩
theorem HasL.mono {H H' : Hp} (e : Same H H') : ∀ (ds : List Dat) {xs : List V}, HasL H xs ds -> HasL H' xs ds
  | [], [], h => by unfold HasL; trivial
  | [], _ :: _, h => by unfold HasL at h; exact h.elim
  | _ :: _, [], h => by unfold HasL at h; exact h.elim
  | d :: ds, x :: xs, h => by
    unfold HasL at h ⊢
    exact ⟨Has.mono e d h.1, HasL.mono e ds h.2⟩
end
theorem HasL.length {H : Hp} : ∀ {ds : List Dat} {xs : List V}, HasL H xs ds -> xs.length = ds.length
  | [], [], h => rfl
  | [], _ :: _, h => by unfold HasL at h; exact h.elim
  | _ :: _, [], h => by unfold HasL at h; exact h.elim
  | d :: ds, x :: xs, h => by
    unfold HasL at h
    rw [List.length_cons, List.length_cons, HasL.length h.2]
theorem HasL.get {H : Hp} : ∀ {ds : List Dat} {xs : List V} {i : Nat} {x : V}, HasL H xs ds -> xs[i]? = some x -> ∃ d, ds[i]? = some d /\ Has H x d
  | [], [], i, x, h, e => by simp at e
  | [], _ :: _, _, _, h, _ => by unfold HasL at h; exact h.elim
  | _ :: _, [], _, _, h, _ => by unfold HasL at h; exact h.elim
  | d :: ds, y :: xs, 0, x, h, e => by
    unfold HasL at h
    have e' : some y = some x := e
    cases e'
    exact ⟨d, rfl, h.1⟩
  | d :: ds, y :: xs, i + 1, x, h, e => by
    unfold HasL at h
    exact HasL.get (i := i) h.2 e
theorem HasL.append {H : Hp} : ∀ {ds es : List Dat} {xs ys : List V}, HasL H xs ds -> HasL H ys es -> HasL H (xs ++ ys) (ds ++ es)
  | [], _, [], _, _, h => h
  | [], _, _ :: _, _, h, _ => by unfold HasL at h; exact h.elim
  | _ :: _, _, [], _, h, _ => by unfold HasL at h; exact h.elim
  | d :: ds, es, x :: xs, ys, h, h' => by
    unfold HasL at h
    show HasL H (x :: (xs ++ ys)) (d :: (ds ++ es))
    unfold HasL
    exact ⟨h.1, HasL.append h.2 h'⟩
theorem HasL.one {H : Hp} {x : V} {d : Dat} (h : Has H x d) : HasL H [x] [d] := by
  unfold HasL; exact ⟨h, by unfold HasL; trivial⟩
theorem HasL.nil {H : Hp} : HasL H [] [] := by unfold HasL; trivial
theorem HasL.cons {H : Hp} {x : V} {d : Dat} {xs : List V} {ds : List Dat} (h : Has H x d) (t : HasL H xs ds) : HasL H (x :: xs) (d :: ds) := by
  unfold HasL; exact ⟨h, t⟩
mutual
theorem Has.inj {H : Hp} : ∀ (d d' : Dat) {v : V}, Has H v d -> Has H v d' -> d = d'
  | .non, d', _, h, h' => by
    unfold Has at h; subst h
    cases d' <;> unfold Has at h' <;> first | (obtain ⟨_, _, q, _⟩ := h'; cases q; done) | rfl | (cases h'; done)
  | .bl _, d', _, h, h' => by
    unfold Has at h; subst h
    cases d' <;> unfold Has at h' <;> first | (obtain ⟨_, _, q, _⟩ := h'; cases q; done) | (cases h'; done) | (cases h'; rfl)
  | .int _, d', _, h, h' => by
    unfold Has at h; subst h
    cases d' <;> unfold Has at h' <;> first | (obtain ⟨_, _, q, _⟩ := h'; cases q; done) | (cases h'; done) | (cases h'; rfl)
  | .str _, d', _, h, h' => by
    unfold Has at h; subst h
    cases d' <;> unfold Has at h' <;> first | (obtain ⟨_, _, q, _⟩ := h'; cases q; done) | (cases h'; done) | (cases h'; rfl)
  | .tup ds, d', _, h, h' => by
    unfold Has at h
    obtain ⟨a, xs, h1, h2, h3⟩ := h
    subst h1
    cases d' with
    | tup es =>
      unfold Has at h'
      obtain ⟨b, ys, e1, e2, e3⟩ := h'
      cases e1
      rw [h2] at e2
      cases e2
      rw [HasL.inj ds es h3 e3]
    | lst es =>
      unfold Has at h'
      obtain ⟨b, ys, e1, e2, e3⟩ := h'
      cases e1
      rw [h2] at e2
      cases e2
    | _ => unfold Has at h'; cases h'
  | .lst ds, d', _, h, h' => by
    unfold Has at h
    obtain ⟨a, xs, h1, h2, h3⟩ := h
    subst h1
    cases d' with
    | lst es =>
      unfold Has at h'
      obtain ⟨b, ys, e1, e2, e3⟩ := h'
      cases e1
      rw [h2] at e2
      cases e2
      rw [HasL.inj ds es h3 e3]
    | tup es =>
      unfold Has at h'
      obtain ⟨b, ys, e1, e2, e3⟩ := h'
      cases e1
      rw [h2] at e2
      cases e2
    | _ => unfold Has at h'; cases h'
theorem HasL.inj {H : Hp} : ∀ (ds es : List Dat) {xs : List V}, HasL H xs ds -> HasL H xs es -> ds = es
  | [], [], _, _, _ => rfl
  | [], _ :: _, xs, h, h' => by
    cases xs <;> unfold HasL at h h'
    · exact h'.elim
    · exact h.elim
  | _ :: _, [], xs, h, h' => by
    cases xs <;> unfold HasL at h h'
    · exact h.elim
    · exact h'.elim
  | d :: ds, e :: es, xs, h, h' => by
    cases xs with
    | nil => unfold HasL at h; exact h.elim
    | cons x xs =>
      unfold HasL at h h'
      rw [Has.inj d e h.1 h'.1, HasL.inj ds es h.2 h'.2]
end
theorem has_tyOf {K : PySem.W.Frag} {H : Hp} {v : V} : ∀ {d : Dat}, Has H v d -> TyOf K H v (.type (match d with | .non => "NoneType" | .bl _ => "bool" | .int _ => "int" | .str _ => "str" | .tup _ => "tuple" | .lst _ => "list"))
  | .non, h => by unfold Has at h; subst h; exact .non
  | .bl _, h => by unfold Has at h; subst h; exact .bl _
  | .int _, h => by unfold Has at h; subst h; exact .int _
  | .str _, h => by unfold Has at h; subst h; exact .str _
  | .tup _, h => by unfold Has at h; obtain ⟨a, xs, rfl, e, _⟩ := h; exact .tup e
  | .lst _, h => by unfold Has at h; obtain ⟨a, xs, rfl, e, _⟩ := h; exact .lst e
theorem fl_list {K : PySem.W.Frag} {a : Addr} {xs : List V} {g : TG} {tb : TS} {D : Ends} {σ : St} {H : Hp} (Pv : Nat -> St -> Hp -> Prop) (h0 : Pv 0 σ H) (hl : ∀ i σ H, i <= xs.length -> Pv i σ H -> SqL K H a xs)
    (hs : ∀ (B : St -> Hp -> Prop) (R : VK) i x σ H, xs[i]? = some x -> Pv i σ H -> g x σ H fun σ2 H2 => tb { nx := Pv (i + 1), rt := R, bk := B, ct := Pv (i + 1) } σ2 H2) (hd : ∀ σ H, Pv xs.length σ H -> D.nx σ H) :
    ∃ W : Nat -> Nat -> St -> Hp -> Prop, (∃ m, W 0 m σ H) /\ ∀ i m σ H, W i m σ H ->
      ((Itl K a).stop i H /\ D.nx σ H) ∨ ((Itl K a).go i H /\ ∃ N : St -> Hp -> Prop, (∀ σ' H', N σ' H' -> ∃ m', m' < m /\ W (i + 1) m' σ' H') /\ ∀ x H', (Itl K a).yld i H x H' -> g x σ H' fun σ2 H2 => tb { D with nx := N, ct := N, bk := D.nx } σ2 H2) :=
  for_list Pv h0 hl (fun i x σ H hx p => hs _ _ i x σ H hx p) hd
theorem fl_tup {K : PySem.W.Frag} {a : Addr} {xs : List V} {g : TG} {tb : TS} {D : Ends} {σ : St} {H : Hp} (Pv : Nat -> St -> Hp -> Prop) (h0 : Pv 0 σ H) (hl : ∀ i σ H, i <= xs.length -> Pv i σ H -> SqT K H a xs)
    (hs : ∀ (B : St -> Hp -> Prop) (R : VK) i x σ H, xs[i]? = some x -> Pv i σ H -> g x σ H fun σ2 H2 => tb { nx := Pv (i + 1), rt := R, bk := B, ct := Pv (i + 1) } σ2 H2) (hd : ∀ σ H, Pv xs.length σ H -> D.nx σ H) :
    ∃ W : Nat -> Nat -> St -> Hp -> Prop, (∃ m, W 0 m σ H) /\ ∀ i m σ H, W i m σ H ->
      ((Itt K a).stop i H /\ D.nx σ H) ∨ ((Itt K a).go i H /\ ∃ N : St -> Hp -> Prop, (∀ σ' H', N σ' H' -> ∃ m', m' < m /\ W (i + 1) m' σ' H') /\ ∀ x H', (Itt K a).yld i H x H' -> g x σ H' fun σ2 H2 => tb { D with nx := N, ct := N, bk := D.nx } σ2 H2) :=
  for_tup Pv h0 hl (fun i x σ H hx p => hs _ _ i x σ H hx p) hd
theorem Vd {lo : Int} {n : Nat} {g : TG} {tb : TS} {D : Ends} {σ : St} {H : Hp} (Pv : Nat -> St -> Hp -> Prop) (h0 : Pv 0 σ H)
    (hs : ∀ (B : St -> Hp -> Prop) (R : VK) i σ H, i < n -> Pv i σ H -> g (.int (lo + i)) σ H fun σ2 H2 => tb { nx := Pv (i + 1), rt := R, bk := B, ct := Pv (i + 1) } σ2 H2) (hd : ∀ σ H, Pv n σ H -> D.nx σ H) :
    ∃ W : Nat -> Nat -> St -> Hp -> Prop, (∃ m, W 0 m σ H) /\ ∀ i m σ H, W i m σ H ->
      ((Itr lo n).stop i H /\ D.nx σ H) ∨ ((Itr lo n).go i H /\ ∃ N : St -> Hp -> Prop, (∀ σ' H', N σ' H' -> ∃ m', m' < m /\ W (i + 1) m' σ' H') /\ ∀ x H', (Itr lo n).yld i H x H' -> g x σ H' fun σ2 H2 => tb { D with nx := N, ct := N, bk := D.nx } σ2 H2) :=
  for_range Pv h0 (fun i σ H hi p => hs _ _ i σ H hi p) hd
end L2
namespace K4
open PySem L2
def top (i : Nat) : Stmt := PySem.Challenge.pw_wantway_k05_bodies_and_places.main.body.getD i (.Pass ⟨0, 0, 0, 0⟩)
abbrev JK : Stmt := top 1
abbrev Yh : Stmt := top 2
abbrev VJ : Stmt := top 3
abbrev Vk : Stmt := top 4
abbrev sCell : Stmt := top 6
abbrev JL : Stmt := top 7
abbrev Vi : Stmt := top 8
abbrev sTake : Stmt := top 9
abbrev JH : Stmt := top 10
abbrev JI : Stmt := top 11
abbrev sPair : Stmt := top 12
abbrev JM : Stmt := top 13
abbrev JN : Stmt := top 14
abbrev VU : Stmt := top 15
abbrev sSome : Stmt := top 16
abbrev VL : Stmt := top 17
abbrev sAsk : Stmt := top 18
abbrev Vs : Stmt := top 19
abbrev sLet : Stmt := top 20
abbrev JW : Stmt := top 21
abbrev Vj : Stmt := top 22
abbrev sSize : Stmt := top 23
abbrev sBook : Stmt := top 24
abbrev sSame : Stmt := top 25
abbrev Yy : Stmt := top 26
abbrev sExch : Stmt := top 27
abbrev sPut : Stmt := top 28
abbrev JJ : Stmt := top 29
abbrev sLaw : Stmt := top 30
theorem scSame : FnScope ["found", "due"] ["found", "due"] (ZN sSame) := ⟨rfl, rfl, rfl, by decide +kernel, rfl, by decide +kernel, by decide +kernel⟩
theorem scTake : FnScope ["stream", "many", "number"] ["stream", "many"] (ZN sTake) := ⟨rfl, rfl, rfl, by decide +kernel, rfl, by decide +kernel, by decide +kernel⟩
end K4
namespace L2
open PySem PySem.Spec PyProof.Rows
theorem kit_no {K : PySem.W.Frag} : ∀ {a b : String}, (a, b) ∈ [("NoneType", "bool"), ("NoneType", "str"), ("NoneType", "int"), ("NoneType", "tuple"), ("NoneType", "list"), ("int", "bool"), ("int", "str"), ("int", "tuple"), ("int", "list"), ("str", "bool"), ("str", "int"), ("str", "tuple"), ("str", "list"), ("bool", "str"), ("bool", "tuple"), ("bool", "list"), ("tuple", "bool"), ("tuple", "str"), ("tuple", "int"), ("tuple", "list"), ("list", "bool"), ("list", "str"), ("list", "int"), ("list", "tuple")] -> PySem.W.kitOne K (.type a) (.type b) = some false := by
  intro a b h
  simp only [List.mem_cons, Prod.mk.injEq, List.not_mem_nil, or_false] at h
  rcases h with ⟨rfl, rfl⟩ | ⟨rfl, rfl⟩ | ⟨rfl, rfl⟩ | ⟨rfl, rfl⟩ | ⟨rfl, rfl⟩ | ⟨rfl, rfl⟩ | ⟨rfl, rfl⟩ | ⟨rfl, rfl⟩ | ⟨rfl, rfl⟩ | ⟨rfl, rfl⟩ | ⟨rfl, rfl⟩ | ⟨rfl, rfl⟩ | ⟨rfl, rfl⟩ | ⟨rfl, rfl⟩ | ⟨rfl, rfl⟩ | ⟨rfl, rfl⟩ | ⟨rfl, rfl⟩ | ⟨rfl, rfl⟩ | ⟨rfl, rfl⟩ | ⟨rfl, rfl⟩ | ⟨rfl, rfl⟩ | ⟨rfl, rfl⟩ | ⟨rfl, rfl⟩ | ⟨rfl, rfl⟩ <;> kernel_rfl
theorem Zp : bootBuiltins "tuple" = some (.type "tuple") := by decide +kernel
theorem Yk : bootBuiltins "list" = some (.type "list") := by decide +kernel
theorem boot_str' : bootBuiltins "str" = some (.type "str") := by decide +kernel
theorem boot_int' : bootBuiltins "int" = some (.type "int") := by decide +kernel
theorem V0 : bootBuiltins "bool" = some (.type "bool") := by decide +kernel
theorem Vz : bootBuiltins "dict" = some (.type "dict") := by decide +kernel
theorem boot_isi' : bootBuiltins "isinstance" = some (.builtin "isinstance") := by decide +kernel
theorem boot_all' : bootBuiltins "all" = some (.builtin "all") := by decide +kernel
theorem JS : bootBuiltins "max" = some (.builtin "max") := by decide +kernel
theorem Ys {X : Cx} {e : Expr} {te : TE} {T : String} {x : Str} {p p' pos : Pos} (hg : Gl X "isinstance") (hm : X.mg "isinstance" = none) (hg' : Gl X x) (hm' : X.mg x = none) (hv : bootBuiltins x = some (.type T)) (he : PE X e te)
    (hn : x ≠ "__name__" := by decide) (hdb : (x == ("__debug__" : Str)) = false := by decide) (hs : starEach [e, .Name x p'] X.env = (false, eval e X.env) :: starEach [.Name x p'] X.env := by rfl) :
    PE X (.Call (.Name "isinstance" p) [e, .Name x p'] [] pos) (tCB (rIsi X.K) (Yf te (Yf (tC (.ty T)) tNil))) :=
  Zi call_isi hg hm boot_isi' (ZA he (ZA (pe_bltn hg' hm' hv rfl hn hdb) ZF) hs) (he := hs)
def tyD : Dat -> String
  | .non => "NoneType" | .bl _ => "bool" | .int _ => "int" | .str _ => "str" | .tup _ => "tuple" | .lst _ => "list"
theorem has_ty {K : PySem.W.Frag} {H : Hp} {v : V} {d : Dat} (h : Has H v d) : TyOf K H v (.type (tyD d)) := by
  have q := has_tyOf (K := K) h
  cases d <;> exact q
def isD (T : String) (d : Dat) : Bool := decide (tyD d = T) || (T == "int" && decide (tyD d = "bool"))
theorem Yd (K : PySem.W.Frag) (d : Dat) {T : String} (hT : T ∈ ["bool", "str", "int", "tuple", "list"]) : PySem.W.kitOne K (.type (tyD d)) (.type T) = some (isD T d) := by
  simp only [List.mem_cons, List.not_mem_nil, or_false] at hT
  rcases hT with rfl | rfl | rfl | rfl | rfl <;> cases d <;> kernel_rfl
mutual
def Dat.dep : Dat -> Nat
  | .tup ds => 1 + Dat.deps ds
  | .lst ds => 1 + Dat.deps ds
  | _ => 0
def Dat.deps : List Dat -> Nat
  | [] => 0
  | d :: ds => max d.dep (Dat.deps ds)
end
theorem Dat.deps_get : ∀ {ds : List Dat} {i : Nat} {d : Dat}, ds[i]? = some d -> d.dep <= Dat.deps ds
  | [], i, d, e => by simp at e
  | a :: ds, 0, d, e => by
    have e' : some a = some d := e
    cases e'
    unfold Dat.deps; exact Nat.le_max_left _ _
  | a :: ds, i + 1, d, e => by
    have q := Dat.deps_get (ds := ds) (i := i) e
    unfold Dat.deps; exact Nat.le_trans q (Nat.le_max_right _ _)
mutual
def Dat.wid : Dat -> Nat
  | .tup ds => max ds.length (Dat.wids ds)
  | .lst ds => max ds.length (Dat.wids ds)
  | _ => 0
def Dat.wids : List Dat -> Nat
  | [] => 0
  | d :: ds => max d.wid (Dat.wids ds)
end
theorem Dat.wids_get : ∀ {ds : List Dat} {i : Nat} {d : Dat}, ds[i]? = some d -> d.wid <= Dat.wids ds
  | [], i, d, e => by simp at e
  | a :: ds, 0, d, e => by
    have e' : some a = some d := e
    cases e'
    unfold Dat.wids; exact Nat.le_max_left _ _
  | a :: ds, i + 1, d, e => by
    have q := Dat.wids_get (ds := ds) (i := i) e
    unfold Dat.wids; exact Nat.le_trans q (Nat.le_max_right _ _)
theorem beqs_all : ∀ {as bs : List Dat}, as.length = bs.length -> ((List.range as.length).map fun i => ((as[i]?).getD .non).beq ((bs[i]?).getD .non)).all id = Dat.beqs as bs
  | [], [], _ => by unfold Dat.beqs; rfl
  | [], _ :: _, h => by simp at h
  | _ :: _, [], h => by simp at h
  | a :: as, b :: bs, h => by
    have ih := beqs_all (as := as) (bs := bs) (by simpa using h)
    rw [List.length_cons, List.range_succ_eq_map, List.map_cons, List.all_cons, List.map_map]
    unfold Dat.beqs
    rw [<- ih]
    rfl
theorem beq_tup (a b : List Dat) : (Dat.tup a).beq (Dat.tup b) = Dat.beqs a b := by
  conv => lhs; unfold Dat.beq
theorem beq_lst (a b : List Dat) : (Dat.lst a).beq (Dat.lst b) = Dat.beqs a b := by
  conv => lhs; unfold Dat.beq
theorem beqs_len : ∀ {as bs : List Dat}, as.length ≠ bs.length -> Dat.beqs as bs = false
  | [], [], h => absurd rfl h
  | [], _ :: _, _ => by unfold Dat.beqs; rfl
  | _ :: _, [], _ => by unfold Dat.beqs; rfl
  | a :: as, b :: bs, h => by
    unfold Dat.beqs
    rw [beqs_len (as := as) (bs := bs) fun z => h (by rw [List.length_cons, List.length_cons, z]), Bool.and_false]
theorem YQ {c A B : Prop} [Decidable c] (hc : c) (h : A) : if c then A else B := by
  rw [if_pos hc]; exact h
theorem Zo {c A B : Prop} [Decidable c] (hc : ¬ c) (h : B) : if c then A else B := by
  rw [if_neg hc]; exact h
theorem YJ {J : It} {g : TG} {te : TE} {s0 : St} {Q : VK} {H : Hp} (n : Nat) (hn : n < sizeLine) (Pv : Nat -> List V -> Hp -> Prop) (h0 : Pv 0 [] H) (hlen : ∀ i vs H, Pv i vs H -> vs.length = i)
    (hgo : ∀ i vs H, i < n -> Pv i vs H -> J.go i H) (hstop : ∀ vs H, Pv n vs H -> J.stop n H)
    (hs : ∀ i vs H x H' (R : V -> Hp -> Prop), i < n -> Pv i vs H -> J.yld i H x H' -> (∀ v H3, Pv (i + 1) (vs ++ [v]) H3 -> R v H3) -> g x s0 H' fun s2 H2 => te s2 H2 R)
    (hd : ∀ vs H p, Pv n vs H -> H p = none -> Q (.ref p) (upd H p (.lst vs))) :
    CompW J g te s0 Q H := by
  refine ⟨fun i m vs H => m = n - i /\ i <= n /\ Pv i vs H, ⟨n, by simp, Nat.zero_le _, h0⟩, ?_⟩
  rintro i m vs H ⟨rfl, hi, p⟩
  have hl := hlen i vs H p
  refine ⟨by omega, ?_⟩
  by_cases hlt : i < n
  · exact .inr ⟨hgo i vs H hlt p, fun x H' y => hs i vs H x H' _ hlt p y fun v H3 p3 => ⟨n - (i + 1), by omega, rfl, hlt, p3⟩⟩
  · have e : i = n := by omega
    subst e
    exact .inl ⟨hstop vs H p, fun a ha => hd vs H a p ha⟩
theorem ZE {H : Hp} {p : Addr} (h : H p = none) (o : HO) : Same H (upd H p o) := fun b u q => by rw [ZJ (ZO q h)]; exact q
theorem Yz {α : Type} (f : Nat -> α) (i : Nat) : (List.range i).map f ++ [f i] = (List.range (i + 1)).map f := by
  rw [List.range_succ, List.map_append]; rfl
structure Blt (mg : Str -> Option Value) : Prop where
  len : mg "len" = none
  isi : mg "isinstance" = none
  bool : mg "bool" = none
  str : mg "str" = none
  int : mg "int" = none
  tuple : mg "tuple" = none
  list : mg "list" = none
  dict : mg "dict" = none
  all : mg "all" = none
  zip : mg "zip" = none
  max : mg "max" = none
  range : mg "range" = none
  sorted : mg "sorted" = none
end L2
namespace K4
open PySem L2
section
variable {P : Program} {w : World} {K : PySem.W.Frag} {mg : Str -> Option Value} {base : Heap} {f : Addr} {fd : FuncData}
theorem nd_two : List.Nodup [("one" : Str), "other"] := by decide +kernel
theorem gk_two {K : PySem.W.Frag} : GK 2 (gTup K 2 (Ja (Y2 0) (Ja (Y2 1) gNil))) :=
  gk_tup (gk_cons (YR (i := 0) (by decide)) (gk_cons (YR (i := 1) (by decide)) gk_nil (fun _ _ _ _ _ h z => h _ _ z) (fun _ _ _ _ _ h z => ⟨z.1, h _ _ z.2⟩)) (fun _ _ _ _ _ h z => h _ _ z)
    (fun _ _ _ _ _ h z => let ⟨v, r, e, z⟩ := z; ⟨v, r, e, z.1, h _ _ z.2⟩))
def Vq (n : Nat) : Sp := fun vs H Q _ => ∃ x y dx dy, vs = [x, y] /\ Has H x dx /\ Has H y dy /\ dy.dep < n /\ dy.wid <= 1000 /\ ∀ H', Same H H' -> Q (.bl (dx.beq dy)) H'
theorem ok_same {n : Nat} (B : Blt mg) (F : Fun K "_law_same" "_law_same" sSame f fd) (G : FnOk P w K mg base CX0 n f fd ["found", "due"] (Vq n)) (bG : Binds K fd ["found", "due"] []) (mG : mg "_law_same" = some (.ref f)) :
    FnOk P w K mg base CX0 (n + 1) f fd ["found", "due"] (Vq (n + 1)) := by
  refine F.ok scSame (fun vs H Q E h => ?_) (fun cdv A outer s H vs Q E hr h => ?_)
  · obtain ⟨x, y, dx, dy, rfl, _⟩ := h
    rfl
  obtain ⟨x, y, dx, dy, rfl, hx, hy, hd, hw, q⟩ := h
  refine ⟨_, ZG (Zt (ZY op_isN (pv 1) pe_non (Zd _)) (ZL (ZW (Y7 op_isN (pv 0) pe_non (Zd _)))) Zb)
    (ZG (Zt (YV (Ys rfl B.isi rfl B.bool V0 (pv 1))) (ZL (ZW (pe_and (Ys rfl B.isi rfl B.bool V0 (pv 0)) (pe_one (Y7 YA (pv 0) (pv 1) (Zd _)))))) Zb)
    (ZG (Zt (YV (Ys rfl B.isi rfl B.str boot_str' (pv 1))) (ZL (ZW (pe_and (Ys rfl B.isi rfl B.str boot_str' (pv 0)) (pe_one (Y7 YA (pv 0) (pv 1) (Zd _)))))) Zb)
    (ZG (Zt (YV (Ys rfl B.isi rfl B.int boot_int' (pv 1))) (ZL (ZW (pe_and (Ys rfl B.isi rfl B.int boot_int' (pv 0)) (pe_and (pe_not (Ys rfl B.isi rfl B.bool V0 (pv 0))) (pe_one (Y7 YA (pv 0) (pv 1) (Zd _))))))) Zb)
    (ZG (Zt (PW.pt (V9 (PW.pt (Vu (YV (Ys rfl B.isi rfl B.tuple Zp (pv 1))) (VM (VW (YV (Ys rfl B.isi rfl B.tuple Zp (pv 0)))))))
        (Vt (PW.pt (Vu (YV (Ys rfl B.isi rfl B.list Yk (pv 1))) (VM (VW (YV (Ys rfl B.isi rfl B.list Yk (pv 0)))))))))) (ZL (ZW pe_bl)) Zb)
    (ZG (Zt (ZY op_ne (Zi Zf rfl B.len PySem.boot_len (ZA (pv 0) ZF)) (Zi Zf rfl B.len PySem.boot_len (ZA (pv 1) ZF)) (Zd _)) (ZL (ZW pe_bl)) Zb)
    (ZL (ZW (Zi (call_all rfl) rfl B.all boot_all' (ZA (Yv ["one", "other"] [] (pi_zip rfl B.zip (ZA (pv 0) (ZA (pv 1) ZF))) gk_two
        (fun cl C fp s H => Y0 (n := 2) rfl (Zr (Za (i := 0) nd_two rfl (Or.inl rfl) (Or.inr rfl)) (Zr (Za (i := 1) nd_two rfl (Or.inl rfl) (Or.inr rfl)) Yc)))
        (fun cl C fp s H => ZK G hr rfl mG F.kp bG .nil ZU (ZA (pv 0) (ZA (pv 1) ZF)))) ZF))))))))), ?_⟩
  have tY := has_ty (K := K) hy
  have tX := has_ty (K := K) hx
  have fin : ∀ k, k = dx.beq dy -> Q (.bl k) H := fun k e => by rw [e]; exact q H (Same.refl _)
  -- due is None
  refine ⟨_, rfl, rfl, _, rfl, ?_⟩
  refine YI (fun c => ?_) (fun c => ?_)
  · have ey : y = .non := of_decide_eq_true c
    have ed : dy = .non := Has.inj dy .non hy (by unfold Has; exact ey)
    subst ed
    refine ⟨_, rfl, rfl, fin _ ?_⟩
    cases dx <;> unfold Has at hx
    · rw [hx]; rfl
    · rw [hx]; rfl
    · rw [hx]; rfl
    · rw [hx]; rfl
    · obtain ⟨a, xs, rfl, _⟩ := hx; rfl
    · obtain ⟨a, xs, rfl, _⟩ := hx; rfl
  have ny : dy ≠ .non := fun z => by
    subst z
    unfold Has at hy
    exact c (decide_eq_true hy)
  -- a truth
  refine ⟨_, rfl, _, _, _, _, rfl, tY, Yd K dy (by simp), _, rfl, ?_⟩
  refine YI (fun c1 => ?_) (fun c1 => ?_)
  · cases dy <;> simp [isD, tyD] at c1
    rename_i b
    have ey : y = .bl b := by unfold Has at hy; exact hy
    subst ey
    refine ⟨_, rfl, _, _, _, _, rfl, tX, Yd K dx (by simp), _, rfl, ?_⟩
    refine YI (fun c2 => ?_) (fun c2 => ?_)
    · cases dx <;> simp [isD, tyD] at c2
      rename_i a
      have ex : x = .bl a := by unfold Has at hx; exact hx
      subst ex
      refine ⟨_, rfl, _, rfl, rfl, fin _ ?_⟩
      rw [dec_bl]; unfold Dat.beq; rfl
    · refine fin _ ?_
      cases dx <;> first | (simp [isD, tyD] at c2; done) | (unfold Dat.beq; rfl)
  -- a text
  refine ⟨_, rfl, _, _, _, _, rfl, tY, Yd K dy (by simp), _, rfl, ?_⟩
  refine YI (fun c2 => ?_) (fun c2 => ?_)
  · cases dy <;> simp [isD, tyD] at c2
    rename_i b
    have ey : y = .str b := by unfold Has at hy; exact hy
    subst ey
    refine ⟨_, rfl, _, _, _, _, rfl, tX, Yd K dx (by simp), _, rfl, ?_⟩
    refine YI (fun c3 => ?_) (fun c3 => ?_)
    · cases dx <;> simp [isD, tyD] at c3
      rename_i a
      have ex : x = .str a := by unfold Has at hx; exact hx
      subst ex
      refine ⟨_, rfl, _, rfl, rfl, fin _ ?_⟩
      rw [dec_str]; unfold Dat.beq; rfl
    · refine fin _ ?_
      cases dx <;> first | (simp [isD, tyD] at c3; done) | (unfold Dat.beq; rfl)
  -- an int
  refine ⟨_, rfl, _, _, _, _, rfl, tY, Yd K dy (by simp), _, rfl, ?_⟩
  refine YI (fun c3 => ?_) (fun c3 => ?_)
  · cases dy <;> simp [isD, tyD] at c3 c1
    rename_i b
    have ey : y = .int b := by unfold Has at hy; exact hy
    subst ey
    refine ⟨_, rfl, _, _, _, _, rfl, tX, Yd K dx (by simp), _, rfl, ?_⟩
    refine YI (fun c4 => ?_) (fun c4 => ?_)
    · refine ⟨_, rfl, _, _, _, _, rfl, tX, Yd K dx (by simp), _, rfl, _, rfl, ?_⟩
      refine YI (fun c5 => ?_) (fun c5 => ?_)
      · cases dx <;> simp [isD, tyD] at c4 c5
        rename_i a
        have ex : x = .int a := by unfold Has at hx; exact hx
        subst ex
        refine ⟨_, rfl, _, rfl, rfl, fin _ ?_⟩
        rw [dec_int]; unfold Dat.beq; rfl
      · refine fin _ ?_
        cases dx <;> first | (simp [isD, tyD] at c4 c5; done) | (unfold Dat.beq; rfl)
    · refine fin _ ?_
      cases dx <;> first | (simp [isD, tyD] at c4; done) | (unfold Dat.beq; rfl)
  cases dy with
  | non => exact absurd rfl ny
  | bl b => simp [isD, tyD] at c1
  | int b => simp [isD, tyD] at c3
  | str b => simp [isD, tyD] at c2
  | tup es =>
    have hlt : Dat.deps es < n := by unfold Dat.dep at hd; omega
    have hw1 : es.length <= 1000 := by unfold Dat.wid at hw; exact Nat.le_trans (Nat.le_max_left _ _) hw
    have hw2 : Dat.wids es <= 1000 := by unfold Dat.wid at hw; exact Nat.le_trans (Nat.le_max_right _ _) hw
    refine ⟨_, rfl, _, _, _, _, rfl, tY, Yd K _ (by simp), _, rfl, ?_⟩
    refine YQ rfl ?_
    refine ⟨_, rfl, _, _, _, _, rfl, tX, Yd K dx (by simp), _, rfl, ?_⟩
    refine YI (fun c4 => ?_) (fun c4 => ?_)
    · refine YQ rfl (fin _ ?_)
      cases dx <;> first | (simp [isD, tyD] at c4; done) | (unfold Dat.beq; rfl)
    refine ⟨_, rfl, _, _, _, _, rfl, tY, Yd K _ (by simp), _, rfl, ?_⟩
    refine Zo (by simp [isD, tyD]) (Zo (by simp) ?_)
    cases dx <;> simp [isD, tyD] at c4
    rename_i ds
    unfold Has at hx hy
    obtain ⟨a, xs, rfl, ha, hxs⟩ := hx
    obtain ⟨b, ys, rfl, hb, hys⟩ := hy
    have l1 := hxs.length
    have l2 := hys.length
    refine ⟨_, rfl, a, xs, rfl, .inr (SqT.of ha), _, rfl, b, ys, rfl, .inr (SqT.of hb), rfl, _, rfl, ?_⟩
    refine YI (fun c5 => ?_) (fun c5 => ?_)
    · refine fin _ ?_
      have ne : xs.length ≠ ys.length := fun z => by rw [z] at c5; simp at c5
      unfold Dat.beq
      rw [beqs_len (by rw [<- l1, <- l2]; exact ne)]
    have el : xs.length = ys.length := by
      apply Classical.byContradiction
      intro z
      refine c5 ?_
      have z' : ¬ V.int (xs.length : Nat) = V.int (ys.length : Nat) := fun w => by injection w with w; exact z (by omega)
      rw [decide_eq_false z']; rfl
    have hsz : xs.length < sizeLine := ZP (by omega)
    refine ⟨_, rfl, _, rfl, a, b, true, true, xs, ys, rfl, SqT.of ha, SqT.of hb, ?_⟩
    refine YJ xs.length hsz (fun i vs H' => Same H H' /\ vs = (List.range i).map fun j => V.bl (((ds[j]?).getD .non).beq ((es[j]?).getD .non))) ⟨Same.refl _, rfl⟩ (fun i vs H' z => by rw [z.2]; simp) ?_ ?_ ?_ ?_
    · intro i vs H' hi z
      exact ⟨xs, ys, xs[i], ys[i], SqT.of (z.1 _ _ ha), SqT.of (z.1 _ _ hb), by simp [hi], by simp [<- el, hi]⟩
    · intro vs H' z
      exact ⟨xs, ys, SqT.of (z.1 _ _ ha), SqT.of (z.1 _ _ hb), .inl (Nat.le_refl _)⟩
    · intro i vs H' x H'' R hi z yl hR
      obtain ⟨p, x1, y1, rfl, hp, rfl, g1, g2⟩ := yl
      have e1 := g1 xs (SqT.of (z.1 _ _ ha))
      have e2 := g2 ys (SqT.of (z.1 _ _ hb))
      obtain ⟨d1, hd1, hh1⟩ := hxs.get e1
      obtain ⟨d2, hd2, hh2⟩ := hys.get e2
      have s1 := z.1.trans (ZE hp (.tup [x1, y1]))
      refine ⟨p, [x1, y1], rfl, SqT.of ZD, rfl, x1, [y1], rfl, y1, [], rfl, rfl, ?_⟩
      refine ⟨_, rfl, _, rfl, x1, y1, d1, d2, rfl, hh1.mono s1, hh2.mono s1, Nat.lt_of_le_of_lt (Dat.deps_get hd2) hlt, Nat.le_trans (Dat.wids_get hd2) hw2, fun H3 s3 => hR _ _ ⟨s1.trans s3, ?_⟩⟩
      rw [z.2, <- Yz, hd1, hd2]
      rfl
    · intro vs H' p z hp
      refine ⟨p, (List.range xs.length).map fun j => ((ds[j]?).getD .non).beq ((es[j]?).getD .non), rfl, SqL.of (by rw [ZD, z.2, List.map_map]; rfl), ?_⟩
      have e : ((List.range xs.length).map fun j => ((ds[j]?).getD .non).beq ((es[j]?).getD .non)).all id = (Dat.tup ds).beq (Dat.tup es) := by
        rw [beq_tup, <- beqs_all (by rw [<- l1, <- l2]; exact el), l1]
      rw [e]
      exact q _ (z.1.trans (ZE hp _))
  | lst es =>
    have hlt : Dat.deps es < n := by unfold Dat.dep at hd; omega
    have hw1 : es.length <= 1000 := by unfold Dat.wid at hw; exact Nat.le_trans (Nat.le_max_left _ _) hw
    have hw2 : Dat.wids es <= 1000 := by unfold Dat.wid at hw; exact Nat.le_trans (Nat.le_max_right _ _) hw
    refine ⟨_, rfl, _, _, _, _, rfl, tY, Yd K _ (by simp), _, rfl, ?_⟩
    refine Zo (by simp [isD, tyD]) (Zo (by simp) ?_)
    refine ⟨_, rfl, _, _, _, _, rfl, tY, Yd K _ (by simp), _, rfl, ?_⟩
    refine YQ rfl ?_
    refine ⟨_, rfl, _, _, _, _, rfl, tX, Yd K dx (by simp), _, rfl, ?_⟩
    refine YI (fun c4 => ?_) (fun c4 => ?_)
    · refine fin _ ?_
      cases dx <;> first | (simp [isD, tyD] at c4; done) | (unfold Dat.beq; rfl)
    cases dx <;> simp [isD, tyD] at c4
    rename_i ds
    unfold Has at hx hy
    obtain ⟨a, xs, rfl, ha, hxs⟩ := hx
    obtain ⟨b, ys, rfl, hb, hys⟩ := hy
    have l1 := hxs.length
    have l2 := hys.length
    refine ⟨_, rfl, a, xs, rfl, .inl (SqL.of ha), _, rfl, b, ys, rfl, .inl (SqL.of hb), rfl, _, rfl, ?_⟩
    refine YI (fun c5 => ?_) (fun c5 => ?_)
    · refine fin _ ?_
      have ne : xs.length ≠ ys.length := fun z => by rw [z] at c5; simp at c5
      unfold Dat.beq
      rw [beqs_len (by rw [<- l1, <- l2]; exact ne)]
    have el : xs.length = ys.length := by
      apply Classical.byContradiction
      intro z
      refine c5 ?_
      have z' : ¬ V.int (xs.length : Nat) = V.int (ys.length : Nat) := fun w => by injection w with w; exact z (by omega)
      rw [decide_eq_false z']; rfl
    have hsz : xs.length < sizeLine := ZP (by omega)
    refine ⟨_, rfl, _, rfl, a, b, false, false, xs, ys, rfl, SqL.of ha, SqL.of hb, ?_⟩
    refine YJ xs.length hsz (fun i vs H' => Same H H' /\ vs = (List.range i).map fun j => V.bl (((ds[j]?).getD .non).beq ((es[j]?).getD .non))) ⟨Same.refl _, rfl⟩ (fun i vs H' z => by rw [z.2]; simp) ?_ ?_ ?_ ?_
    · intro i vs H' hi z
      exact ⟨xs, ys, xs[i], ys[i], SqL.of (z.1 _ _ ha), SqL.of (z.1 _ _ hb), by simp [hi], by simp [<- el, hi]⟩
    · intro vs H' z
      exact ⟨xs, ys, SqL.of (z.1 _ _ ha), SqL.of (z.1 _ _ hb), .inl (Nat.le_refl _)⟩
    · intro i vs H' x H'' R hi z yl hR
      obtain ⟨p, x1, y1, rfl, hp, rfl, g1, g2⟩ := yl
      have e1 := g1 xs (SqL.of (z.1 _ _ ha))
      have e2 := g2 ys (SqL.of (z.1 _ _ hb))
      obtain ⟨d1, hd1, hh1⟩ := hxs.get e1
      obtain ⟨d2, hd2, hh2⟩ := hys.get e2
      have s1 := z.1.trans (ZE hp (.tup [x1, y1]))
      refine ⟨p, [x1, y1], rfl, SqT.of ZD, rfl, x1, [y1], rfl, y1, [], rfl, rfl, ?_⟩
      refine ⟨_, rfl, _, rfl, x1, y1, d1, d2, rfl, hh1.mono s1, hh2.mono s1, Nat.lt_of_le_of_lt (Dat.deps_get hd2) hlt, Nat.le_trans (Dat.wids_get hd2) hw2, fun H3 s3 => hR _ _ ⟨s1.trans s3, ?_⟩⟩
      rw [z.2, <- Yz, hd1, hd2]
      rfl
    · intro vs H' p z hp
      refine ⟨p, (List.range xs.length).map fun j => ((ds[j]?).getD .non).beq ((es[j]?).getD .non), rfl, SqL.of (by rw [ZD, z.2, List.map_map]; rfl), ?_⟩
      have e : ((List.range xs.length).map fun j => ((ds[j]?).getD .non).beq ((es[j]?).getD .non)).all id = (Dat.lst ds).beq (Dat.lst es) := by
        rw [beq_lst, <- beqs_all (by rw [<- l1, <- l2]; exact el), l1]
      rw [e]
      exact q _ (z.1.trans (ZE hp _))
theorem same_zero : FnOk P w K mg base CX0 0 f fd ["found", "due"] (Vq 0) := by
  have no : ∀ vs H Q E, ¬ Vq 0 vs H Q E := fun vs H Q E h => by
    obtain ⟨x, y, dx, dy, _, _, _, h1, _⟩ := h
    omega
  exact ⟨fun vs H Q E h => absurd h (no vs H Q E), fun A outer s H args us vs Q E _ _ _ _ h => absurd h (no vs H Q E)⟩
theorem same_ok (B : Blt mg) (F : Fun K "_law_same" "_law_same" sSame f fd) (bG : Binds K fd ["found", "due"] []) (mG : mg "_law_same" = some (.ref f)) : ∀ n : Nat, FnOk P w K mg base CX0 n f fd ["found", "due"] (Vq n)
  | 0 => same_zero
  | n + 1 => ok_same B F (same_ok B F bG mG n) bG mG
end
end K4
namespace L2
open PySem
inductive W where
  | non | tag (x : Str) | pair (a b : W)
theorem drop_cons {ws : List Int} {i : Nat} {x : V} (h : (ws.map V.int)[i]? = some x) : ∃ n r, x = .int n /\ ws.drop i = n :: r /\ ws.drop (i + 1) = r /\ n ∈ ws := by
  rw [List.getElem?_map] at h
  cases e : ws[i]? with
  | none => rw [e] at h; cases h
  | some n =>
    rw [e] at h
    cases h
    obtain ⟨hi, q⟩ := List.getElem?_eq_some_iff.mp e
    exact ⟨n, ws.drop (i + 1), rfl, by rw [List.drop_eq_getElem_cons hi, q], rfl, List.mem_of_getElem? e⟩
def Yt (ws : List Int) : Dat := .tup (ws.map Dat.int)
theorem has_ints {H : Hp} : ∀ {ws : List Int} {xs : List V}, HasL H xs (ws.map Dat.int) -> xs = ws.map V.int
  | [], [], _ => rfl
  | [], _ :: _, h => by unfold HasL at h; exact h.elim
  | _ :: _, [], h => by rw [List.map_cons] at h; unfold HasL at h; exact h.elim
  | n :: ws, x :: xs, h => by
    rw [List.map_cons] at h
    unfold HasL at h
    obtain ⟨h1, h2⟩ := h
    unfold Has at h1
    rw [h1, has_ints h2]; rfl
theorem ints_has {H : Hp} : ∀ (ws : List Int), HasL H (ws.map V.int) (ws.map Dat.int)
  | [] => HasL.nil
  | n :: ws => HasL.cons (by unfold Has; rfl) (ints_has ws)
theorem Vm {H : Hp} {v : V} {ws : List Int} (h : Has H v (Yt ws)) : ∃ a, v = .ref a /\ H a = some (.tup (ws.map V.int)) := by
  unfold Yt Has at h
  obtain ⟨a, xs, rfl, ha, hl⟩ := h
  rw [has_ints hl] at ha
  exact ⟨a, rfl, ha⟩
theorem V1 {H : Hp} {a : Addr} {ws : List Int} (h : H a = some (.tup (ws.map V.int))) : Has H (.ref a) (Yt ws) := by
  unfold Yt Has
  exact ⟨a, _, rfl, h, ints_has ws⟩
theorem YU {H : Hp} {v : V} {ds : List Dat} (h : Has H v (.lst ds)) : ∃ a xs, v = .ref a /\ H a = some (.lst xs) /\ HasL H xs ds := by unfold Has at h; exact h
theorem YG {H : Hp} {a : Addr} {xs : List V} {ds : List Dat} (h : H a = some (.lst xs)) (t : HasL H xs ds) : Has H (.ref a) (.lst ds) := by unfold Has; exact ⟨a, xs, rfl, h, t⟩
def Zu (H : Hp) (p : Addr) : Prop := ∃ (a : Int) (b : Bool) (c d : Int), H p = some (.lst [.int a, .bl b, .int c, .int d])
def But (p : Addr) (H H' : Hp) : Prop := ∀ b, b ≠ p -> H' b = H b
theorem But.trans {p : Addr} {H H1 H2 : Hp} (a : But p H H1) (b : But p H1 H2) : But p H H2 := fun c h => (b c h).trans (a c h)
theorem But.upd {p : Addr} {H : Hp} (o : HO) : But p H (upd H p o) := fun _ h => ZJ h
end L2
namespace K4
open PySem L2
theorem scCell : FnScope ["script", "k"] ["script", "k"] (ZN sCell) := ⟨rfl, rfl, rfl, by decide +kernel, rfl, by decide +kernel, by decide +kernel⟩
theorem scMixed : FnScope ["cell", "k", "number"] ["cell", "k"] (ZN JL) := ⟨rfl, rfl, rfl, by decide +kernel, rfl, by decide +kernel, by decide +kernel⟩
theorem scStream : FnScope ["cell"] ["cell"] (ZN Vi) := ⟨rfl, rfl, rfl, by decide +kernel, rfl, by decide +kernel, by decide +kernel⟩
section
variable {P : Program} {w : World} {K : PySem.W.Frag} {mg : Str -> Option Value} {base : Heap} {f g : Addr} {fd gd : FuncData}
def spCell (K : PySem.W.Frag) : Sp := fun vs H Q _ => ∃ (a : Addr) (ns : List Int) (k : Int), vs = [.ref a, .int k] /\ SqL K H a (ns.map V.int) /\ 0 <= k /\ ∀ c : Int, Q (.int c) H
theorem ok_cell {n : Nat} (B : Blt mg) (F : Fun K "_law_cell" "_law_cell" sCell f fd) : FnOk P w K mg base CX0 (n + 1) f fd ["script", "k"] (spCell K) := by
  refine F.ok scCell (fun vs H Q E h => ?_) (fun cdv A outer s H vs Q E hr h => ?_)
  · obtain ⟨a, ns, k, rfl, _⟩ := h
    rfl
  obtain ⟨a, ns, k, rfl, hq, h0, q⟩ := h
  refine ⟨_, ZG (Zt (ZY op_lt (pv 1) (Zi Zf rfl B.len PySem.boot_len (ZA (pv 0) ZF)) (Zd _)) (ZL (ZW (ZV Zj (pv 0) (pv 1) (fun _ _ => rfl)))) Zb) (ZL (ZW ZH)), ?_⟩
  refine ⟨_, rfl, _, rfl, a, _, rfl, .inl hq, _, _, rfl, rfl, _, rfl, ?_⟩
  refine YI (fun c => ?_) (fun c => ?_)
  · have c' : k < ((ns.map V.int).length : Nat) := of_decide_eq_true c
    rw [List.length_map] at c'
    have hk : k.toNat < ns.length := by omega
    have ek : k = ((k.toNat : Nat) : Int) := by omega
    have e : atI (ns.map V.int) ((k.toNat : Nat) : Int) = some (.int ns[k.toNat]) := ZQ (by rw [List.getElem?_map, List.getElem?_eq_getElem hk]; rfl)
    rw [<- ek] at e
    exact ⟨_, rfl, _, rfl, a, _, _, _, rfl, rfl, hq, e, q _⟩
  · exact q _
def spMixed : Sp := fun vs H Q _ => ∃ (c k : Int), vs = [.int c, .int k] /\ ∀ r : Int, 0 <= r -> r < 2147483563 -> Q (.int r) H
theorem ok_mixed {n : Nat} (F : Fun K "_law_mixed" "_law_mixed" JL f fd) : FnOk P w K mg base CX0 (n + 1) f fd ["cell", "k"] spMixed := by
  refine F.ok scMixed (fun vs H Q E h => ?_) (fun cdv A outer s H vs Q E hr h => ?_)
  · obtain ⟨c, k, rfl, _⟩ := h
    rfl
  obtain ⟨c, k, rfl, q⟩ := h
  refine ⟨_, ZG (ZT (i := 2) scMixed.nd rfl (Or.inl rfl) (Zc Y1 (Zc YB (Zc YB (Zc YT (Zc Y1 (pv 0) ZH) ZH) (Zc YT ZH (pv 1))) ZH) ZH))
    (ZG (ZT (i := 2) scMixed.nd rfl (Or.inl rfl) (Zc Y1 (Zc YB (Zc YB (Zc YT (pv 2) (pv 2)) (Zc YT ZH (pv 1))) ZH) ZH))
    (ZL (ZW (Zc Y1 (Zc YT (pv 2) (Zc YB (pv 2) ZH)) ZH)))), ?_⟩
  have m1 := Int.emod_nonneg c (show (2147483647 : Int) ≠ 0 by decide)
  have m2 := Int.emod_lt_of_pos c (show (0 : Int) < 2147483647 by decide)
  refine ⟨_, rfl, _, _, rfl, rfl, (by show (0 : Int) < _; decide), _, _, rfl, rfl, .inl ⟨by omega, by omega⟩, _, rfl, _, _, rfl, rfl, .inl ⟨by decide, by decide⟩, _, _, rfl, rfl, _, _, rfl, rfl, _, _, rfl, rfl, (by show (0 : Int) < _; decide), ?_⟩
  generalize hx : (c % 2147483647 * 48271 + 69621 * k + 7919) % 2147483629 = x
  have x1 : 0 <= x := by rw [<- hx]; exact Int.emod_nonneg _ (by decide)
  have x2 : x < 2147483629 := by rw [<- hx]; exact Int.emod_lt_of_pos _ (by decide)
  refine ⟨_, rfl, _, rfl, _, _, rfl, rfl, .inl ⟨by omega, by omega⟩, _, rfl, _, _, rfl, rfl, .inl ⟨by decide, by decide⟩, _, _, rfl, rfl, _, _, rfl, rfl, _, _, rfl, rfl, (by show (0 : Int) < _; decide), ?_⟩
  generalize hy : (x * x + 31 * k + 5) % 2147483587 = y
  have y1 : 0 <= y := by rw [<- hy]; exact Int.emod_nonneg _ (by decide)
  have y2 : y < 2147483587 := by rw [<- hy]; exact Int.emod_lt_of_pos _ (by decide)
  refine ⟨_, rfl, _, rfl, _, _, rfl, rfl, _, _, rfl, rfl, .inl ⟨by omega, by omega⟩, _, _, rfl, rfl, (by show (0 : Int) < _; decide), ?_⟩
  exact q _ (Int.emod_nonneg _ (by decide)) (Int.emod_lt_of_pos _ (by decide))
def spStream : Sp := fun vs H Q _ => ∃ (c : Int), vs = [.int c] /\ ∀ p H', H p = none -> But p H H' -> Zu H' p -> Q (.ref p) H'
theorem ok_stream {n : Nat} (F : Fun K "_law_stream" "_law_stream" Vi f fd) : FnOk P w K mg base CX0 (n + 1) f fd ["cell"] spStream := by
  refine F.ok scStream (fun vs H Q E h => ?_) (fun cdv A outer s H vs Q E hr h => ?_)
  · obtain ⟨c, rfl, _⟩ := h
    rfl
  obtain ⟨c, rfl, q⟩ := h
  refine ⟨_, ZL (ZW (YF (ZA (pv 0) (ZA (pe_or (Y7 op_ge (pv 0) (Zc op_pow ZH ZH) (Zd _)) (pe_one (Y7 op_le (pv 0) (pe_un un_neg (Zc op_pow ZH ZH)) (Zd _)))) (ZA ZH (ZA (Zc Y1 (pv 0) ZH) ZF)))))), ?_⟩
  have cp : CPow 10 18 := ⟨by decide, by decide, by decide⟩
  refine ⟨_, rfl, _, rfl, _, _, rfl, rfl, cp, _, _, rfl, rfl, _, rfl, ?_⟩
  refine YI (fun _ => ?_) (fun _ => ?_)
  · refine ⟨_, rfl, _, _, rfl, rfl, (by show (0 : Int) < _; decide), by show 4 <= sizeLine; decide, fun p hp => ?_⟩
    exact q p _ hp (But.upd _) ⟨_, _, _, _, ZD⟩
  · refine ⟨_, rfl, _, _, rfl, rfl, cp, _, rfl, _, _, rfl, rfl, ?_⟩
    refine ⟨_, rfl, _, _, rfl, rfl, (by show (0 : Int) < _; decide), by show 4 <= sizeLine; decide, fun p hp => ?_⟩
    exact q p _ hp (But.upd _) ⟨_, _, _, _, ZD⟩
def YK : Sp := fun vs H Q _ => ∃ (p : Addr) (many : Int), vs = [.ref p, .int many] /\ Zu H p /\ 0 < many /\ many < 1073741824 /\ ∀ (r : Int) (H' : Hp), 0 <= r -> r < many -> But p H H' -> Zu H' p -> Q (.int r) H'
theorem ok_take {n : Nat} (F : Fun K "_law_take" "_law_take" sTake f fd) (G : FnOk P w K mg base CX0 n g gd ["cell", "k"] spMixed) (bG : Binds K gd ["cell", "k"] []) (kG : PySem.W.keepIn K (.ref g) = true) (mG : mg "_law_mixed" = some (.ref g)) :
    FnOk P w K mg base CX0 (n + 1) f fd ["stream", "many"] YK := by
  refine F.ok scTake (fun vs H Q E h => ?_) (fun cdv A outer s H vs Q E hr h => ?_)
  · obtain ⟨p, many, rfl, _⟩ := h
    rfl
  obtain ⟨p, many, rfl, ⟨a, b, c, d, hp⟩, m0, m1, q⟩ := h
  refine ⟨_, ZG (Zt (YV (ZV Zj (pv 0) ZH (fun _ _ => rfl)))
      (ZG (ZT (i := 2) scTake.nd rfl (Or.inl rfl) (Zc Y1 (ZV Zj (pv 0) ZH (fun _ _ => rfl)) (pv 1)))
      (ZG (Y8 (Zc op_fdiv (ZV Zj (pv 0) ZH (fun _ _ => rfl)) (pv 1)) (Vv (pv 0) ZH set_list))
      (ZG (Y8 (pe_and (Y7 op_ne (ZV Zj (pv 0) ZH (fun _ _ => rfl)) ZH (Zd _)) (pe_one (Y7 op_ne (ZV Zj (pv 0) ZH (fun _ _ => rfl)) (pe_un un_neg ZH) (Zd _)))) (Vv (pv 0) ZH set_list))
      (ZL (ZW (pv 2)))))) Zb)
    (ZG (Y8 (Zc YB (ZV Zj (pv 0) ZH (fun _ _ => rfl)) ZH) (Vv (pv 0) ZH set_list))
    (ZL (ZW (Zc Y1 (Zc op_fdiv (ZK G hr rfl mG kG bG .nil ZU (ZA (ZV Zj (pv 0) ZH (fun _ _ => rfl)) (ZA (ZV Zj (pv 0) ZH (fun _ _ => rfl)) ZF))) ZH) (pv 1))))), ?_⟩
  refine ⟨_, rfl, p, _, 1, _, rfl, rfl, SqL.of hp, rfl, _, rfl, ?_⟩
  refine YI (fun hb => ?_) (fun hb => ?_)
  · refine ⟨_, rfl, p, _, 0, _, rfl, rfl, SqL.of hp, rfl, _, rfl, _, _, rfl, rfl, m0, ?_⟩
    refine ⟨_, rfl, p, _, 0, _, rfl, rfl, SqL.of hp, rfl, _, rfl, _, _, rfl, rfl, ⟨m0, m1⟩, _, rfl, p, _, 0, 0, rfl, rfl, hp, rfl, ?_⟩
    have h1 : upd H p (.lst [.int (a / many), .bl b, .int c, .int d]) p = some (.lst [.int (a / many), .bl b, .int c, .int d]) := ZD
    refine ⟨_, rfl, p, _, 0, _, rfl, rfl, SqL.of h1, rfl, rfl, _, rfl, ?_⟩
    have r0 := Int.emod_nonneg a (show many ≠ 0 by omega)
    have r1 := Int.emod_lt_of_pos a m0
    refine YI (fun _ => ?_) (fun _ => ?_)
    · refine ⟨_, rfl, p, _, 0, _, rfl, rfl, SqL.of h1, rfl, _, rfl, rfl, _, rfl, p, _, 1, 1, rfl, rfl, h1, rfl, _, rfl, ?_⟩
      exact q _ _ r0 r1 ((But.upd _).trans (But.upd _)) ⟨_, _, _, _, ZD⟩
    · refine ⟨_, rfl, p, _, 1, 1, rfl, rfl, h1, rfl, _, rfl, ?_⟩
      exact q _ _ r0 r1 ((But.upd _).trans (But.upd _)) ⟨_, _, _, _, ZD⟩
  · refine ⟨_, rfl, p, _, 2, _, rfl, rfl, SqL.of hp, rfl, _, _, rfl, rfl, _, rfl, p, _, 2, 2, rfl, rfl, hp, rfl, ?_⟩
    have h1 : upd H p (.lst [.int a, .bl b, .int (c + 1), .int d]) p = some (.lst [.int a, .bl b, .int (c + 1), .int d]) := ZD
    refine ⟨_, rfl, p, _, 3, _, rfl, rfl, SqL.of h1, rfl, _, rfl, p, _, 2, _, rfl, rfl, SqL.of h1, rfl, _, _, rfl, fun r r0 r1 => ?_⟩
    refine ⟨_, _, rfl, rfl, ⟨by decide, by decide⟩, _, rfl, _, _, rfl, rfl, m0, ?_⟩
    exact q _ _ (Int.emod_nonneg _ (by omega)) (Int.emod_lt_of_pos _ m0) (But.upd _) ⟨_, _, _, _, ZD⟩
end
end K4
namespace L2
open PySem
def alpha (o : Nat) : Str := ⟨((List.range 26).map (o + ·)).toArray⟩
def one (c : Nat) : Str := ⟨#[c]⟩
def txt (cs : List Nat) : Str := ⟨cs.toArray⟩
theorem JT (o : Nat) : (alpha o).length = 26 := by show ((List.range 26).map (o + ·)).toArray.size = 26; simp
theorem alpha_at (o : Nat) (j : Int) (h0 : 0 <= j) (h1 : j < 26) : atI (alpha o).cps.toList j = some (o + j.toNat) := by
  obtain ⟨n, rfl⟩ : ∃ n : Nat, j = n := ⟨j.toNat, by omega⟩
  refine ZQ ?_
  show (((List.range 26).map (o + ·)).toArray.toList)[n]? = _
  rw [List.toList_toArray, List.getElem?_map, List.getElem?_range (by omega)]
  rfl
theorem occ_at {o : Nat} (ho : o = 97 ∨ o = 65) {c : Nat} (h : o <= c /\ c < o + 26) : ∃ i rest, Builtin.Str.occurrences (alpha o) (one c) 0 (alpha o).length 1 = i :: rest := by
  have all : ∀ j < 26, (Builtin.Str.occurrences (alpha 97) (one (97 + j)) 0 26 1).isEmpty = false /\ (Builtin.Str.occurrences (alpha 65) (one (65 + j)) 0 26 1).isEmpty = false := by decide +kernel
  rw [JT]
  have key : (Builtin.Str.occurrences (alpha o) (one c) 0 26 1).isEmpty = false := by
    have a := all (c - o) (by omega)
    rcases ho with rfl | rfl
    · have e : 97 + (c - 97) = c := by omega
      rw [e] at a; exact a.1
    · have e : 65 + (c - 65) = c := by omega
      rw [e] at a; exact a.2
  cases q : Builtin.Str.occurrences (alpha o) (one c) 0 26 1 with
  | nil => rw [q] at key; cases key
  | cons i r => exact ⟨i, r, rfl⟩
theorem eight {cs : List Nat} (h : cs.length = 8) : ∃ a b c d e f g i, cs = [a, b, c, d, e, f, g, i] := by
  match cs, h with
  | [a, b, c, d, e, f, g, i], _ => exact ⟨a, b, c, d, e, f, g, i, rfl⟩
theorem join8 {cs : List Nat} (h : cs.length = 8) : Txt.join (Str.ofString "") (cs.map one) = txt cs := by
  obtain ⟨a, b, c, d, e, f, g, i, rfl⟩ := eight h
  rfl
theorem cut_to {cs : List Nat} (h : cs.length = 8) (j : Nat) (hj : j <= 8) : Txt.slice (txt cs) none (some (j : Int)) = txt (cs.take j) := by
  obtain ⟨a, b, c, d, e, f, g, i, rfl⟩ := eight h
  match j, hj with
  | 0, _ | 1, _ | 2, _ | 3, _ | 4, _ | 5, _ | 6, _ | 7, _ | 8, _ => rfl
theorem cut_from {cs : List Nat} (h : cs.length = 8) (j : Nat) (hj : j <= 8) : Txt.slice (txt cs) (some (j : Int)) none = txt (cs.drop j) := by
  obtain ⟨a, b, c, d, e, f, g, i, rfl⟩ := eight h
  match j, hj with
  | 0, _ | 1, _ | 2, _ | 3, _ | 4, _ | 5, _ | 6, _ | 7, _ | 8, _ =>
    unfold Txt.slice
    rw [show (txt [a, b, c, d, e, f, g, i]).length = 8 from rfl]
    first
      | (rw [if_pos (by decide +kernel)]; rfl)
      | (rw [if_neg (by decide +kernel)]; rfl)
theorem txt_app (a b : List Nat) : txt a ++ txt b = txt (a ++ b) := by
  show (⟨a.toArray ++ b.toArray⟩ : Str) = ⟨(a ++ b).toArray⟩
  simp
theorem txt_inj {a b : List Nat} (h : txt a = txt b) : a = b := by
  have q : a.toArray = b.toArray := congrArg Str.cps h
  simpa using q
theorem txt_len (a : List Nat) : (txt a).length = a.length := by show a.toArray.size = a.length; simp
def wd (o : Nat) (cs : List Nat) (at' way i k : Nat) : List Nat :=
  if way = 0 then cs.take at' ++ [o + (i + 5 * k) % 26] ++ cs.drop (at' + 1)
  else if way = 1 then [o + (i + 5 * k) % 26] ++ cs.take ((3 * k + at') % 8)
  else if way = 2 then cs.take (k % 8 + 1)
  else cs.take (8 - k % 8)
theorem wd_ne {o : Nat} {cs : List Nat} {at' way i k l : Nat} (h8 : cs.length = 8) (ha : at' < 8) (hm : way < 2 /\ l < 24 ∨ l < 8) (hkl : k < l) : wd o cs at' way i k ≠ wd o cs at' way i l := by
  intro e
  have d : (i + 5 * k) % 26 ≠ (i + 5 * l) % 26 ∨ l ≥ 26 := by omega
  unfold wd at e
  by_cases w0 : way = 0
  · rw [if_pos w0, if_pos w0] at e
    have q := congrArg (fun x : List Nat => x[at']?) e
    have lt : (cs.take at').length = at' := by rw [List.length_take]; omega
    have g : ∀ x : Nat, (cs.take at' ++ [x] ++ cs.drop (at' + 1))[at']? = some x := fun x => by
      rw [List.append_assoc, List.getElem?_append_right (by omega), lt]; simp
    have q' := (g _).symm.trans (q.trans (g _))
    simp at q'
    omega
  rw [if_neg w0, if_neg w0] at e
  by_cases w1 : way = 1
  · rw [if_pos w1, if_pos w1] at e
    simp at e
    omega
  rw [if_neg w1, if_neg w1] at e
  have l8 : l < 8 := by omega
  by_cases w2 : way = 2
  · rw [if_pos w2, if_pos w2] at e
    have q := congrArg List.length e
    rw [List.length_take, List.length_take] at q
    omega
  rw [if_neg w2, if_neg w2] at e
  have q := congrArg List.length e
  rw [List.length_take, List.length_take] at q
  omega
theorem wd_len {o : Nat} {cs : List Nat} {at' way i k : Nat} (h8 : cs.length = 8) (ha : at' < 8) : 1 <= (wd o cs at' way i k).length /\ (wd o cs at' way i k).length <= 8 := by
  unfold wd
  split
  · simp only [List.length_append, List.length_take, List.length_drop, List.length_singleton]; omega
  split
  · simp only [List.length_append, List.length_take, List.length_singleton]; omega
  split
  · rw [List.length_take]; omega
  · rw [List.length_take]; omega
theorem wd_in {o : Nat} {cs : List Nat} {at' way i k : Nat} (hc : ∀ c ∈ cs, o <= c /\ c < o + 26) : ∀ c ∈ wd o cs at' way i k, o <= c /\ c < o + 26 := by
  have z : o <= o + (i + 5 * k) % 26 /\ o + (i + 5 * k) % 26 < o + 26 := by omega
  intro c h
  unfold wd at h
  split at h
  · simp only [List.mem_append, List.mem_singleton] at h
    rcases h with (h | h) | h
    · exact hc c (List.mem_of_mem_take h)
    · rw [h]; exact z
    · exact hc c (List.mem_of_mem_drop h)
  split at h
  · simp only [List.mem_append, List.mem_singleton] at h
    rcases h with h | h
    · rw [h]; exact z
    · exact hc c (List.mem_of_mem_take h)
  split at h
  · exact hc c (List.mem_of_mem_take h)
  · exact hc c (List.mem_of_mem_take h)
structure Wds (o : Nat) (ys : List Str) : Prop where
  nd : ys.Nodup
  len : ∀ y ∈ ys, 1 <= y.length /\ y.length <= 8
  abc : ∀ y ∈ ys, ∀ c ∈ y.cps.toList, o <= c /\ c < o + 26
theorem wds_of {o : Nat} {cs : List Nat} {at' way i m : Nat} (h8 : cs.length = 8) (ha : at' < 8) (hm : way < 2 /\ m <= 24 ∨ m <= 8) (hc : ∀ c ∈ cs, o <= c /\ c < o + 26) : Wds o ((List.range m).map fun k => txt (wd o cs at' way i k)) := by
  refine ⟨?_, fun y hy => ?_, fun y hy c hc' => ?_⟩
  · show List.Pairwise _ _
    rw [List.pairwise_map]
    refine List.Pairwise.imp_of_mem ?_ (List.pairwise_lt_range (n := m))
    intro a b ha' hb hab e
    exact wd_ne (i := i) h8 ha (by have := List.mem_range.mp hb; omega) hab (txt_inj e)
  · obtain ⟨k, _, rfl⟩ := List.mem_map.mp hy
    rw [txt_len]; exact wd_len h8 ha
  · obtain ⟨k, _, rfl⟩ := List.mem_map.mp hy
    exact wd_in hc c (by simpa [txt] using hc')
def SameB (p : Addr) (H H' : Hp) : Prop := ∀ b o, b ≠ p -> H b = some o -> H' b = some o
theorem SameB.refl (p : Addr) (H : Hp) : SameB p H H := fun _ _ _ h => h
theorem SameB.trans {p : Addr} {H H1 H2 : Hp} (a : SameB p H H1) (b : SameB p H1 H2) : SameB p H H2 := fun c o n h => b c o n (a c o n h)
theorem But.sb {p : Addr} {H H' : Hp} (a : But p H H') : SameB p H H' := fun b o n h => (a b n).trans h
theorem Same.sb {p : Addr} {H H' : Hp} (a : Same H H') : SameB p H H' := fun b o _ h => a b o h
theorem SameB.free {p r : Addr} {H H' : Hp} (a : SameB p H H') (n : r ≠ p) (h : H' r = none) : H r = none := by
  cases e : H r with
  | none => rfl
  | some o => rw [a r o n e] at h; cases h
theorem SameB.put {p r : Addr} {H H' : Hp} {o : HO} (a : SameB p H H') (h : H r = none) : SameB p H (upd H' r o) := fun b u n e => by
  rw [ZJ (ZO e h)]; exact a b u n e
theorem Zu.ne {H : Hp} {p r : Addr} (s : Zu H p) (h : H r = none) : r ≠ p := fun e => by
  obtain ⟨a, b, c, d, q⟩ := s
  rw [<- e, h] at q; cases q
theorem Zu.keep {H H' : Hp} {p : Addr} (s : Zu H p) (e : H' p = H p) : Zu H' p := by
  obtain ⟨a, b, c, d, q⟩ := s
  exact ⟨a, b, c, d, e.trans q⟩
theorem str_app_len (a b : Str) : (a ++ b).length = a.length + b.length := by
  show (a.cps ++ b.cps).size = a.cps.size + b.cps.size
  simp
theorem cut_le {cs : List Nat} (h : cs.length = 8) (lo hi : Option Int) : (Txt.slice (txt cs) lo hi).length <= 8 := by
  have q := Txt.slice_le (txt cs) lo hi
  rw [txt_len, h] at q
  exact q
theorem pick4 {o : Nat} {cs : List Nat} {at' way i k : Nat} (h : way < 4) : atI [V.str (txt (cs.take at' ++ [o + (i + 5 * k) % 26] ++ cs.drop (at' + 1))), V.str (txt ([o + (i + 5 * k) % 26] ++ cs.take ((3 * k + at') % 8))), V.str (txt (cs.take (k % 8 + 1))), V.str (txt (cs.take (8 - k % 8)))] (way : Int) = some (V.str (txt (wd o cs at' way i k))) := by
  match way, h with
  | 0, _ | 1, _ | 2, _ | 3, _ => rfl
end L2
namespace K4
open PySem L2
theorem Y4 : FnScope ["stream", "many", "letters", "ways", "k", "base", "at", "way", "words", "sign", "some"] ["stream", "many", "letters", "ways"] (ZN JH) := ⟨rfl, rfl, rfl, by decide +kernel, rfl, by decide +kernel, by decide +kernel⟩
theorem nd_kls : List.Nodup [("k" : Str), "letters", "stream"] := by decide +kernel
section
variable {P : Program} {w : World} {K : PySem.W.Frag} {mg : Str -> Option Value} {base : Heap} {f g : Addr} {fd gd : FuncData}
def Jn : Sp := fun vs H Q _ => ∃ (p : Addr) (many : Nat) (o : Nat) (ways : Nat), vs = [.ref p, .int many, .str (alpha o), .int ways] /\ Zu H p /\ (o = 97 ∨ o = 65) /\ 0 < ways /\ (ways <= 2 /\ many <= 24 ∨ ways <= 4 /\ many <= 8) /\
  ∀ (r : Addr) (ys : List Str) (H' : Hp), SameB p H H' -> Zu H' p -> H r = none -> r ≠ p -> H' r = some (.lst (ys.map V.str)) -> ys.length = many -> Wds o ys -> Q (.ref r) H'
theorem ok_words {n : Nat} (B : Blt mg) (F : Fun K "_law_words" "_law_words" JH f fd) (G : FnOk P w K mg base CX0 n g gd ["stream", "many"] YK) (bG : Binds K gd ["stream", "many"] []) (kG : PySem.W.keepIn K (.ref g) = true) (mG : mg "_law_take" = some (.ref g)) :
    FnOk P w K mg base CX0 (n + 1) f fd ["stream", "many", "letters", "ways"] Jn := by
  refine F.ok Y4 (fun vs H Q E h => ?_) (fun cdv A outer s H vs Q E hr h => ?_)
  · obtain ⟨p, many, o, ways, rfl, _⟩ := h
    rfl
  obtain ⟨p, many, o, ways, rfl, hs, ho, hw, hm, q⟩ := h
  refine ⟨_, ZG (ZT (i := 5) Y4.nd rfl (Or.inl rfl) (VT PySem.F.plainAttrs_str PySem.F.slot_str_join PySem.F.type_str_join mt_join ZX (ZA (Yv ["k"] [2, 0] (Yw rfl B.range (ZA ZH ZF)) (YR (i := 0) (by decide))
      (fun cl C fp s H => Za (i := 0) nd_kls rfl (Or.inl rfl) (Or.inr rfl)) (fun cl C fp s H => ZV (r := rIxS) ix_str (pv 1) (ZK G hr rfl mG kG bG .nil ZU (ZA (pv 2) (ZA ZH ZF))) (fun _ _ => rfl))) ZF)))
    (ZG (ZT (i := 6) Y4.nd rfl (Or.inl rfl) (ZK G hr rfl mG kG bG .nil ZU (ZA (pv 0) (ZA ZH ZF))))
    (ZG (ZT (i := 7) Y4.nd rfl (Or.inl rfl) (ZK G hr rfl mG kG bG .nil ZU (ZA (pv 0) (ZA (pv 3) ZF))))
    (ZG (ZT (i := 8) Y4.nd rfl (Or.inl rfl) (YF ZF))
    (ZG (YS PassesOwn.never rfl (Yw rfl B.range (ZA (pv 1) ZF)) (Za (i := 4) Y4.nd rfl (Or.inl rfl))
      (ZG (ZT (i := 9) Y4.nd rfl (Or.inl rfl) (ZV ix_str (pv 2) (Zc Y1 (Zc YB (VT PySem.F.plainAttrs_str PySem.F.slot_str_index PySem.F.type_str_index mt_index (pv 2) (ZA (ZV ix_str (pv 5) (pv 6) (fun _ _ => rfl)) ZF)) (Zc YT ZH (pv 4))) ZH) (fun _ _ => rfl)))
      (ZG (ZT (i := 10) Y4.nd rfl (Or.inl rfl) (YF (ZA (Zc Vw (Zc Vw (Z8 sl_str (pv 5) YL (YC (pv 6))) (pv 9)) (Z8 sl_str (pv 5) (YC (Zc YB (pv 6) ZH)) YL))
        (ZA (Zc Vw (pv 9) (Z8 sl_str (pv 5) YL (YC (Zc Y1 (Zc YB (Zc YT ZH (pv 4)) (pv 6)) ZH))))
        (ZA (Z8 sl_str (pv 5) YL (YC (Zc YB (Zc Y1 (pv 4) ZH) ZH)))
        (ZA (Z8 sl_str (pv 5) YL (YC (Zc Yi ZH (Zc Y1 (pv 4) ZH)))) ZF))))))
      (ZL (Yn (VT PySem.F.plainAttrs_list PySem.F.slot_list_append PySem.F.type_list_append YW (pv 8) (ZA (ZV Zj (pv 10) (pv 7) (fun _ _ => rfl)) ZF)))))))
    (ZL (ZW (pv 8))))))), ?_⟩
  have em : ((many : Nat) : Int).toNat = many := Int.toNat_natCast _
  refine ⟨rfl, 8, rfl, by decide, by decide, ?_⟩
  refine YJ 8 (ZP (by decide)) (fun i vs H' => SameB p H H' /\ Zu H' p /\ ∃ cs : List Nat, vs = cs.map (fun c => V.str (one c)) /\ cs.length = i /\ ∀ c ∈ cs, o <= c /\ c < o + 26) ⟨SameB.refl _ _, hs, [], rfl, rfl, fun c h => nomatch h⟩
    (fun i vs H' z => by obtain ⟨_, _, cs, e, l, _⟩ := z; rw [e, List.length_map, l]) (fun i vs H' hi z => hi) (fun vs H' z => Nat.le_refl _) ?_ ?_
  · intro i vs H' x H'' R hi z yl hR
    obtain ⟨rfl, rfl⟩ := yl
    obtain ⟨z1, z2, cs, rfl, zl, zc⟩ := z
    refine ⟨_, rfl, _, rfl, p, 26, rfl, z2, by decide, by decide, fun r H3 r0 r1 b s3 => ?_⟩
    refine ⟨alpha o, r, o + r.toNat, rfl, rfl, by rw [JT]; decide, alpha_at o r r0 r1, hR _ _ ⟨z1.trans b.sb, s3, cs ++ [o + r.toNat], by rw [List.map_append]; rfl, by rw [List.length_append, zl]; rfl, fun c hc => ?_⟩⟩
    rcases List.mem_append.mp hc with h | h
    · exact zc c h
    · rw [List.mem_singleton.mp h]; omega
  intro vs H1 pl z hpl
  obtain ⟨z1, z2, cs, rfl, z8, zc⟩ := z
  have npl : pl ≠ p := z2.ne hpl
  have e1 : cs.map (fun c => V.str (one c)) = (cs.map one).map V.str := by rw [List.map_map]; rfl
  refine ⟨_, pl, cs.map one, rfl, rfl, SqL.of (by rw [ZD, e1]), ?_, ?_⟩
  · obtain ⟨a, b, c, d, e, f, g, i, rfl⟩ := eight z8
    show (8 : Nat) + 8 * 0 <= 16777216
    decide
  rw [join8 z8]
  have s1 : Zu (upd H1 pl (.lst (cs.map fun c => V.str (one c)))) p := z2.keep (ZJ (Ne.symm npl))
  have b1 : SameB p H (upd H1 pl (.lst (cs.map fun c => V.str (one c)))) := z1.trans (ZE hpl _).sb
  generalize upd H1 pl (.lst (cs.map fun c => V.str (one c))) = H2 at s1 b1
  refine ⟨_, rfl, p, 8, rfl, s1, by decide, by decide, fun at' H3 a0 a1 b3 s3 => ?_⟩
  refine ⟨_, rfl, _, rfl, p, ways, rfl, s3, by omega, by omega, fun way H4 w0 w1 b4 s4 => ?_⟩
  refine ⟨by show 0 <= sizeLine; decide, fun wl hwl => ?_⟩
  have b5 : SameB p H H4 := (b1.trans b3.sb).trans b4.sb
  have nwl : wl ≠ p := s4.ne hwl
  have fwl : H wl = none := b5.free nwl hwl
  obtain ⟨at1, rfl⟩ : ∃ n : Nat, at' = n := ⟨at'.toNat, by omega⟩
  obtain ⟨way1, rfl⟩ : ∃ n : Nat, way = n := ⟨way.toNat, by omega⟩
  have hat : at1 < 8 := by omega
  -- the sign at the drawn place, and its number among the letters
  obtain ⟨c0, hc0⟩ : ∃ c0, cs[at1]? = some c0 := ⟨cs[at1], List.getElem?_eq_getElem (by omega)⟩
  obtain ⟨i0, rest, hocc⟩ := occ_at ho (zc c0 (List.mem_of_getElem? hc0))
  refine ⟨_, rfl, many, rfl, by omega, by omega, ?_⟩
  refine Vd (n := ((many : Nat) : Int).toNat) (fun i σ H' => SameB p H H' /\ Zu H' p /\ H' wl = some (.lst (((List.range i).map fun k => txt (wd o cs at1 way1 i0 k)).map V.str)) /\
    ∃ z1 z2 z3, σ = [some (.ref p), some (.int many), some (.str (alpha o)), some (.int ways), z1, some (.str (txt cs)), some (.int at1), some (.int way1), some (.ref wl), z2, z3]) ?_ ?_ ?_
  · exact ⟨b5.put fwl, s4.keep (ZJ (Ne.symm nwl)), ZD, _, _, _, rfl⟩
  · rintro BB RR i σ H' hi ⟨y1, y2, y3, z1, z2, z3, rfl⟩
    rw [em] at hi
    have tl : (txt cs).length <= sizeLine := by rw [txt_len, z8]; decide
    have hidx : (0 : Int) <= ((i0 : Int) + 5 * (0 + (i : Int))) % 26 /\ ((i0 : Int) + 5 * (0 + (i : Int))) % 26 < 26 := by omega
    have e26 : (((i0 : Int) + 5 * (0 + (i : Int))) % 26).toNat = (i0 + 5 * i) % 26 := by omega
    refine ⟨_, rfl, _, rfl, rfl, _, rfl, _, rfl, txt cs, at1, c0, rfl, rfl, tl, ZQ (by simpa [txt] using hc0), _, _, i0, rest, rfl, rfl, hocc, _, rfl, _, _, rfl, rfl, .inl ⟨by decide, by decide⟩, _, _, rfl, rfl, _, _, rfl, rfl, (by show (0 : Int) < _; decide), ?_⟩
    refine ⟨alpha o, _, _, rfl, rfl, by rw [JT]; decide, alpha_at o _ hidx.1 hidx.2, ?_⟩
    rw [e26]
    have sg : (⟨#[o + (i0 + 5 * i) % 26]⟩ : Str) = txt [o + (i0 + 5 * i) % 26] := rfl
    rw [sg]
    -- the four
    have eA : Txt.slice (txt cs) none (some (at1 : Int)) ++ txt [o + (i0 + 5 * i) % 26] ++ Txt.slice (txt cs) (some ((at1 : Int) + 1)) none = txt (cs.take at1 ++ [o + (i0 + 5 * i) % 26] ++ cs.drop (at1 + 1)) := by
      have z : ((at1 : Int) + 1) = ((at1 + 1 : Nat) : Int) := by omega
      rw [z, cut_to z8 at1 (by omega), cut_from z8 (at1 + 1) (by omega), txt_app, txt_app]
    have eB : txt [o + (i0 + 5 * i) % 26] ++ Txt.slice (txt cs) none (some ((3 * (0 + (i : Int)) + (at1 : Int)) % 8)) = txt ([o + (i0 + 5 * i) % 26] ++ cs.take ((3 * i + at1) % 8)) := by
      have z : (3 * (0 + (i : Int)) + (at1 : Int)) % 8 = (((3 * i + at1) % 8 : Nat) : Int) := by omega
      rw [z, cut_to z8 _ (by omega), txt_app]
    have eC : Txt.slice (txt cs) none (some ((0 + (i : Int)) % 8 + 1)) = txt (cs.take (i % 8 + 1)) := by
      have z : (0 + (i : Int)) % 8 + 1 = ((i % 8 + 1 : Nat) : Int) := by omega
      rw [z, cut_to z8 _ (by omega)]
    have eD : Txt.slice (txt cs) none (some (8 - (0 + (i : Int)) % 8)) = txt (cs.take (8 - i % 8)) := by
      have z : 8 - (0 + (i : Int)) % 8 = ((8 - i % 8 : Nat) : Int) := by omega
      rw [z, cut_to z8 _ (by omega)]
    have small : ∀ m : Nat, m <= 100 -> m <= sizeLine := fun m h => Nat.le_of_lt (ZP (by omega))
    have k1 : ∀ lo hi, (Txt.slice (txt cs) lo hi).length <= 8 := fun lo hi => cut_le z8 lo hi
    have x1 : (txt [o + (i0 + 5 * i) % 26]).length = 1 := rfl
    refine ⟨_, rfl, _, rfl, _, rfl, txt cs, rfl, tl, _, rfl, _, _, rfl, rfl, small _ (by have := k1 none (some (at1 : Int)); omega), _, rfl, _, rfl, _, _, rfl, rfl, _, rfl, txt cs, rfl, tl, _, _, rfl, rfl,
      small _ (by have := k1 none (some (at1 : Int)); have := k1 (some ((at1 : Int) + 1)) none; rw [str_app_len]; omega), ?_⟩
    refine ⟨_, rfl, _, rfl, _, rfl, _, _, rfl, rfl, .inl ⟨by decide, by decide⟩, _, rfl, _, _, rfl, rfl, _, _, rfl, rfl, (by show (0 : Int) < _; decide), _, rfl, txt cs, rfl, tl, _, _, rfl, rfl,
      small _ (by have := k1 none (some ((3 * (0 + (i : Int)) + (at1 : Int)) % 8)); omega), ?_⟩
    refine ⟨_, rfl, _, rfl, _, _, rfl, rfl, (by show (0 : Int) < _; decide), _, _, rfl, rfl, _, rfl, txt cs, rfl, tl, ?_⟩
    refine ⟨_, rfl, _, rfl, _, _, rfl, rfl, (by show (0 : Int) < _; decide), _, _, rfl, rfl, _, rfl, txt cs, rfl, tl, by show 4 <= sizeLine; decide, fun t ht => ?_⟩
    rw [eA, eB, eC, eD]
    have nt : t ≠ p := y2.ne ht
    have ntw : wl ≠ t := ZO y3 ht
    refine ⟨_, rfl, .inl ⟨rfl, _, SqL.of ((ZJ ntw).trans y3)⟩, _, rfl, _, rfl, t, _, way1, _, rfl, rfl, SqL.of ZD, pick4 (by omega), wl, _, _, rfl, rfl, (ZJ ntw).trans y3, ?_, ?_⟩
    · rw [List.length_map, List.length_map, List.length_range]
      exact ZP (by omega)
    · have ft : H t = none := y1.free nt ht
      refine ⟨(y1.put ft).put fwl, y2.keep ((ZJ (Ne.symm nwl)).trans (ZJ (Ne.symm nt))), ?_, _, _, _, rfl⟩
      rw [ZD, <- Yz, List.map_append]
      rfl
  · rintro σ H' ⟨y1, y2, y3, z1, z2, z3, rfl⟩
    rw [em] at y3
    refine ⟨_, rfl, q wl _ H' y1 y2 fwl nwl y3 (by simp) (wds_of z8 hat ?_ zc)⟩
    omega
end
end K4
namespace L2
open PySem PySem.Spec PyProof.Rows
mutual
def Dat.st : Dat -> Bool
  | .str _ => true
  | .tup ds => Dat.sts ds
  | _ => false
def Dat.sts : List Dat -> Bool
  | [] => true
  | d :: ds => d.st && Dat.sts ds
end
theorem Dat.sts_get : ∀ {ds : List Dat} {i : Nat} {d : Dat}, Dat.sts ds = true -> ds[i]? = some d -> d.st = true
  | [], i, d, _, e => by simp at e
  | a :: ds, 0, d, h, e => by
    have e' : some a = some d := e
    cases e'
    unfold Dat.sts at h
    exact (Bool.and_eq_true_iff.mp h).1
  | a :: ds, i + 1, d, h, e => by
    unfold Dat.sts at h
    exact Dat.sts_get (i := i) (Bool.and_eq_true_iff.mp h).2 e
theorem beqs_min : ∀ (as bs : List Dat), ((List.range (min as.length bs.length)).all (fun i => ((as[i]?).getD .non).beq ((bs[i]?).getD .non)) && as.length == bs.length) = Dat.beqs as bs
  | [], [] => by unfold Dat.beqs; rfl
  | [], _ :: _ => by unfold Dat.beqs; simp
  | _ :: _, [] => by unfold Dat.beqs; simp
  | a :: as, b :: bs => by
    have ih := beqs_min as bs
    have e : min (a :: as).length (b :: bs).length = min as.length bs.length + 1 := by simp only [List.length_cons]; omega
    rw [e, List.range_succ_eq_map, List.all_cons, List.all_map]
    unfold Dat.beqs
    rw [<- ih]
    have e2 : ((a :: as).length == (b :: bs).length) = (as.length == bs.length) := by simp
    rw [e2, Bool.and_assoc]
    rfl
theorem tup_at {P : Program} {w : World} {H : Hp} {s : Shared} (ok : HOk P w H s.heap) {a : Addr} {xs : List V} (h : H a = some (.tup xs)) : ∃ its : List Value, Vals xs its /\ s.heap.IsTuple a its.toArray := by
  obtain ⟨_, its, r, p⟩ := (show Z2 P w H s.heap a (.tup xs) from ok a _ h)
  exact ⟨its, r, p.is⟩
theorem eqAt_dat {P : Program} {w : World} {H : Hp} {s : Shared} (ok : HOk P w H s.heap) : ∀ (n : Nat) (d1 d2 : Dat) (A : Around) {x y : V} {u v : Value}, d1.dep <= n -> Has H x d1 -> Has H y d2 -> d1.st = true -> d2.st = true -> RelV x u -> RelV y v -> Room (n + 1) A -> SeqAt.EqAt A s u v (d1.beq d2)
  | n, d1, d2, A, x, y, u, v, hn, hx, hy, st1, st2, ru, rv, hr => by
    cases d1 with
    | str a =>
      unfold Has at hx
      subst hx
      obtain ⟨t, rfl⟩ := ru
      cases d2 with
      | str b =>
        unfold Has at hy
        subst hy
        obtain ⟨t', rfl⟩ := rv
        unfold Dat.beq
        exact SeqAt.EqAt.str_str _ _ _ _
      | tup es =>
        unfold Has at hy
        obtain ⟨p, ys, rfl, hp, _⟩ := hy
        cases rv
        obtain ⟨its, r, pt⟩ := tup_at ok hp
        unfold Dat.beq
        exact SeqAt.EqAt.str_tuple _ _ pt hr.units0
      | _ => unfold Dat.st at st2; cases st2
    | tup ds =>
      unfold Has at hx
      obtain ⟨p, xs, rfl, hp, hxs⟩ := hx
      cases ru
      obtain ⟨its, r, pt⟩ := tup_at ok hp
      cases d2 with
      | str b =>
        unfold Has at hy
        subst hy
        obtain ⟨t', rfl⟩ := rv
        unfold Dat.beq
        exact SeqAt.EqAt.tuple_str _ _ pt hr.units0
      | tup es =>
        have hy' := hy
        unfold Has at hy
        obtain ⟨p2, ys, rfl, hp2, hys⟩ := hy
        cases rv
        obtain ⟨its2, r2, pt2⟩ := tup_at ok hp2
        by_cases e : p = p2
        · subst e
          rw [hp] at hp2
          cases hp2
          rw [HasL.inj ds es hxs hys, Dat.beq_self]
          exact SeqAt.EqAt.same _
        · refine SeqAt.EqAt.of_refs e ?_
          have l1 := hxs.length
          have l2 := hys.length
          have l3 := r.length
          have l4 := r2.length
          have dd : Dat.deps ds + 1 <= n := by unfold Dat.dep at hn; omega
          obtain ⟨m, rfl⟩ : ∃ m, n = m + 1 := ⟨n - 1, by omega⟩
          have q := SeqAt.RcAt.tuples (A := A) (e := fun i => ((ds[i]?).getD .non).beq ((es[i]?).getD .non)) pt pt2 hr.units0 ?_
          · have k1 : its.toArray.size = ds.length := by rw [List.size_toArray]; omega
            have k2 : its2.toArray.size = es.length := by rw [List.size_toArray]; omega
            rw [k1, k2, beqs_min] at q
            rw [beq_tup]
            exact q
          · intro j h1 h2
            rw [List.size_toArray] at h1 h2
            have j1 : j < xs.length := by omega
            have j2 : j < ys.length := by omega
            obtain ⟨d, hd, hh⟩ := hxs.get (List.getElem?_eq_getElem j1)
            obtain ⟨d', hd', hh'⟩ := hys.get (List.getElem?_eq_getElem j2)
            obtain ⟨u1, hu1, ru1⟩ := r.get (List.getElem?_eq_getElem j1)
            obtain ⟨u2, hu2, ru2⟩ := r2.get (List.getElem?_eq_getElem j2)
            have i1 : its.toArray[j] = u1 := by
              have z := (List.getElem?_eq_some_iff.mp hu1).2
              simpa using z
            have i2 : its2.toArray[j] = u2 := by
              have z := (List.getElem?_eq_some_iff.mp hu2).2
              simpa using z
            rw [i1, i2, hd, hd']
            have c1 := Dat.deps_get hd
            unfold Dat.st at st1 st2
            exact eqAt_dat ok m d d' A.in1 (by omega) hh hh' (Dat.sts_get st1 hd) (Dat.sts_get st2 hd') ru1 ru2 hr.in1
      | _ => unfold Dat.st at st2; cases st2
    | _ => unfold Dat.st at st1; cases st1
  termination_by n => n
def rInD (K : PySem.W.Frag) : R2 := fun x y H Q => ∃ (p : Addr) (xs : List V) (ds : List Dat) (d : Dat), y = .ref p /\ SqL K H p xs /\ HasL H xs ds /\ Has H x d /\ Dat.sts ds = true /\ d.st = true /\ Dat.deps ds <= 4 /\ Q (.bl (ds.any fun e => e.beq d)) H
theorem Je {H : Hp} {d : Dat} : ∀ {xs : List V} {us : List Value} {ds : List Dat} (e : Value -> Bool), Vals xs us -> HasL H xs ds -> (∀ (i : Nat) (u : Value) (c : Dat), us[i]? = some u -> ds[i]? = some c -> e u = c.beq d) -> us.any e = ds.any fun c => c.beq d
  | [], _, ds, e, r, h, _ => by
    cases r
    cases ds with
    | nil => rfl
    | cons _ _ => unfold HasL at h; exact h.elim
  | x :: xs, _, ds, e, r, h, hz => by
    cases r with
    | cons r1 r2 =>
      cases ds with
      | nil => unfold HasL at h; exact h.elim
      | cons c ds =>
        unfold HasL at h
        rw [List.any_cons, List.any_cons, hz 0 _ c rfl rfl, Je e r2 h.2 fun i u c' e1 e2 => hz (i + 1) u c' e1 e2]
theorem op_in_dat {X : Cx} {k : Nat} (hr : Room (k + 6) X.A) : OpR X (compareOp .In) (rInD X.K) := by
  intro pins s σ H x y v u Q I rx ry h
  obtain ⟨p, xs, ds, d, rfl, hq, hl, hd, st1, st2, dp, q⟩ := h
  cases ry
  obtain ⟨its, r, pl, hz⟩ := I.list hq
  have hr5 : Room 5 X.A.in1 := (hr.mono (by omega : 6 <= k + 6)).in1
  -- what == tells of each item, by classical choice of its datum
  let e : Value -> Bool := fun u => @decide (∃ (i : Nat) (c : Dat), its[i]? = some u /\ ds[i]? = some c /\ c.beq d = true) (Classical.propDecidable _)
  have key : ∀ (i : Nat) (u : Value) (c : Dat), its[i]? = some u -> ds[i]? = some c -> ∀ (x1 : V), RelV x1 u -> Has H x1 c -> SeqAt.EqAt X.A.in1 s u v (c.beq d) := fun i u c e1 e2 x1 r1 h1 => by
    have := Dat.deps_get e2
    exact eqAt_dat I.hok 4 c d X.A.in1 (by omega) h1 hd (Dat.sts_get st1 e2) st2 r1 rx hr5
  have one : ∀ (i : Nat) (u : Value) (c : Dat), its[i]? = some u -> ds[i]? = some c -> e u = c.beq d := fun i u c e1 e2 => by
    have hi : i < its.length := (List.getElem?_eq_some_iff.mp e1).1
    have l := r.length
    obtain ⟨u1, hu1, ru1⟩ := r.get (List.getElem?_eq_getElem (show i < xs.length by omega))
    rw [e1] at hu1
    cases hu1
    obtain ⟨c1, hc1, hh1⟩ := hl.get (List.getElem?_eq_getElem (show i < xs.length by omega))
    rw [e2] at hc1
    cases hc1
    by_cases b : c.beq d = true
    · rw [b]
      exact @decide_eq_true _ (Classical.propDecidable _) ⟨i, c, e1, e2, b⟩
    · have b' : c.beq d = false := by simpa using b
      rw [b']
      refine @decide_eq_false _ (Classical.propDecidable _) ?_
      rintro ⟨j, c', f1, f2, f3⟩
      have hj : j < its.length := (List.getElem?_eq_some_iff.mp f1).1
      obtain ⟨u2, hu2, ru2⟩ := r.get (List.getElem?_eq_getElem (show j < xs.length by omega))
      rw [f1] at hu2
      cases hu2
      obtain ⟨c2, hc2, hh2⟩ := hl.get (List.getElem?_eq_getElem (show j < xs.length by omega))
      rw [f2] at hc2
      cases hc2
      have ev := RelV.inj ru1 ru2
      rw [ev] at hh1
      rw [Has.inj c c' hh1 hh2, f3] at b'
      cases b'
  refine SeqAt.in_listAt e pl.isList (fun w hw => ?_) ⟨.bl _, H, I, rfl, ?_⟩
  · obtain ⟨i, hi, ei⟩ := List.mem_iff_getElem.mp (show w ∈ its by simpa using hw)
    have l := r.length
    obtain ⟨u1, hu1, ru1⟩ := r.get (List.getElem?_eq_getElem (show i < xs.length by omega))
    have e1 : its[i]? = some w := by rw [List.getElem?_eq_getElem hi, ei]
    rw [e1] at hu1
    cases hu1
    obtain ⟨c1, hc1, hh1⟩ := hl.get (List.getElem?_eq_getElem (show i < xs.length by omega))
    rw [one i w c1 e1 hc1]
    exact key i w c1 e1 hc1 _ ru1 hh1
  · rw [show its.toArray.any e = its.any e by simp, Je e r hl one]
    exact q
inductive Shp where
  | tags (ts : List Str)
  | pair (a b : Str)
def Shp.dat : Shp -> Dat
  | .tags ts => .tup [.str "tags", .tup (ts.map Dat.str)]
  | .pair a b => .tup [.str "pair", .str a, .str b]
theorem strs_sts : ∀ ts : List Str, Dat.sts (ts.map Dat.str) = true
  | [] => by unfold Dat.sts; rfl
  | t :: ts => by rw [List.map_cons]; unfold Dat.sts; rw [strs_sts ts]; unfold Dat.st; rfl
theorem strs_deps : ∀ ts : List Str, Dat.deps (ts.map Dat.str) = 0
  | [] => by unfold Dat.deps; rfl
  | t :: ts => by rw [List.map_cons]; unfold Dat.deps; rw [strs_deps ts]; unfold Dat.dep; rfl
theorem Shp.st : ∀ s : Shp, s.dat.st = true
  | .tags ts => by simp [Shp.dat, Dat.st, Dat.sts, strs_sts]
  | .pair a b => by simp [Shp.dat, Dat.st, Dat.sts]
theorem Shp.dep : ∀ s : Shp, s.dat.dep <= 2
  | .tags ts => by simp [Shp.dat, Dat.dep, Dat.deps, strs_deps]
  | .pair a b => by simp [Shp.dat, Dat.dep, Dat.deps]
theorem shps_sts : ∀ ss : List Shp, Dat.sts (ss.map Shp.dat) = true
  | [] => by unfold Dat.sts; rfl
  | t :: ts => by rw [List.map_cons]; unfold Dat.sts; rw [shps_sts ts, Shp.st]; rfl
theorem shps_deps : ∀ ss : List Shp, Dat.deps (ss.map Shp.dat) <= 2
  | [] => by unfold Dat.deps; decide
  | t :: ts => by rw [List.map_cons]; unfold Dat.deps; exact Nat.max_le.mpr ⟨Shp.dep t, shps_deps ts⟩
theorem Zw {H : Hp} {p a : Addr} {xs : List V} (s : Zu H p) (h : H a = some (.tup xs)) : a ≠ p := fun e => by
  obtain ⟨_, _, _, _, q⟩ := s
  rw [<- e, h] at q; cases q
mutual
theorem has_sb {H H' : Hp} {p : Addr} (b : SameB p H H') (s : Zu H p) : ∀ (d : Dat) {v : V}, d.st = true -> Has H v d -> Has H' v d
  | .str _, _, _, h => by unfold Has at h ⊢; exact h
  | .tup ds, _, t, h => by
    unfold Has at h ⊢
    obtain ⟨a, xs, h1, h2, h3⟩ := h
    unfold Dat.st at t
    exact ⟨a, xs, h1, b _ _ (Zw s h2) h2, hasL_sb' b s ds t h3⟩
  | .non, _, t, _ => by unfold Dat.st at t; cases t
  | .bl _, _, t, _ => by unfold Dat.st at t; cases t
  | .int _, _, t, _ => by unfold Dat.st at t; cases t
  | .lst _, _, t, _ => by unfold Dat.st at t; cases t
theorem hasL_sb' {H H' : Hp} {p : Addr} (b : SameB p H H') (s : Zu H p) : ∀ (ds : List Dat) {xs : List V}, Dat.sts ds = true -> HasL H xs ds -> HasL H' xs ds
  | [], [], _, h => HasL.nil
  | [], _ :: _, _, h => by unfold HasL at h; exact h.elim
  | _ :: _, [], _, h => by unfold HasL at h; exact h.elim
  | d :: ds, x :: xs, t, h => by
    unfold HasL at h
    unfold Dat.sts at t
    have t' := Bool.and_eq_true_iff.mp t
    exact HasL.cons (has_sb b s d t'.1 h.1) (hasL_sb' b s ds t'.2 h.2)
end
theorem hasL_sb {H H' : Hp} {p : Addr} {ss : List Shp} {xs : List V} (b : SameB p H H') (s : Zu H p) (h : HasL H xs (ss.map Shp.dat)) : HasL H' xs (ss.map Shp.dat) := hasL_sb' b s _ (shps_sts ss) h
def Nums (H : Hp) (d : Addr) (ys : List Str) (lo hi : Nat) : Prop := ∃ kvs, H d = some (.dK kvs) /\ kvs.length <= ys.length /\ ∀ y ∈ ys, ∃ n : Nat, YE kvs (Sum.inr y) = some (.int n) /\ lo <= n /\ n <= hi
end L2
namespace K4
open PySem L2
theorem scSmall : FnScope ["stream", "many"] ["stream", "many"] (ZN JI) := ⟨rfl, rfl, rfl, by decide +kernel, rfl, by decide +kernel, by decide +kernel⟩
theorem scPair : FnScope ["stream", "names", "counts", "depths", "taken", "top", "one", "other", "deep"] ["stream", "names", "counts", "depths", "taken", "top"] (ZN sPair) := ⟨rfl, rfl, rfl, by decide +kernel, rfl, by decide +kernel, by decide +kernel⟩
theorem small_abc : (Str.ofString "abcdefghijklmnopqrstuvwxyz") = alpha 97 := by decide +kernel
theorem great_abc : (Str.ofString "ABCDEFGHIJKLMNOPQRSTUVWXYZ") = alpha 65 := by decide +kernel
section
variable {P : Program} {w : World} {K : PySem.W.Frag} {mg : Str -> Option Value} {base : Heap} {f g : Addr} {fd gd : FuncData}
def V4 : Sp := fun vs H Q _ => ∃ (p : Addr) (many : Nat), vs = [.ref p, .int many] /\ Zu H p /\ many <= 8 /\
  ∀ (r : Addr) (ys : List Str) (H' : Hp), SameB p H H' -> Zu H' p -> H r = none -> r ≠ p -> H' r = some (.lst (ys.map V.str)) -> ys.length = many -> Wds 97 ys -> Q (.ref r) H'
theorem ok_small {n : Nat} (F : Fun K "_law_small" "_law_small" JI f fd) (G : FnOk P w K mg base CX0 n g gd ["stream", "many", "letters", "ways"] Jn) (bG : Binds K gd ["stream", "many", "letters", "ways"] []) (kG : PySem.W.keepIn K (.ref g) = true) (mG : mg "_law_words" = some (.ref g)) :
    FnOk P w K mg base CX0 (n + 1) f fd ["stream", "many"] V4 := by
  refine F.ok scSmall (fun vs H Q E h => ?_) (fun cdv A outer s H vs Q E hr h => ?_)
  · obtain ⟨p, many, rfl, _⟩ := h
    rfl
  obtain ⟨p, many, rfl, hs, hm, q⟩ := h
  refine ⟨_, ZL (ZW (ZK G hr rfl mG kG bG .nil ZU (ZA (pv 0) (ZA (pv 1) (ZA ZX (ZA ZH ZF)))))), ?_⟩
  refine ⟨_, rfl, _, rfl, p, many, 97, 4, ?_, hs, .inl rfl, by decide, .inr ⟨by decide, hm⟩, q⟩
  rw [<- small_abc]; rfl
def spPair (K : PySem.W.Frag) : Sp := fun vs H Q _ => ∃ (p nm cn dp tk : Addr) (top : Nat) (ys : List Str) (ss : List Shp), vs = [.ref p, .ref nm, .ref cn, .ref dp, .ref tk, .int top] /\ Zu H p /\ H nm = some (.lst (ys.map V.str)) /\ 0 < ys.length /\ ys.length <= 8 /\
  Nums H cn ys 0 1000 /\ Nums H dp ys 0 1000 /\ Has H (.ref tk) (.lst (ss.map Shp.dat)) /\ nm ≠ p /\ cn ≠ p /\ dp ≠ p /\ tk ≠ p /\
  ∀ (v : V) (H' : Hp), SameB p H H' -> Zu H' p -> (v = .non ∨ ∃ (a b : Str) (r : Addr) (ca cb da db : Nat), a ∈ ys /\ b ∈ ys /\ v = .ref r /\ H r = none /\ H' r = some (.tup [.str "pair", .str a, .str b]) /\
    (∀ kvs, H cn = some (.dK kvs) -> YE kvs (Sum.inr a) = some (.int ca) /\ YE kvs (Sum.inr b) = some (.int cb)) /\ (∀ kvs, H dp = some (.dK kvs) -> YE kvs (Sum.inr a) = some (.int da) /\ YE kvs (Sum.inr b) = some (.int db)) /\
    1 + max da db <= 2 /\ 1 + ca * cb <= top /\ Shp.pair a b ∉ ss) -> Q v H'
theorem ok_pair {n : Nat} (B : Blt mg) (F : Fun K "_law_pair" "_law_pair" sPair f fd) (G : FnOk P w K mg base CX0 (n + 6) g gd ["stream", "many"] YK) (bG : Binds K gd ["stream", "many"] []) (kG : PySem.W.keepIn K (.ref g) = true) (mG : mg "_law_take" = some (.ref g)) :
    FnOk P w K mg base CX0 (n + 6 + 1) f fd ["stream", "names", "counts", "depths", "taken", "top"] (spPair K) := by
  refine F.ok scPair (fun vs H Q E h => ?_) (fun cdv A outer s H vs Q E hr h => ?_)
  · obtain ⟨p, nm, cn, dp, tk, top, ys, ss, rfl, _⟩ := h
    rfl
  obtain ⟨p, nm, cn, dp, tk, top, ys, ss, rfl, hs, hn, y0, y8, hc, hd, ht, n1, n2, n3, n4, q⟩ := h
  have hu := Vb hr
  refine ⟨_, ZG (ZT (i := 6) scPair.nd rfl (Or.inl rfl) (ZV Zj (pv 1) (ZK G hr rfl mG kG bG .nil ZU (ZA (pv 0) (ZA (Zi Zf rfl B.len PySem.boot_len (ZA (pv 1) ZF)) ZF))) (fun _ _ => rfl)))
    (ZG (ZT (i := 7) scPair.nd rfl (Or.inl rfl) (ZV Zj (pv 1) (ZK G hr rfl mG kG bG .nil ZU (ZA (pv 0) (ZA (Zi Zf rfl B.len PySem.boot_len (ZA (pv 1) ZF)) ZF))) (fun _ _ => rfl)))
    (ZG (ZT (i := 8) scPair.nd rfl (Or.inl rfl) (Zc YB ZH (Zi (JQ rfl) rfl B.max JS (ZA (Zg hu (pv 3) (pv 6) (fun _ _ => rfl)) (ZA (Zg hu (pv 3) (pv 7) (fun _ _ => rfl)) ZF)))))
    (ZG (Zt (PW.pt (V9 (ZY JZ (pv 8) ZH (Zd _)) (V9 (ZY JZ (Zc YB ZH (Zc YT (Zg hu (pv 2) (pv 6) (fun _ _ => rfl)) (Zg hu (pv 2) (pv 7) (fun _ _ => rfl)))) (pv 5) (Zd _))
        (Vt (ZY (op_in_dat hr) (Zn (ZA ZX (ZA (pv 6) (ZA (pv 7) ZF)))) (pv 4) rfl))))) (ZL (ZW pe_non)) Zb)
    (ZL (ZW (Zn (ZA ZX (ZA (pv 6) (ZA (pv 7) ZF))))))))), ?_⟩
  have ln : (ys.map V.str).length = ys.length := List.length_map _
  have at_of : ∀ r : Int, 0 <= r -> r < ((ys.map V.str).length : Nat) -> ∃ a, a ∈ ys /\ atI (ys.map V.str) r = some (.str a) := fun r r0 r1 => by
    obtain ⟨m, rfl⟩ : ∃ m : Nat, r = m := ⟨r.toNat, by omega⟩
    have hm : m < ys.length := by omega
    exact ⟨ys[m], List.getElem_mem hm, ZQ (by rw [List.getElem?_map, List.getElem?_eq_getElem hm]; rfl)⟩
  refine ⟨_, rfl, _, rfl, _, rfl, nm, _, rfl, .inl (SqL.of hn), p, _, rfl, hs, by omega, by omega, fun r1 H1 r10 r11 b1 s1 => ?_⟩
  obtain ⟨a, ha, ea⟩ := at_of r1 r10 r11
  have hn1 : H1 nm = some (.lst (ys.map V.str)) := (b1 nm n1).trans hn
  refine ⟨nm, _, r1, _, rfl, rfl, SqL.of hn1, ea, ?_⟩
  refine ⟨_, rfl, _, rfl, _, rfl, nm, _, rfl, .inl (SqL.of hn1), p, _, rfl, s1, by omega, by omega, fun r2 H2 r20 r21 b2 s2 => ?_⟩
  obtain ⟨b, hb, eb⟩ := at_of r2 r20 r21
  have hn2 : H2 nm = some (.lst (ys.map V.str)) := (b2 nm n1).trans hn1
  refine ⟨nm, _, r2, _, rfl, rfl, SqL.of hn2, eb, ?_⟩
  have bb : SameB p H H2 := b1.sb.trans b2.sb
  obtain ⟨kc, hkc, _, fc⟩ := hc
  obtain ⟨kd, hkd, _, fd'⟩ := hd
  obtain ⟨ca, hca, _, ca1⟩ := fc a ha
  obtain ⟨cb, hcb, _, cb1⟩ := fc b hb
  obtain ⟨da, hda, _, da1⟩ := fd' a ha
  obtain ⟨db, hdb, _, db1⟩ := fd' b hb
  have kc2 := bb _ _ n2 hkc
  have kd2 := bb _ _ n3 hkd
  have gda : YY H2 dp (.str a) (some (.int da)) := by rw [<- hda]; exact YY.k (k := Sum.inr a) kd2
  have gdb : YY H2 dp (.str b) (some (.int db)) := by rw [<- hdb]; exact YY.k (k := Sum.inr b) kd2
  have gca : YY H2 cn (.str a) (some (.int ca)) := by rw [<- hca]; exact YY.k (k := Sum.inr a) kc2
  have gcb : YY H2 cn (.str b) (some (.int cb)) := by rw [<- hcb]; exact YY.k (k := Sum.inr b) kc2
  refine ⟨_, rfl, _, rfl, dp, _, rfl, gda, _, rfl, _, rfl, dp, _, rfl, gdb, _, _, rfl, _, _, rfl, rfl, ?_⟩
  have none_ok : Q .non H2 := q _ _ bb s2 (.inl rfl)
  refine ⟨_, rfl, _, _, rfl, rfl, _, rfl, ?_⟩
  refine YI (fun c1 => YQ rfl none_ok) (fun c1 => ?_)
  refine ⟨_, rfl, _, rfl, cn, _, rfl, gca, _, rfl, _, rfl, cn, _, rfl, gcb, _, _, rfl, rfl, .inl ⟨by omega, by omega⟩, _, _, rfl, rfl, _, rfl, _, _, rfl, rfl, _, rfl, ?_⟩
  refine YI (fun c2 => YQ rfl none_ok) (fun c2 => ?_)
  refine ⟨_, rfl, _, rfl, by show 3 <= sizeLine; decide, fun t ht' => ?_⟩
  have st := ZE ht' (.tup [.str "pair", .str a, .str b])
  have nt : t ≠ p := s2.ne ht'
  have ht2 : Has H2 (.ref tk) (.lst (ss.map Shp.dat)) := by
    obtain ⟨_, xs, er, hx, hl⟩ := YU ht
    cases er
    exact YG (bb _ _ n4 hx) (hasL_sb bb hs hl)
  obtain ⟨_, xs, er, hx, hl⟩ := YU (ht2.mono st)
  cases er
  have hd3 : Has (upd H2 t (.tup [.str "pair", .str a, .str b])) (.ref t) (Shp.pair a b).dat := by
    unfold Shp.dat Has
    refine ⟨t, _, rfl, ZD, HasL.cons ?_ (HasL.cons ?_ (HasL.cons ?_ HasL.nil))⟩ <;> (unfold Has; rfl)
  refine ⟨_, rfl, tk, xs, _, (Shp.pair a b).dat, rfl, SqL.of hx, hl, hd3, shps_sts ss, Shp.st _, by have := shps_deps ss; omega, _, rfl, ?_⟩
  refine YI (fun c3 => ?_) (fun c3 => ?_)
  · exact q _ _ (bb.trans st.sb) (s2.keep (ZJ (Ne.symm nt))) (.inl rfl)
  · refine ⟨_, rfl, _, rfl, by show 3 <= sizeLine; decide, fun t2 ht2' => ?_⟩
    have st2 := ZE ht2' (.tup [.str "pair", .str a, .str b])
    have s3 : Zu (upd H2 t (.tup [.str "pair", .str a, .str b])) p := s2.keep (ZJ (Ne.symm nt))
    have nt2 : t2 ≠ p := s3.ne ht2'
    refine q _ _ ((bb.trans st.sb).trans st2.sb) (s3.keep (ZJ (Ne.symm nt2))) (.inr ⟨a, b, t2, ca, cb, da, db, ha, hb, rfl, ((bb.trans st.sb).free nt2 ht2'), ZD, ?_, ?_, ?_, ?_, ?_⟩)
    · intro kvs e
      rw [hkc] at e
      cases e
      exact ⟨hca, hcb⟩
    · intro kvs e
      rw [hkd] at e
      cases e
      exact ⟨hda, hdb⟩
    · have c1' : ¬ ((2 : Int) < 1 + (if (db : Int) > da then (db : Int) else da)) := fun z => c1 (decide_eq_true z)
      split at c1' <;> omega
    · have c2' : ¬ ((top : Int) < 1 + (ca : Int) * cb) := fun z => c2 (decide_eq_true z)
      have e : ((ca * cb : Nat) : Int) = (ca : Int) * cb := by push_cast; rfl
      omega
    · intro hm
      exact c3 (List.any_eq_true.mpr ⟨_, List.mem_map.mpr ⟨_, hm, rfl⟩, Dat.beq_self _⟩)
end
end K4
namespace L2
open PySem
def TK (H H' : Hp) : Prop := ∀ b xs, H b = some (.tup xs) -> H' b = some (.tup xs)
theorem Same.tk {H H' : Hp} (a : Same H H') : TK H H' := fun b xs h => a b _ h
theorem SameB.tk {p : Addr} {H H' : Hp} (a : SameB p H H') (s : Zu H p) : TK H H' := fun b xs h => a b _ (Zw s h) h
mutual
theorem Z3 {H H' : Hp} (b : TK H H') : ∀ (d : Dat) {v : V}, d.st = true -> Has H v d -> Has H' v d
  | .str _, _, _, h => by unfold Has at h ⊢; exact h
  | .tup ds, _, t, h => by
    unfold Has at h ⊢
    obtain ⟨a, xs, h1, h2, h3⟩ := h
    unfold Dat.st at t
    exact ⟨a, xs, h1, b _ _ h2, Z5 b ds t h3⟩
  | .non, _, t, _ => by unfold Dat.st at t; cases t
  | .bl _, _, t, _ => by unfold Dat.st at t; cases t
  | .int _, _, t, _ => by unfold Dat.st at t; cases t
  | .lst _, _, t, _ => by unfold Dat.st at t; cases t
theorem Z5 {H H' : Hp} (b : TK H H') : ∀ (ds : List Dat) {xs : List V}, Dat.sts ds = true -> HasL H xs ds -> HasL H' xs ds
  | [], [], _, h => HasL.nil
  | [], _ :: _, _, h => by unfold HasL at h; exact h.elim
  | _ :: _, [], _, h => by unfold HasL at h; exact h.elim
  | d :: ds, x :: xs, t, h => by
    unfold HasL at h
    unfold Dat.sts at t
    have t' := Bool.and_eq_true_iff.mp t
    exact HasL.cons (Z3 b d t'.1 h.1) (Z5 b ds t'.2 h.2)
end
def VF (k : Str × Shp) : Dat := .tup [.str k.1, k.2.dat]
theorem YX : ∀ ks : List (Str × Shp), Dat.sts (ks.map VF) = true
  | [] => by unfold Dat.sts; rfl
  | k :: ks => by
    rw [List.map_cons]; unfold Dat.sts
    rw [YX ks]
    have e := Shp.st k.2
    simp [VF, Dat.st, Dat.sts, e]
def KK1 (top : Nat) (c d : Str -> Nat) (ahead : List Str) (y : Str) : Shp -> Prop
  | .tags ts => 1 <= ts.length /\ ts.length <= 4 /\ c y = 1 + ts.length /\ d y = 0 /\ ts.Nodup
  | .pair a b => a ∈ ahead /\ b ∈ ahead /\ c y = 1 + c a * c b /\ c y <= top /\ d y = 1 + max (d a) (d b) /\ d y <= 2
def KK (top : Nat) (c d : Str -> Nat) (ks : List (Str × Shp)) : Prop := ∀ (i : Nat) (y : Str) (s : Shp), ks[i]? = some (y, s) -> KK1 top c d ((ks.take i).map (·.1)) y s
theorem KK1.of {top : Nat} {c d c' d' : Str -> Nat} {ahead : List Str} {y : Str} {s : Shp} (h : KK1 top c d ahead y s) (ec : ∀ z, z ∈ ahead ∨ z = y -> c' z = c z) (ed : ∀ z, z ∈ ahead ∨ z = y -> d' z = d z) : KK1 top c' d' ahead y s := by
  cases s with
  | tags ts =>
    obtain ⟨h1, h2, h3, h4, h5⟩ := h
    exact ⟨h1, h2, (ec y (.inr rfl)).trans h3, (ed y (.inr rfl)).trans h4, h5⟩
  | pair a b =>
    obtain ⟨h1, h2, h3, h4, h5, h6⟩ := h
    refine ⟨h1, h2, ?_, ?_, ?_, ?_⟩
    · rw [ec y (.inr rfl), ec a (.inl h1), ec b (.inl h2)]; exact h3
    · rw [ec y (.inr rfl)]; exact h4
    · rw [ed y (.inr rfl), ed a (.inl h1), ed b (.inl h2)]; exact h5
    · rw [ed y (.inr rfl)]; exact h6
theorem KK.snoc {top : Nat} {c d : Str -> Nat} {ks : List (Str × Shp)} {y : Str} {s : Shp} {n m : Nat} (h : KK top c d ks) (nd : (ks.map (·.1) ++ [y]).Nodup)
    (h1 : KK1 top (fun z => if z = y then n else c z) (fun z => if z = y then m else d z) (ks.map (·.1)) y s) : KK top (fun z => if z = y then n else c z) (fun z => if z = y then m else d z) (ks ++ [(y, s)]) := by
  have ny : ∀ z ∈ ks.map (·.1), z ≠ y := fun z hz e => by
    have q := List.nodup_append.mp nd
    exact q.2.2 z hz y (by simp) e
  intro i y' s' e
  by_cases hi : i < ks.length
  · rw [List.getElem?_append_left hi] at e
    rw [List.take_append_of_le_length (Nat.le_of_lt hi)]
    have hm : y' ∈ ks.map (·.1) := List.mem_map.mpr ⟨(y', s'), List.mem_of_getElem? e, rfl⟩
    have inn : ∀ z, z ∈ (ks.take i).map (·.1) ∨ z = y' -> z ≠ y := fun z hz => by
      rcases hz with hz | hz
      · obtain ⟨k, hk, rfl⟩ := List.mem_map.mp hz
        exact ny _ (List.mem_map.mpr ⟨k, List.mem_of_mem_take hk, rfl⟩)
      · rw [hz]; exact ny _ hm
    exact (h i y' s' e).of (fun z hz => if_neg (inn z hz)) (fun z hz => if_neg (inn z hz))
  · have hl : i = ks.length := by
      have := (List.getElem?_eq_some_iff.mp e).1
      rw [List.length_append, List.length_singleton] at this
      omega
    subst hl
    rw [List.getElem?_append_right (Nat.le_refl _), Nat.sub_self] at e
    have e' : some (y, s) = some (y', s') := e
    cases e'
    rw [List.take_left]
    exact h1
structure KJ (H : Hp) (p nm tg cn dp kl : Addr) (top : Nat) (ys tgs : List Str) (i : Nat) (kc kd : List (Key × V)) (ks : List (Str × Shp)) (c d : Str -> Nat) (xs : List V) (H' : Hp) : Prop where
  sb : SameB p H H'
  st : Zu H' p
  nms : H' nm = some (.lst (ys.map V.str))
  tgS : H' tg = some (.lst (tgs.map V.str))
  cns : H' cn = some (.dK kc)
  dps : H' dp = some (.dK kd)
  kls : H' kl = some (.lst xs)
  lc : kc.length <= i
  ld : kd.length <= i
  vc : ∀ y ∈ ys.take i, YE kc (Sum.inr y) = some (.int (c y)) /\ c y <= 1000
  vd : ∀ y ∈ ys.take i, YE kd (Sum.inr y) = some (.int (d y)) /\ d y <= 1000
  nk : ks.map (·.1) = ys.take i
  kk : KK top c d ks
  hs : HasL H' xs (ks.map VF)
  tq : ∀ (i' : Nat) (y : Str) (ts : List Str), ks[i']? = some (y, .tags ts) -> ∃ r, r < 4 /\ ts = (tgs.drop (4 * i')).take (1 + r)
  pq : ∀ (i1 i2 : Nat) (y1 y2 a b : Str), ks[i1]? = some (y1, .pair a b) -> ks[i2]? = some (y2, .pair a b) -> i1 = i2
structure KG (ks : List (Str × Shp)) : Prop where
  nm : Wds 97 (ks.map (·.1))
  tg : ∃ tgs, Wds 65 tgs /\ ∀ (i' : Nat) (y : Str) (ts : List Str), ks[i']? = some (y, .tags ts) -> ∃ r, r < 4 /\ ts = (tgs.drop (4 * i')).take (1 + r)
  pr : ∀ (i1 i2 : Nat) (y1 y2 a b : Str), ks[i1]? = some (y1, .pair a b) -> ks[i2]? = some (y2, .pair a b) -> i1 = i2
structure KA (H : Hp) (p nm tg cn dp kl : Addr) : Prop where
  fn : H nm = none
  ft : H tg = none
  fc : H cn = none
  fd : H dp = none
  fk : H kl = none
  nmp : nm ≠ p
  tgp : tg ≠ p
  cnp : cn ≠ p
  dpp : dp ≠ p
  klp : kl ≠ p
  cd : cn ≠ dp
  nkl : nm ≠ kl
  tkl : tg ≠ kl
theorem take_snoc {α : Type} {l : List α} {i : Nat} {a : α} (h : l[i]? = some a) : l.take (i + 1) = l.take i ++ [a] := by
  have hi := (List.getElem?_eq_some_iff.mp h).1
  rw [List.take_succ_eq_append_getElem hi, (List.getElem?_eq_some_iff.mp h).2]
theorem KJ.step {H : Hp} {p nm tg cn dp kl t : Addr} {top : Nat} {ys tgs : List Str} {i : Nat} {kc kd : List (Key × V)} {ks : List (Str × Shp)} {c d : Str -> Nat} {xs : List V} {H1 : Hp} {y : Str} {s : Shp} {v : V} {n m : Nat}
    (j : KJ H p nm tg cn dp kl top ys tgs i kc kd ks c d xs H1) (a : KA H p nm tg cn dp kl) (nd : ys.Nodup) (hy : ys[i]? = some y) (hv : Has H1 v s.dat) (hn : n <= 1000) (hm : m <= 1000)
    (k1 : KK1 top (fun z => if z = y then n else c z) (fun z => if z = y then m else d z) (ks.map (·.1)) y s)
    (g1 : ∀ ts, s = .tags ts -> ∃ r, r < 4 /\ ts = (tgs.drop (4 * i)).take (1 + r)) (g2 : ∀ a b, s = .pair a b -> s ∉ ks.map (·.2))
    (ht : upd (upd H1 cn (.dK (putK kc (Sum.inr y) (.int n)))) dp (.dK (putK kd (Sum.inr y) (.int m))) t = none) :
    KJ H p nm tg cn dp kl top ys tgs (i + 1) (putK kc (Sum.inr y) (.int n)) (putK kd (Sum.inr y) (.int m)) (ks ++ [(y, s)]) (fun z => if z = y then n else c z) (fun z => if z = y then m else d z) (xs ++ [.ref t])
      (upd (upd (upd (upd H1 cn (.dK (putK kc (Sum.inr y) (.int n)))) dp (.dK (putK kd (Sum.inr y) (.int m)))) t (.tup [.str y, v])) kl (.lst (xs ++ [.ref t]))) := by
  have tc : t ≠ cn := fun e => by rw [e, ZJ a.cd, ZD] at ht; cases ht
  have td : t ≠ dp := fun e => by rw [e, ZD] at ht; cases ht
  have h1t : H1 t = none := by rw [ZJ td, ZJ tc] at ht; exact ht
  have ne1 : ∀ b o, H1 b = some o -> b ≠ t := fun b o e => ZO e h1t
  have kc1 : kl ≠ cn := VZ j.kls j.cns (fun z => nomatch z)
  have kd1 : kl ≠ dp := VZ j.kls j.dps (fun z => nomatch z)
  have klt := ne1 _ _ j.kls
  have at_ : ∀ b, b ≠ cn -> b ≠ dp -> b ≠ t -> b ≠ kl -> (upd (upd (upd (upd H1 cn (.dK (putK kc (Sum.inr y) (.int n)))) dp (.dK (putK kd (Sum.inr y) (.int m)))) t (.tup [.str y, v])) kl (.lst (xs ++ [.ref t]))) b = H1 b := fun b b1 b2 b3 b4 => by
    rw [ZJ b4, ZJ b3, ZJ b2, ZJ b1]
  have tk : TK H1 (upd (upd (upd (upd H1 cn (.dK (putK kc (Sum.inr y) (.int n)))) dp (.dK (putK kd (Sum.inr y) (.int m)))) t (.tup [.str y, v])) kl (.lst (xs ++ [.ref t]))) := fun b zs e =>
    (at_ b (VZ e j.cns (fun z => nomatch z)) (VZ e j.dps (fun z => nomatch z)) (ne1 _ _ e) (VZ e j.kls (fun z => nomatch z))).trans e
  have nm1 : nm ≠ cn := VZ j.nms j.cns (fun z => nomatch z)
  have nm2 : nm ≠ dp := VZ j.nms j.dps (fun z => nomatch z)
  have tg1 : tg ≠ cn := VZ j.tgS j.cns (fun z => nomatch z)
  have tg2 : tg ≠ dp := VZ j.tgS j.dps (fun z => nomatch z)
  have tp : t ≠ p := j.st.ne h1t
  have yn : ∀ z ∈ ys.take i, z ≠ y := fun z hz e => by
    have q : (ys.take i ++ [y]).Nodup := by rw [<- take_snoc hy]; exact nd.sublist (List.take_sublist _ _)
    exact (List.nodup_append.mp q).2.2 z hz y (by simp) e
  have lk : ks.length = i := by
    have z1 := congrArg List.length j.nk
    have z2 := (List.getElem?_eq_some_iff.mp hy).1
    rw [List.length_map, List.length_take] at z1
    omega
  have new : ∀ (i' : Nat) (y' : Str) (s' : Shp), (ks ++ [(y, s)])[i']? = some (y', s') -> ks[i']? = some (y', s') ∨ (i' = i /\ s' = s) := fun i' y' s' e => by
    by_cases hi : i' < ks.length
    · rw [List.getElem?_append_left hi] at e; exact .inl e
    · have hl : i' = ks.length := by
        have z := (List.getElem?_eq_some_iff.mp e).1
        rw [List.length_append, List.length_singleton] at z
        omega
      subst hl
      rw [List.getElem?_append_right (Nat.le_refl _), Nat.sub_self] at e
      have e' : some (y, s) = some (y', s') := e
      cases e'
      exact .inr ⟨lk, rfl⟩
  refine ⟨fun b o hb e => ?_, ?_, ?_, ?_, ?_, ?_, ZD, ?_, ?_, ?_, ?_, ?_, ?_, ?_, fun i' y' ts e => ?_, fun i1 i2 y1 y2 a' b' e1 e2 => ?_⟩
  · have e1 := j.sb b o hb e
    exact (at_ b (ZO e a.fc) (ZO e a.fd) (ne1 _ _ e1) (ZO e a.fk)).trans e1
  · exact j.st.keep (at_ p (Ne.symm a.cnp) (Ne.symm a.dpp) (Ne.symm tp) (Ne.symm a.klp))
  · exact (at_ nm nm1 nm2 (ne1 _ _ j.nms) a.nkl).trans j.nms
  · exact (at_ tg tg1 tg2 (ne1 _ _ j.tgS) a.tkl).trans j.tgS
  · rw [ZJ (Ne.symm kc1), ZJ (Ne.symm tc), ZJ a.cd, ZD]
  · rw [ZJ (Ne.symm kd1), ZJ (Ne.symm td), ZD]
  · have := Yp kc (Sum.inr y) (.int n); have := j.lc; omega
  · have := Yp kd (Sum.inr y) (.int m); have := j.ld; omega
  · intro z hz
    rw [take_snoc hy] at hz
    rw [valV_put]
    rcases List.mem_append.mp hz with h | h
    · have e : ¬ (Sum.inr z : Key) = Sum.inr y := fun q => yn z h (by injection q)
      show (if (Sum.inr z : Key) = Sum.inr y then _ else _) = some (V.int ((if z = y then n else c z : Nat) : Int)) /\ (if z = y then n else c z) <= 1000
      rw [if_neg e, if_neg (yn z h)]
      exact j.vc z h
    · rw [List.mem_singleton.mp h]
      show (if (Sum.inr y : Key) = Sum.inr y then _ else _) = some (V.int ((if y = y then n else c y : Nat) : Int)) /\ (if y = y then n else c y) <= 1000
      rw [if_pos rfl, if_pos rfl]; exact ⟨rfl, hn⟩
  · intro z hz
    rw [take_snoc hy] at hz
    rw [valV_put]
    rcases List.mem_append.mp hz with h | h
    · have e : ¬ (Sum.inr z : Key) = Sum.inr y := fun q => yn z h (by injection q)
      show (if (Sum.inr z : Key) = Sum.inr y then _ else _) = some (V.int ((if z = y then m else d z : Nat) : Int)) /\ (if z = y then m else d z) <= 1000
      rw [if_neg e, if_neg (yn z h)]
      exact j.vd z h
    · rw [List.mem_singleton.mp h]
      show (if (Sum.inr y : Key) = Sum.inr y then _ else _) = some (V.int ((if y = y then m else d y : Nat) : Int)) /\ (if y = y then m else d y) <= 1000
      rw [if_pos rfl, if_pos rfl]; exact ⟨rfl, hm⟩
  · rw [List.map_append, j.nk, take_snoc hy]; rfl
  · exact j.kk.snoc (by rw [j.nk, <- take_snoc hy]; exact nd.sublist (List.take_sublist _ _)) k1
  · rw [List.map_append]
    refine HasL.append (Z5 tk _ (YX ks) j.hs) (HasL.one ?_)
    show Has _ (.ref t) (VF (y, s))
    unfold VF Has
    refine ⟨t, [.str y, v], rfl, ?_, HasL.cons (by unfold Has; rfl) (HasL.cons (Z3 tk _ (Shp.st s) hv) HasL.nil)⟩
    rw [ZJ (Ne.symm klt), ZD]
  · rcases new i' y' _ e with h | ⟨rfl, h⟩
    · exact j.tq i' y' ts h
    · exact g1 ts h.symm
  · have mem : ∀ (i' : Nat) (y' : Str) (s' : Shp), ks[i']? = some (y', s') -> s' ∈ ks.map (·.2) := fun i' y' s' e => List.mem_map.mpr ⟨(y', s'), List.mem_of_getElem? e, rfl⟩
    rcases new i1 y1 _ e1 with h1 | ⟨h1, h1'⟩
    · rcases new i2 y2 _ e2 with h2 | ⟨h2, h2'⟩
      · exact j.pq i1 i2 y1 y2 a' b' h1 h2
      · exact absurd (h2' ▸ mem i1 y1 _ h1) (g2 a' b' h2'.symm)
    · rcases new i2 y2 _ e2 with h2 | ⟨h2, h2'⟩
      · exact absurd (h1' ▸ mem i2 y2 _ h2) (g2 a' b' h1'.symm)
      · rw [h1, h2]
theorem asg_c {v : V} {k : Nat} {u : TS} {D : Ends} {σ : St} {H : Hp} (h : u D (σ.set k (some v)) H) : Jf (tAsg (tC v) (Y2 k)) u D σ H := h
theorem cut_take (xs : List V) (k : Nat) (h : k <= xs.length) : Yj xs none (some (k : Int)) = xs.take k := by
  unfold Yj
  rw [HT.sIx_none, HT.sIx_nat, List.drop_zero, Nat.sub_zero, Nat.min_eq_left h]
theorem cut_mid (xs : List V) (a b : Nat) (h1 : a <= b) (h : b <= xs.length) : Yj xs (some (a : Int)) (some (b : Int)) = (xs.drop a).take (b - a) := by
  unfold Yj
  rw [HT.sIx_nat, HT.sIx_nat, Nat.min_eq_left h, Nat.min_eq_left (Nat.le_trans h1 h)]
theorem strs_has {H : Hp} : ∀ ts : List Str, HasL H (ts.map V.str) (ts.map Dat.str)
  | [] => HasL.nil
  | t :: ts => HasL.cons (by unfold Has; rfl) (strs_has ts)
theorem has_kind {H : Hp} {x : V} {y : Str} {s : Shp} (h : Has H x (VF (y, s))) : ∃ a v, x = .ref a /\ H a = some (.tup [.str y, v]) /\ Has H v s.dat := by
  unfold VF Has at h
  obtain ⟨a, xs, rfl, ha, hl⟩ := h
  match xs, hl with
  | [u, v], hl =>
    unfold HasL at hl
    obtain ⟨h1, h2⟩ := hl
    unfold HasL at h2
    unfold Has at h1
    subst h1
    exact ⟨a, v, rfl, ha, h2.1⟩
  | [], hl => unfold HasL at hl; exact hl.elim
  | [x], hl => unfold HasL at hl; obtain ⟨_, h2⟩ := hl; unfold HasL at h2; exact h2.elim
  | _ :: _ :: _ :: _, hl => unfold HasL at hl; obtain ⟨_, h2⟩ := hl; unfold HasL at h2; obtain ⟨_, h3⟩ := h2; unfold HasL at h3; exact h3.elim
theorem VB {t u : TS} {D : Ends} {σ : St} {H : Hp} (Cond : St -> Hp -> Prop) (key : ∀ s1 H1, Cond s1 H1 -> u D s1 H1) (main : ∀ N : St -> Hp -> Prop, (∀ s1 H1, Cond s1 H1 -> N s1 H1) -> t { D with nx := N } σ H) : Jf t u D σ H := main _ key
theorem KJ.sameB {H : Hp} {p nm tg cn dp kl : Addr} {top : Nat} {ys tgs : List Str} {i : Nat} {kc kd : List (Key × V)} {ks : List (Str × Shp)} {c d : Str -> Nat} {xs : List V} {H1 H2 : Hp} (j : KJ H p nm tg cn dp kl top ys tgs i kc kd ks c d xs H1) (a : KA H p nm tg cn dp kl)
    (b : SameB p H1 H2) (s : Zu H2 p) : KJ H p nm tg cn dp kl top ys tgs i kc kd ks c d xs H2 :=
  ⟨j.sb.trans b, s, b _ _ a.nmp j.nms, b _ _ a.tgp j.tgS, b _ _ a.cnp j.cns, b _ _ a.dpp j.dps, b _ _ a.klp j.kls, j.lc, j.ld, j.vc, j.vd, j.nk, j.kk, Z5 (b.tk j.st) _ (YX ks) j.hs, j.tq, j.pq⟩
end L2
namespace K4
open PySem L2
theorem Yl : FnScope ["stream", "most", "top", "names", "tags", "counts", "depths", "kinds", "k", "shape"] ["stream", "most", "top"] (ZN JM) := ⟨rfl, rfl, rfl, by decide +kernel, rfl, by decide +kernel, by decide +kernel⟩
theorem nd_kind : List.Nodup [("kind" : Str)] := by decide +kernel
section
variable {P : Program} {w : World} {K : PySem.W.Frag} {mg : Str -> Option Value} {base : Heap} {f gt gs gw gp : Addr} {fd td sd wdd pd : FuncData}
def Ns (H : Hp) (cn : Addr) (ks : List (Str × Shp)) (c : Str -> Nat) : Prop := ∃ kc, H cn = some (.dK kc) /\ ∀ y ∈ ks.map (·.1), YE kc (Sum.inr y) = some (.int (c y : Nat))
def spKinds : Sp := fun vs H Q _ => ∃ (p : Addr) (most top : Nat), vs = [.ref p, .int most, .int top] /\ Zu H p /\ 0 < most /\ most <= 6 /\ top <= 1000 /\
  ∀ (r kl cn : Addr) (ks : List (Str × Shp)) (c d : Str -> Nat) (xs : List V) (H' : Hp), SameB p H H' -> Zu H' p -> H r = none -> r ≠ p -> H' r = some (.tup [.ref kl, .ref cn]) -> H kl = none -> kl ≠ p -> H' kl = some (.lst xs) -> HasL H' xs (ks.map VF) ->
    KK top c d ks -> (ks.map (·.1)).Nodup -> 0 < ks.length -> ks.length <= 6 -> KG ks -> H cn = none -> cn ≠ p -> Ns H' cn ks c -> Q (.ref r) H'
theorem ok_kinds {n : Nat} (B : Blt mg) (F : Fun K "_law_kinds" "_law_kinds" JM f fd)
    (GT : FnOk P w K mg base CX0 n gt td ["stream", "many"] YK) (bT : Binds K td ["stream", "many"] []) (kT : PySem.W.keepIn K (.ref gt) = true) (mT : mg "_law_take" = some (.ref gt))
    (GS : FnOk P w K mg base CX0 n gs sd ["stream", "many"] V4) (bS : Binds K sd ["stream", "many"] []) (kS : PySem.W.keepIn K (.ref gs) = true) (mS : mg "_law_small" = some (.ref gs))
    (GW : FnOk P w K mg base CX0 n gw wdd ["stream", "many", "letters", "ways"] Jn) (bW : Binds K wdd ["stream", "many", "letters", "ways"] []) (kW : PySem.W.keepIn K (.ref gw) = true) (mW : mg "_law_words" = some (.ref gw))
    (GP : FnOk P w K mg base CX0 n gp pd ["stream", "names", "counts", "depths", "taken", "top"] (spPair K)) (bP : Binds K pd ["stream", "names", "counts", "depths", "taken", "top"] []) (kP : PySem.W.keepIn K (.ref gp) = true) (mP : mg "_law_pair" = some (.ref gp)) :
    FnOk P w K mg base CX0 (n + 1) f fd ["stream", "most", "top"] spKinds := by
  refine F.ok Yl (fun vs H Q E h => ?_) (fun cdv A outer s H vs Q E hr h => ?_)
  · obtain ⟨p, most, top, rfl, _⟩ := h
    rfl
  obtain ⟨p, most, top, rfl, hs, m0, m6, t3, q⟩ := h
  have hu := Vb hr
  refine ⟨_, ZG (ZT (i := 3) Yl.nd rfl (Or.inl rfl) (ZK GS hr rfl mS kS bS .nil ZU (ZA (pv 0) (ZA (Zc YB ZH (ZK GT hr rfl mT kT bT .nil ZU (ZA (pv 0) (ZA (pv 1) ZF)))) ZF))))
    (ZG (ZT (i := 4) Yl.nd rfl (Or.inl rfl) (ZK GW hr rfl mW kW bW .nil ZU (ZA (pv 0) (ZA (Zc YT ZH (Zi Zf rfl B.len PySem.boot_len (ZA (pv 3) ZF))) (ZA ZX (ZA ZH ZF))))))
    (ZG (ZT (i := 5) Yl.nd rfl (Or.inl rfl) pe_dnewK)
    (ZG (ZT (i := 6) Yl.nd rfl (Or.inl rfl) pe_dnewK)
    (ZG (ZT (i := 7) Yl.nd rfl (Or.inl rfl) (YF ZF))
    (ZG (YS PassesOwn.never rfl (Yw rfl B.range (ZA (Zi Zf rfl B.len PySem.boot_len (ZA (pv 3) ZF)) ZF)) (Za (i := 8) Yl.nd rfl (Or.inl rfl))
      (ZG (ZT (i := 9) Yl.nd rfl (Or.inl rfl) pe_non)
      (ZG (Zt (PW.pt (Vu (ZY JZ (pv 8) ZH (Zd _)) (VM (ZY YA (ZK GT hr rfl mT kT bT .nil ZU (ZA (pv 0) (ZA ZH ZF))) ZH (Zd _)))))
        (ZL (ZT (i := 9) Yl.nd rfl (Or.inl rfl) (ZK GP hr rfl mP kP bP .nil ZU (ZA (pv 0) (ZA (Z8 sl_list (pv 3) YL (YC (pv 8))) (ZA (pv 5) (ZA (pv 6) (ZA
          (Yv ["kind"] [] (Y6 (pv 7)) (YR (i := 0) (by decide)) (fun cl C fp s H => Za (i := 0) nd_kind rfl (Or.inl rfl) (Or.inr rfl)) (fun cl C fp s H => ZV (r := rIxT K) Ze (pv 0) ZH (fun _ _ => rfl))) (ZA (pv 2) ZF))))))))) Zb)
      (ZG (Zt (ZY op_isN (pv 9) pe_non (Zd _))
        (ZG (ZT (i := 9) Yl.nd rfl (Or.inl rfl) (Zn (ZA ZX (ZA (Zs Zq rfl B.tuple Zp (ZA (Z8 sl_list (pv 4) (YC (Zc YT ZH (pv 8)))
            (YC (Zc YB (Zc YB (Zc YT ZH (pv 8)) ZH) (ZK GT hr rfl mT kT bT .nil ZU (ZA (pv 0) (ZA ZH ZF)))))) ZF)) ZF))))
          (ZG (Yu hu (pv 5) (ZV Zj (pv 3) (pv 8) (fun _ _ => rfl)) (Zc YB ZH (Zi Zf rfl B.len PySem.boot_len (ZA (ZV Ze (pv 9) ZH (fun _ _ => rfl)) ZF))) rfl)
          (ZL (Yu hu (pv 6) (ZV Zj (pv 3) (pv 8) (fun _ _ => rfl)) ZH rfl))))
        (ZG (Yu hu (pv 5) (ZV Zj (pv 3) (pv 8) (fun _ _ => rfl)) (Zc YB ZH (Zc YT (Zg hu (pv 5) (ZV Ze (pv 9) ZH (fun _ _ => rfl)) (fun _ _ => rfl)) (Zg hu (pv 5) (ZV Ze (pv 9) ZH (fun _ _ => rfl)) (fun _ _ => rfl)))) rfl)
          (ZL (Yu hu (pv 6) (ZV Zj (pv 3) (pv 8) (fun _ _ => rfl)) (Zc YB ZH (Zi (JQ rfl) rfl B.max JS (ZA (Zg hu (pv 6) (ZV Ze (pv 9) ZH (fun _ _ => rfl)) (fun _ _ => rfl)) (ZA (Zg hu (pv 6) (ZV Ze (pv 9) ZH (fun _ _ => rfl)) (fun _ _ => rfl)) ZF)))) rfl))))
      (ZL (Yn (VT PySem.F.plainAttrs_list PySem.F.slot_list_append PySem.F.type_list_append YW (pv 7) (ZA (Zn (ZA (ZV Zj (pv 3) (pv 8) (fun _ _ => rfl)) (ZA (pv 9) ZF))) ZF)))))))
    ) (ZL (ZW (Zn (ZA (pv 7) (ZA (pv 5) ZF)))))))))), ?_⟩
  refine ⟨_, rfl, _, rfl, _, rfl, p, most, rfl, hs, by omega, by omega, fun r H1 r0 r1 b1 s1 => ?_⟩
  obtain ⟨rn, rfl⟩ : ∃ m : Nat, r = m := ⟨r.toNat, by omega⟩
  refine ⟨_, _, rfl, rfl, p, 1 + rn, (by show [V.ref p, V.int (1 + (rn : Int))] = [V.ref p, V.int ((1 + rn : Nat) : Int)]; push_cast; rfl), s1, by omega, fun nm ys H2 b2 s2 f2 np2 hnm hly wds => ?_⟩
  have lm : (ys.map V.str).length = ys.length := List.length_map _
  refine ⟨_, rfl, _, rfl, nm, _, rfl, .inl (SqL.of hnm), _, _, rfl, rfl, .inl ⟨by decide, by decide⟩, p, 4 * ys.length, 65, 2,
    (by rw [<- great_abc, lm]; show [V.ref p, V.int (4 * (ys.length : Int)), _, V.int 2] = [V.ref p, V.int ((4 * ys.length : Nat) : Int), _, V.int 2]; push_cast; rfl), s2, .inr rfl, by decide, .inl ⟨by decide, by omega⟩, fun tg tgs H3 b3 s3 f3 np3 htg hlt wdt => ?_⟩
  intro cn hcn dp hdp
  refine ⟨by show 0 <= sizeLine; decide, fun kl hkl => ?_⟩
  have bH : SameB p H H3 := (b1.sb.trans b2).trans b3
  have hnm3 := b3 _ _ np2 hnm
  have cd : cn ≠ dp := fun e => by rw [<- e, ZD] at hdp; cases hdp
  have hdp3 : H3 dp = none := by rw [ZJ (Ne.symm cd)] at hdp; exact hdp
  have kcn : kl ≠ cn := fun e => by rw [e, ZJ cd, ZD] at hkl; cases hkl
  have kdp : kl ≠ dp := fun e => by rw [e, ZD] at hkl; cases hkl
  have hkl3 : H3 kl = none := by rw [ZJ kdp, ZJ kcn] at hkl; exact hkl
  have a : KA H p nm tg cn dp kl := ⟨b1.sb.free np2 f2, (b1.sb.trans b2).free np3 f3, bH.free (s3.ne hcn) hcn, bH.free (s3.ne hdp3) hdp3, bH.free (s3.ne hkl3) hkl3, np2, np3, s3.ne hcn, s3.ne hdp3, s3.ne hkl3, cd, ZO hnm3 hkl3, ZO htg hkl3⟩
  have nmc : nm ≠ cn := ZO hnm3 hcn
  have nmd : nm ≠ dp := ZO hnm3 hdp3
  have tgc : tg ≠ cn := ZO htg hcn
  have tgd : tg ≠ dp := ZO htg hdp3
  have hnm6 : upd (upd (upd H3 cn (.dK [])) dp (.dK [])) kl (.lst []) nm = some (.lst (ys.map V.str)) := by rw [ZJ a.nkl, ZJ nmd, ZJ nmc]; exact hnm3
  refine ⟨_, rfl, nm, _, rfl, .inl (SqL.of hnm6), _, rfl, by omega, by omega, ?_⟩
  refine Vd (n := (((ys.map V.str).length : Nat) : Int).toNat) (fun i σ H' => ∃ kc kd ks c d xs, KJ H p nm tg cn dp kl top ys tgs i kc kd ks c d xs H' /\
    ∃ z1 z2, σ = [some (.ref p), some (.int most), some (.int top), some (.ref nm), some (.ref tg), some (.ref cn), some (.ref dp), some (.ref kl), z1, z2]) ?_ ?_ ?_
  · refine ⟨[], [], [], fun _ => 0, fun _ => 0, [], ⟨?_, ?_, hnm6, ?_, ?_, ?_, ZD, Nat.le_refl _, Nat.le_refl _, fun y hy => by simp at hy, fun y hy => by simp at hy, rfl, fun i y s e => by simp at e, HasL.nil, fun i y s e => by simp at e, fun i j y z a b e => by simp at e⟩, _, _, rfl⟩
    · exact (((bH.put a.fc)).put a.fd).put a.fk
    · exact s3.keep (by rw [ZJ (Ne.symm a.klp), ZJ (Ne.symm a.dpp), ZJ (Ne.symm a.cnp)])
    · rw [ZJ a.tkl, ZJ tgd, ZJ tgc]; exact htg
    · rw [ZJ (Ne.symm kcn), ZJ cd, ZD]
    · rw [ZJ (Ne.symm kdp), ZD]
  · rintro BB RR i σ H' hi ⟨kc, kd, ks, c, d, xs, j, z1, z2, rfl⟩
    have hi' : i < ys.length := by omega
    obtain ⟨y, hy⟩ : ∃ y, ys[i]? = some y := ⟨ys[i], List.getElem?_eq_getElem hi'⟩
    have i0 : (0 + (i : Int)) = (i : Int) := by omega
    have aty : atI (ys.map V.str) (0 + (i : Int)) = some (.str y) := by rw [i0]; exact ZQ (by rw [List.getElem?_map, hy]; rfl)
    have ltop : i <= ys.length := Nat.le_of_lt hi'
    have ly8 : ys.length <= 6 := by omega
    refine asg_c ?_
    refine VB (fun s1 H1 => ∃ v, KJ H p nm tg cn dp kl top ys tgs i kc kd ks c d xs H1 /\ s1 = [some (.ref p), some (.int most), some (.int top), some (.ref nm), some (.ref tg), some (.ref cn), some (.ref dp), some (.ref kl), some (.int (0 + (i : Int))), some v] /\
      (v = .non ∨ ∃ (e g : Str) (r : Addr), v = .ref r /\ H1 r = some (.tup [.str "pair", .str e, .str g]) /\ e ∈ ys.take i /\ g ∈ ys.take i /\ 1 + max (d e) (d g) <= 2 /\ 1 + c e * c g <= top /\ Shp.pair e g ∉ ks.map (·.2))) ?_ ?_
    · rintro s1 H1 ⟨v, j1, rfl, hv⟩
      refine VB (fun s2 H2 => ∃ (H1 : Hp) (s : Shp) (v : V) (n m : Nat), KJ H p nm tg cn dp kl top ys tgs i kc kd ks c d xs H1 /\ Has H1 v s.dat /\ n <= 1000 /\ m <= 1000 /\
        KK1 top (fun z => if z = y then n else c z) (fun z => if z = y then m else d z) (ks.map (·.1)) y s /\ (∀ ts, s = .tags ts -> ∃ r, r < 4 /\ ts = (tgs.drop (4 * i)).take (1 + r)) /\ (∀ a b, s = .pair a b -> s ∉ ks.map (·.2)) /\ H2 = upd (upd H1 cn (.dK (putK kc (Sum.inr y) (.int n)))) dp (.dK (putK kd (Sum.inr y) (.int m))) /\
        s2 = [some (.ref p), some (.int most), some (.int top), some (.ref nm), some (.ref tg), some (.ref cn), some (.ref dp), some (.ref kl), some (.int (0 + (i : Int))), some v]) ?_ ?_
      · rintro s2 H2 ⟨H1, s, v, n', m', j1, hv, hn', hm', k1, g1, g2, rfl, rfl⟩
        have kc1 : kl ≠ cn := kcn
        have nm1 : nm ≠ cn := nmc
        have hk2 : upd (upd H1 cn (.dK (putK kc (Sum.inr y) (.int n')))) dp (.dK (putK kd (Sum.inr y) (.int m'))) kl = some (.lst xs) := by rw [ZJ kdp, ZJ kcn]; exact j1.kls
        have hn2 : upd (upd H1 cn (.dK (putK kc (Sum.inr y) (.int n')))) dp (.dK (putK kd (Sum.inr y) (.int m'))) nm = some (.lst (ys.map V.str)) := by rw [ZJ nmd, ZJ nmc]; exact j1.nms
        refine ⟨_, rfl, .inl ⟨rfl, _, SqL.of hk2⟩, _, rfl, _, rfl, nm, _, _, _, rfl, rfl, SqL.of hn2, aty, _, rfl, by show 2 <= sizeLine; decide, fun t ht => ?_⟩
        have ktt : kl ≠ t := ZO hk2 ht
        refine ⟨kl, xs, _, rfl, rfl, (ZJ ktt).trans hk2, ?_, _, _, _, _, _, _, j1.step a wds.nd hy hv hn' hm' k1 g1 g2 ht, _, _, rfl⟩
        have lx := j1.hs.length
        rw [List.length_map] at lx
        have lk : ks.length = i := by
          have := congrArg List.length j1.nk
          rw [List.length_map, List.length_take] at this
          omega
        exact ZP (by omega)
      · intro NX K2
        have ny : y ∉ ys.take i := fun hm => by
          have q' : (ys.take i ++ [y]).Nodup := by rw [<- take_snoc hy]; exact wds.nd.sublist (List.take_sublist _ _)
          exact (List.nodup_append.mp q').2.2 y hm y (by simp) rfl
        refine ⟨_, rfl, rfl, _, rfl, ?_⟩
        rcases hv with rfl | ⟨e, g, r, rfl, hr1, he, hg, hdeep, hcnt, hnew⟩
        · refine YQ rfl ?_
          refine ⟨_, rfl, _, rfl, _, _, rfl, rfl, .inl ⟨by decide, by decide⟩, _, rfl, _, rfl, _, _, rfl, rfl, .inl ⟨by decide, by decide⟩, _, _, rfl, rfl, _, rfl, p, 4, rfl, j1.st, by decide, by decide, fun r H2 r0 r1 b2 s2 => ?_⟩
          obtain ⟨rn, rfl⟩ : ∃ m : Nat, r = m := ⟨r.toNat, by omega⟩
          have j2 := j1.sameB a b2.sb s2
          refine ⟨_, _, rfl, rfl, _, rfl, tg, _, rfl, SqL.of j2.tgS, fun q1 hq1 => ⟨q1, _, rfl, .inl ⟨SqL.of ZD, fun l hl => ⟨by show 2 <= sizeLine; decide, fun t ht => ?_⟩⟩⟩⟩
          have e1 : (4 * (0 + (i : Int))) = ((4 * i : Nat) : Int) := by omega
          have e2 : (4 * (0 + (i : Int)) + 1 + (rn : Int)) = ((4 * i + 1 + rn : Nat) : Int) := by omega
          have lt : (tgs.map V.str).length = tgs.length := List.length_map _
          have ec : Yj (tgs.map V.str) (some (4 * (0 + (i : Int)))) (some (4 * (0 + (i : Int)) + 1 + (rn : Int))) = (((tgs.drop (4 * i)).take (1 + rn)).map V.str) := by
            rw [e2, e1, cut_mid _ _ _ (by omega) (by omega), List.map_take, List.map_drop]
            congr 1
            omega
          rw [ec] at hl ht ⊢
          generalize hts : (tgs.drop (4 * i)).take (1 + rn) = ts at hl ht ⊢
          have tnd : ts.Nodup := by rw [<- hts]; exact List.Pairwise.sublist ((List.take_sublist _ _).trans (List.drop_sublist _ _)) wdt.nd
          have lts : ts.length = 1 + rn := by rw [<- hts, List.length_take, List.length_drop]; omega
          have st1 := ZE hq1 (.lst (ts.map V.str))
          have st2 := ZE hl (.tup (ts.map V.str))
          have st3 := ZE ht (.tup [.str "tags", .ref l])
          have st := (st1.trans st2).trans st3
          have s5 : Zu (upd (upd (upd H2 q1 (.lst (ts.map V.str))) l (.tup (ts.map V.str))) t (.tup [.str "tags", .ref l])) p := by
            obtain ⟨a1, a2, a3, a4, a5⟩ := j2.st
            exact ⟨a1, a2, a3, a4, st _ _ a5⟩
          have j5 := j2.sameB a st.sb s5
          have hl5 := st3 _ _ (ZD (H := upd H2 q1 (.lst (ts.map V.str))) (a := l) (o := .tup (ts.map V.str)))
          generalize hH5 : upd (upd (upd H2 q1 (.lst (ts.map V.str))) l (.tup (ts.map V.str))) t (.tup [.str "tags", .ref l]) = H5 at j5 hl5 ⊢
          have ht5 : H5 t = some (.tup [.str "tags", .ref l]) := by rw [<- hH5, ZD]
          have en : (1 : Int) + (((ts.map V.str).length : Nat) : Int) = ((1 + ts.length : Nat) : Int) := by rw [List.length_map]; push_cast; rfl
          refine ⟨_, rfl, t, _, 1, _, rfl, rfl, SqT.of ht5, rfl, l, _, rfl, .inr (SqT.of hl5), _, _, rfl, rfl, ?_⟩
          dsimp only
          rw [en]
          have lc := j5.lc
          have ld := j5.ld
          refine ⟨_, rfl, _, rfl, _, rfl, nm, _, _, _, rfl, rfl, SqL.of j5.nms, aty, cn, _, rfl, JU.k (k := Sum.inr y) j5.cns (ZP (by omega)), ?_⟩
          refine ⟨_, rfl, _, rfl, _, rfl, nm, _, _, _, rfl, rfl, SqL.of ((ZJ nmc).trans j5.nms), aty, dp, _, rfl, JU.k (k := Sum.inr y) ((ZJ (Ne.symm cd)).trans j5.dps) (ZP (by omega)), ?_⟩
          refine K2 _ _ ⟨H5, .tags ts, .ref t, 1 + ts.length, 0, j5, ?_, by omega, by decide, ⟨by omega, by omega, if_pos rfl, if_pos rfl, tnd⟩, fun ts' e => ⟨rn, by omega, by cases e; exact hts.symm⟩, (fun _ _ e => nomatch e), rfl, rfl⟩
          unfold Shp.dat Has
          refine ⟨t, _, rfl, ht5, HasL.cons (by unfold Has; rfl) (HasL.cons ?_ HasL.nil)⟩
          unfold Has
          exact ⟨l, _, rfl, hl5, strs_has ts⟩
        · refine Zo (by simp) ?_
          have lc := j1.lc
          have ld := j1.ld
          obtain ⟨vce, ce1⟩ := j1.vc e he
          obtain ⟨vcg, cg1⟩ := j1.vc g hg
          obtain ⟨vde, de1⟩ := j1.vd e he
          obtain ⟨vdg, dg1⟩ := j1.vd g hg
          have gce : YY H1 cn (.str e) (some (.int (c e))) := by rw [<- vce]; exact YY.k (k := Sum.inr e) j1.cns
          have gcg : YY H1 cn (.str g) (some (.int (c g))) := by rw [<- vcg]; exact YY.k (k := Sum.inr g) j1.cns
          have en : (1 : Int) + (c e : Int) * (c g : Int) = ((1 + c e * c g : Nat) : Int) := by push_cast; rfl
          refine ⟨_, rfl, _, rfl, r, _, 1, _, rfl, rfl, SqT.of hr1, rfl, cn, _, rfl, gce, _, rfl, _, rfl, r, _, 2, _, rfl, rfl, SqT.of hr1, rfl, cn, _, rfl, gcg, _, _, rfl, rfl, .inl ⟨by omega, by omega⟩, _, _, rfl, rfl, ?_⟩
          dsimp only
          rw [en]
          refine ⟨_, rfl, _, rfl, _, rfl, nm, _, _, _, rfl, rfl, SqL.of j1.nms, aty, cn, _, rfl, JU.k (k := Sum.inr y) j1.cns (ZP (by omega)), ?_⟩
          have hr2 : upd H1 cn (.dK (putK kc (Sum.inr y) (.int ((1 + c e * c g : Nat) : Int)))) r = some (.tup [.str "pair", .str e, .str g]) := (ZJ (VZ hr1 j1.cns (fun z => nomatch z))).trans hr1
          have hd2 : upd H1 cn (.dK (putK kc (Sum.inr y) (.int ((1 + c e * c g : Nat) : Int)))) dp = some (.dK kd) := (ZJ (Ne.symm cd)).trans j1.dps
          have gde : YY (upd H1 cn (.dK (putK kc (Sum.inr y) (.int ((1 + c e * c g : Nat) : Int))))) dp (.str e) (some (.int (d e))) := by rw [<- vde]; exact YY.k (k := Sum.inr e) hd2
          have gdg : YY (upd H1 cn (.dK (putK kc (Sum.inr y) (.int ((1 + c e * c g : Nat) : Int))))) dp (.str g) (some (.int (d g))) := by rw [<- vdg]; exact YY.k (k := Sum.inr g) hd2
          have em : (1 : Int) + (if (d g : Int) > (d e : Int) then (d g : Int) else (d e : Int)) = ((1 + max (d e) (d g) : Nat) : Int) := by
            split <;> omega
          refine ⟨_, rfl, _, rfl, r, _, 1, _, rfl, rfl, SqT.of hr2, rfl, dp, _, rfl, gde, _, rfl, _, rfl, r, _, 2, _, rfl, rfl, SqT.of hr2, rfl, dp, _, rfl, gdg, _, _, rfl, _, _, rfl, rfl, ?_⟩
          dsimp only
          rw [em]
          refine ⟨_, rfl, _, rfl, _, rfl, nm, _, _, _, rfl, rfl, SqL.of ((ZJ nmc).trans j1.nms), aty, dp, _, rfl, JU.k (k := Sum.inr y) hd2 (ZP (by omega)), ?_⟩
          have ney : e ≠ y := fun z => ny (z ▸ he)
          have ngy : g ≠ y := fun z => ny (z ▸ hg)
          refine K2 _ _ ⟨H1, .pair e g, .ref r, 1 + c e * c g, 1 + max (d e) (d g), j1, ?_, by omega, by omega, ⟨by rw [j1.nk]; exact he, by rw [j1.nk]; exact hg, ?_, ?_, ?_, ?_⟩, (fun _ e => nomatch e), (fun _ _ _ => hnew), rfl, rfl⟩
          · unfold Shp.dat Has
            refine ⟨r, _, rfl, hr1, HasL.cons ?_ (HasL.cons ?_ (HasL.cons ?_ HasL.nil))⟩ <;> (unfold Has; rfl)
          · show (if y = y then _ else _) = 1 + (if e = y then _ else c e) * (if g = y then _ else c g)
            rw [if_pos rfl, if_neg ney, if_neg ngy]
          · show (if y = y then _ else _) <= top
            rw [if_pos rfl]; exact hcnt
          · show (if y = y then _ else _) = 1 + max (if e = y then _ else d e) (if g = y then _ else d g)
            rw [if_pos rfl, if_neg ney, if_neg ngy]
          · show (if y = y then _ else _) <= 2
            rw [if_pos rfl]; exact hdeep
    · intro NX K1
      refine ⟨_, rfl, _, _, rfl, rfl, _, rfl, ?_⟩
      refine YI (fun c0 => ?_) (fun c0 => ?_)
      · refine ⟨_, rfl, p, 2, rfl, j.st, by decide, by decide, fun r H1 r0 r1 b1 s1 => ?_⟩
        have j1 := j.sameB a b1.sb s1
        refine ⟨rfl, _, rfl, ?_⟩
        refine YI (fun c1 => ?_) (fun c1 => ?_)
        · have ec : Yj (ys.map V.str) none (some (0 + (i : Int))) = (ys.take i).map V.str := by
            rw [i0, cut_take _ _ (by omega), List.map_take]
          refine ⟨_, rfl, _, rfl, _, rfl, _, rfl, nm, _, rfl, SqL.of j1.nms, fun q1 hq1 => ?_⟩
          rw [ec]
          have sq := ZE hq1 (.lst ((ys.take i).map V.str))
          have q1p : q1 ≠ p := s1.ne hq1
          have jq := j1.sameB a sq.sb (s1.keep (ZJ (Ne.symm q1p)))
          have hq2 : upd H1 q1 (.lst ((ys.take i).map V.str)) q1 = some (.lst ((ys.take i).map V.str)) := ZD
          generalize upd H1 q1 (.lst ((ys.take i).map V.str)) = Hq at jq hq2
          have lx := jq.hs.length
          rw [List.length_map] at lx
          have lk : ks.length = i := by
            have := congrArg List.length jq.nk
            rw [List.length_map, List.length_take] at this
            omega
          refine ⟨_, rfl, _, rfl, _, rfl, kl, rfl, ⟨_, SqL.of jq.kls⟩, ?_⟩
          refine YJ xs.length (ZP (by omega)) (fun m vs H' => H' = Hq /\ vs.length = m /\ HasL Hq vs (((ks.map (·.2)).map Shp.dat).take m)) ⟨rfl, rfl, by rw [List.take_zero]; exact HasL.nil⟩ (fun m vs H' z => z.2.1) ?_ ?_ ?_ ?_
          · rintro m vs H' hm ⟨rfl, _⟩
            exact ⟨xs, xs[m], SqL.of jq.kls, by simp [hm]⟩
          · rintro vs H' ⟨rfl, _⟩
            exact ⟨xs, SqL.of jq.kls, Nat.le_refl _⟩
          · rintro m vs H' x H'' R hm ⟨rfl, z2, z3⟩ yl hR
            obtain ⟨rfl, y'⟩ := yl
            have e1 := y' xs (SqL.of jq.kls)
            obtain ⟨d1, hd1, hx1⟩ := jq.hs.get e1
            rw [List.getElem?_map] at hd1
            cases hk : ks[m]? with
            | none => rw [hk] at hd1; cases hd1
            | some ys1 =>
              rw [hk] at hd1
              obtain ⟨y1, s1'⟩ := ys1
              cases hd1
              obtain ⟨a1, v1, rfl, ha1, hv1⟩ := has_kind hx1
              refine ⟨_, rfl, a1, _, 1, _, rfl, rfl, SqT.of ha1, rfl, hR _ _ ⟨rfl, by rw [List.length_append, z2]; rfl, ?_⟩⟩
              have e2 : ((ks.map (·.2)).map Shp.dat)[m]? = some s1'.dat := by rw [List.getElem?_map, List.getElem?_map, hk]; rfl
              rw [take_snoc e2]
              exact HasL.append z3 (HasL.one hv1)
          · rintro vs H' tk ⟨rfl, z2, z3⟩ htk
            have z4 : HasL H' vs ((ks.map (·.2)).map Shp.dat) := by
              rw [List.take_of_length_le (by rw [List.length_map, List.length_map]; omega)] at z3
              exact z3
            have st' := ZE htk (.lst vs)
            have tkp : tk ≠ p := jq.st.ne htk
            have sc : Zu (upd H' tk (.lst vs)) p := jq.st.keep (ZJ (Ne.symm tkp))
            have jc := jq.sameB a st'.sb sc
            have hi0 : 0 < i := by
              have z : (0 : Int) < 0 + (i : Int) := of_decide_eq_true c0
              omega
            have lti : (ys.take i).length = i := by rw [List.length_take]; omega
            refine ⟨_, rfl, p, q1, cn, dp, tk, top, ys.take i, ks.map (·.2), rfl, sc, st' _ _ hq2, by omega, by omega, ⟨kc, jc.cns, by rw [lti]; exact jc.lc, fun z hz => ⟨c z, (jc.vc z hz).1, Nat.zero_le _, (jc.vc z hz).2⟩⟩,
              ⟨kd, jc.dps, by rw [lti]; exact jc.ld, fun z hz => ⟨d z, (jc.vd z hz).1, Nat.zero_le _, (jc.vd z hz).2⟩⟩, YG ZD (z4.mono st'), q1p, a.cnp, a.dpp, tkp, fun v H2 b2 s2 hv => ?_⟩
            refine K1 _ _ ⟨v, jc.sameB a b2 s2, rfl, ?_⟩
            rcases hv with hv | ⟨e, g, r', ca, cb, da, db, he, hg, rfl, _, hr2, hcc, hdd, h1, h2, h3⟩
            · exact .inl hv
            · refine .inr ⟨e, g, r', rfl, hr2, he, hg, ?_, ?_, h3⟩
              · obtain ⟨d1, d2⟩ := hdd kd jc.dps
                rw [(jc.vd e he).1] at d1
                rw [(jc.vd g hg).1] at d2
                injection d1 with d1
                injection d1 with d1
                injection d2 with d2
                injection d2 with d2
                have x1 : d e = da := by omega
                have x2 : d g = db := by omega
                rw [x1, x2]; exact h1
              · obtain ⟨d1, d2⟩ := hcc kc jc.cns
                rw [(jc.vc e he).1] at d1
                rw [(jc.vc g hg).1] at d2
                injection d1 with d1
                injection d1 with d1
                injection d2 with d2
                injection d2 with d2
                have x1 : c e = ca := by omega
                have x2 : c g = cb := by omega
                rw [x1, x2]; exact h2
        · exact K1 _ _ ⟨.non, j1, rfl, .inl rfl⟩
      · exact Zo (by simp) (K1 _ _ ⟨.non, j, rfl, .inl rfl⟩)
  · rintro σ H' ⟨kc, kd, ks, c, d, xs, j, z1, z2, rfl⟩
    have en : ((((ys.map V.str).length : Nat) : Int).toNat) = ys.length := by omega
    rw [en] at j
    refine ⟨_, rfl, _, rfl, by show 2 <= sizeLine; decide, fun t ht => ?_⟩
    have st := ZE ht (.tup [.ref kl, .ref cn])
    have tp := j.st.ne ht
    have nk := j.nk
    rw [List.take_length] at nk
    have lk : ks.length = ys.length := by rw [<- nk, List.length_map]
    exact q t kl cn ks c d xs _ (j.sb.trans st.sb) (j.st.keep (ZJ (Ne.symm tp))) (j.sb.free tp ht) tp ZD a.fk a.klp (st _ _ j.kls) (j.hs.mono st) j.kk (by rw [nk]; exact wds.nd) (by omega) (by omega) ⟨by rw [nk]; exact wds, ⟨tgs, wdt, j.tq⟩, j.pq⟩ a.fc a.cnp ⟨kc, st _ _ j.cns, fun y hy => (j.vc y (by rw [List.take_length, <- nk]; exact hy)).1⟩
end
end K4
namespace L2
open PySem
def Jg (ks : List (Str × Shp)) (y : Str) : Option Shp := (ks.find? fun k => decide (k.1 = y)).map (·.2)
theorem shOf_mem {ks : List (Str × Shp)} {y : Str} {s : Shp} (h : Jg ks y = some s) : (y, s) ∈ ks := by
  unfold Jg at h
  cases e : ks.find? fun k => decide (k.1 = y) with
  | none => rw [e] at h; cases h
  | some k =>
    rw [e] at h
    have h' : k.2 = s := Option.some.inj h
    have q := List.find?_some e
    have m := List.mem_of_find?_eq_some e
    have z : k.1 = y := of_decide_eq_true q
    rw [<- h', <- z]; exact m
theorem V6 {ks : List (Str × Shp)} {y : Str} (h : y ∈ ks.map (·.1)) : ∃ s, Jg ks y = some s := by
  obtain ⟨k, hk, rfl⟩ := List.mem_map.mp h
  unfold Jg
  cases e : ks.find? fun z => decide (z.1 = k.1) with
  | none =>
    have q := List.find?_eq_none.mp e k hk
    simp at q
  | some z => exact ⟨z.2, rfl⟩
theorem KK.at {top : Nat} {c d : Str -> Nat} {ks : List (Str × Shp)} (h : KK top c d ks) {y : Str} {s : Shp} (e : Jg ks y = some s) : KK1 top c d (ks.map (·.1)) y s := by
  obtain ⟨i, hi, ei⟩ := List.mem_iff_getElem.mp (shOf_mem e)
  have q := h i y s (by rw [List.getElem?_eq_getElem hi, ei])
  have sub : ∀ z, z ∈ (ks.take i).map (·.1) -> z ∈ ks.map (·.1) := fun z hz => by
    obtain ⟨k, hk, rfl⟩ := List.mem_map.mp hz
    exact List.mem_map.mpr ⟨k, List.mem_of_mem_take hk, rfl⟩
  cases s with
  | tags ts => exact q
  | pair a b => exact ⟨sub a q.1, sub b q.2.1, q.2.2⟩
theorem strs_vals {H : Hp} : ∀ {ts : List Str} {zs : List V}, HasL H zs (ts.map Dat.str) -> zs = ts.map V.str
  | [], [], _ => rfl
  | [], _ :: _, h => by rw [List.map_nil] at h; unfold HasL at h; exact h.elim
  | _ :: _, [], h => by rw [List.map_cons] at h; unfold HasL at h; exact h.elim
  | t :: ts, z :: zs, h => by
    rw [List.map_cons] at h
    unfold HasL at h
    obtain ⟨g1, g2⟩ := h
    unfold Has at g1
    rw [g1, strs_vals g2]; rfl
theorem Vc {H : Hp} {v : V} {ts : List Str} (h : Has H v (Shp.tags ts).dat) : ∃ p l, v = .ref p /\ H p = some (.tup [.str "tags", .ref l]) /\ H l = some (.tup (ts.map V.str)) := by
  unfold Shp.dat Has at h
  obtain ⟨p, xs, rfl, hp, hl⟩ := h
  match xs, hl with
  | [u, v], hl =>
    unfold HasL at hl
    obtain ⟨h1, h2⟩ := hl
    unfold HasL at h2
    unfold Has at h1
    subst h1
    have h3 := h2.1
    unfold Has at h3
    obtain ⟨l, zs, rfl, hz, hzl⟩ := h3
    have e : zs = ts.map V.str := strs_vals hzl
    rw [e] at hz
    exact ⟨p, l, rfl, hp, hz⟩
  | [], hl => unfold HasL at hl; exact hl.elim
  | [x], hl => unfold HasL at hl; obtain ⟨_, h2⟩ := hl; unfold HasL at h2; exact h2.elim
  | _ :: _ :: _ :: _, hl => unfold HasL at hl; obtain ⟨_, h2⟩ := hl; unfold HasL at h2; obtain ⟨_, h3⟩ := h2; unfold HasL at h3; exact h3.elim
theorem VP {H : Hp} {v : V} {a b : Str} (h : Has H v (Shp.pair a b).dat) : ∃ p, v = .ref p /\ H p = some (.tup [.str "pair", .str a, .str b]) := by
  unfold Shp.dat Has at h
  obtain ⟨p, xs, rfl, hp, hl⟩ := h
  match xs, hl with
  | [u, v, w], hl =>
    unfold HasL at hl
    obtain ⟨h1, h2⟩ := hl
    unfold HasL at h2
    obtain ⟨h2, h3⟩ := h2
    unfold HasL at h3
    have h3 := h3.1
    unfold Has at h1 h2 h3
    subst h1 h2 h3
    exact ⟨p, rfl, hp⟩
  | [], hl => unfold HasL at hl; exact hl.elim
  | [x], hl => unfold HasL at hl; obtain ⟨_, h2⟩ := hl; unfold HasL at h2; exact h2.elim
  | [x, y], hl => unfold HasL at hl; obtain ⟨_, h2⟩ := hl; unfold HasL at h2; obtain ⟨_, h3⟩ := h2; unfold HasL at h3; exact h3.elim
  | _ :: _ :: _ :: _ :: _, hl => unfold HasL at hl; obtain ⟨_, h2⟩ := hl; unfold HasL at h2; obtain ⟨_, h3⟩ := h2; unfold HasL at h3; obtain ⟨_, h4⟩ := h3; unfold HasL at h4; exact h4.elim
end L2
namespace L2
open PySem PySem.Spec PyProof.Rows
section
variable {X : Cx}
end
end L2
namespace L2
open PySem PySem.Spec PyProof.Rows
theorem Ve : plainId "dict.update.loop" = true := by decide +kernel
theorem dp_entry : entryFor table "dict.update.loop" = some Builtin.«dict.update.loop» := entryFor_of_fast (by kernel_rfl)
theorem dp_miss : typeLookup (.type "list") (Str.ofString "keys") = pure none := am_miss_of_fast (by decide +kernel)
section
variable {prog : Program} {w : World} {A : Around} {E : Value -> Shared -> Prop} {s : Shared}
theorem dp_keys {a : Addr} {its : Array Value} {Q : Option Value -> Shared -> Prop} (pl : PlainL s.heap a its) (hA : A.handled = none)
    (h : ∀ h' tk, (∀ b o, s.heap.get? b = some o -> h'.get? b = some o) -> Q none { s with heap := h', toks := tk }) :
    wpAny (model prog w) A (getAttr? (.ref a) (Str.ofString "keys")) Q E s := by
  obtain ⟨⟨c, dct, dat, sl⟩, k, hx, hc, hd, hdat⟩ := pl
  simp only at hc hdat hd
  subst hc hdat hd
  obtain ⟨h0, gs, dr, tk, os⟩ := s
  have sl' := F.slot_list_getattribute
  have lk' := sl'.lookup
  have bd' := sl'.bind (.ref a)
  have no' := am_list_getattr_none
  have ae' := sub_AttributeError
  have hT : ∀ n, (Shared.mk h0 gs dr n os).TypeIs (.ref a) "list" := fun n => ⟨_, hx, rfl⟩
  simp only [getAttr?, getAttrBy?, getAttrBy]
  repeat (any_goals (first | assumption | exact hT _ | ((with_reducible show wpAny _ _ (call (Value.builtin "list.__getattribute__") _ _) _ _ _); refine call_meets F.slot_list_getattribute (hT _) am_entry_list_getattribute (F.args_list_getattribute_2 _ _) (meets_getattribute_miss_list a its k sl (Str.ofString "keys") _ dp_miss (by decide +kernel) (by size_fits)) ⟨hx, hA, fun h' tk' e hx' => ?_⟩) | wp_step))
  have there := hx'.there
  obtain ⟨_, _, he⟩ := there
  refine (?_ : wpAny _ _ (getattributeRaised _ _ _ _ _ _ _) _ _ _)
  simp only [getattributeRaised]
  repeat any_goals first | assumption | wp_step
  exact h _ _ hx'.keeps
end
def DpAt {prog : Program} {w : World} (h₀ : Heap) (vs : List (Key × Value)) (i : Nat) (v : Value) : Prop :=
  ∃ a k ku vu, v = .ref a /\ vs[i]? = some (k, vu) /\ h₀.IsTuple a #[ku, vu] /\ (Zx prog w).is k ku = true
theorem dp_stored (vs : List (Key × Value)) (hn : (vs.map (·.1)).Nodup) {i : Nat} {k : Key} {u : Value} (e : vs[i]? = some (k, u)) : stored (vs.take i) k u = vs.take (i + 1) := by
  obtain ⟨hi, e'⟩ := List.getElem?_eq_some_iff.mp e
  have hno : (vs.take i).any (fun kv => decide (kv.1 = k)) = false := by
    rw [Bool.eq_false_iff]
    intro hany
    obtain ⟨kv, hm, hk⟩ := List.any_eq_true.mp hany
    have hk' : kv.1 = k := of_decide_eq_true hk
    obtain ⟨j, hj, ej⟩ := List.mem_iff_getElem.mp hm
    rw [List.length_take] at hj
    rw [List.getElem_take] at ej
    have hj' : j < (vs.map (·.1)).length := by rw [List.length_map]; omega
    have hi' : i < (vs.map (·.1)).length := by rw [List.length_map]; omega
    have q : (vs.map (·.1))[j] = (vs.map (·.1))[i] := by
      rw [List.getElem_map, List.getElem_map, ej, e', hk']
    exact List.pairwise_iff_getElem.mp hn j i hj' hi' (by omega) q
  unfold stored
  rw [hno, List.take_add_one, e]
  rfl
section
variable {prog : Program} {w : World} {A : Around} {P : Nat -> Value -> Prop} {St : Nat -> Heap -> Prop} {R : Result -> Shared -> Prop} {n : Nat} {I : Addr} {fp wr : List Addr}
theorem dp_loop (W : Walks prog w A.in1 I fp wr n P St) {h₀ : Heap} {vs : List (Key × Value)} (hlen : vs.length = n) (hsz : vs.length <= sizeLine) (hn : (vs.map (·.1)).Nodup)
    (hP : ∀ i v, P i v -> DpAt (prog := prog) (w := w) h₀ vs i v) (d : Addr) (hdf : d ∉ fp) (hw : ∀ b o, h₀.get? b = some o -> b ∉ wr /\ b ≠ d) (res : Value) :
    ∀ (k i : Nat) (s : Shared) (j : Int) (t : Tok), n - i = k -> i <= n -> St i s.heap -> s.heap.DictOf (Zx prog w) d (vs.take i) -> (∀ b o, h₀.get? b = some o -> s.heap.get? b = some o) ->
    (∀ h' tk, h'.DictOf (Zx prog w) d vs -> (∀ b o, b ∉ wr -> b ≠ d -> s.heap.get? b = some o -> h'.get? b = some o) -> R (.ok (.ret res)) { s with heap := h', toks := tk }) ->
    codeAny (model prog w) A (.builtin "dict.update.loop" ⟨[.ref d, .ref I, .int j t, res], []⟩) R s := by
  have hdw : d ∉ wr := fun h => hdf (W.sub _ h)
  intro k
  induction k with
  | zero =>
    intro i s j t hk hi hst hd h0 hR
    have hin : i = n := by omega
    subst hin
    refine codeAny_builtin dp_entry ?_
    rw [Around.under_plainId Ve _]
    refine wpAny_bind (m := pyNext (.ref I)) (W.done s _ _ hst fun h' tk hk' => wpAny_bind (wpAny_pure (wpAny_pure ?_)))
    refine hR h' tk ?_ fun b o hb _ e => hk' b o hb e
    rw [<- hlen, List.take_length] at hd
    obtain ⟨o, es, ep, ho, rest⟩ := hd
    exact ⟨o, es, ep, hk' d o hdw ho, rest⟩
  | succ k ih =>
    intro i s j t hk hi hst hd h0 hR
    have hlt : i < n := by omega
    refine codeAny_builtin dp_entry ?_
    rw [Around.under_plainId Ve _]
    refine wpAny_bind (m := pyNext (.ref I)) (W.item i s _ _ hlt hst fun v h' tk hPv hst' hk' => ?_)
    obtain ⟨a, key, ku, vu, rfl, ev, ht, hkey⟩ := hP i v hPv
    have h0' : ∀ b o, h₀.get? b = some o -> h'.get? b = some o := fun b o e => hk' b o (hw b o e).1 (h0 b o e)
    obtain ⟨o, ho, hc, m, hdat⟩ := ht
    have ho' := h0' a o ho
    have hT : ({ s with heap := h', toks := tk } : Shared).TypeIs (.ref a) "tuple" := ⟨o, ho', hc⟩
    refine wpAny_bind (wpAny_holding (wpAny_bind (wpAny_tryCatch ?_)))
    simp only [Builtin.Dict.pairItems]
    refine wpAny_bind (m := typeOf (.ref a)) (wpAny_typeOf hT ?_)
    rw [if_pos (by decide)]
    refine wpAny_bind (wpAny_seqItems ho' hdat (wpAny_pure ?_))
    show wpAny _ A.in1 (holding [ku, vu] (dictSet d ku vu)) _ _ _
    have hd' : Heap.DictOf (Zx prog w) h' d (vs.take i) := by
      obtain ⟨o1, es, ep, ho1, rest⟩ := hd
      exact ⟨o1, es, ep, hk' d o1 hdw ho1, rest⟩
    refine wpAny_holding (wpAny_dictSet_pairs (hsz := by rw [List.length_take]; omega) hkey hd' fun h2 hd2 hs2 => ?_)
    rw [dp_stored vs hn ev] at hd2
    refine wpAny_pure ⟨plainId_quiet Ve _, ih (i + 1) _ (j + 1) 0 (by omega) hlt (W.frame _ _ _ hst' fun b hb o e => ?_) hd2 (fun b o e => ?_) fun h3 tk3 hd3 hk3 => ?_⟩
    · exact (hs2.2 b (fun z => hdf (z ▸ hb))).trans e
    · exact (hs2.2 b (hw b o e).2).trans (h0' b o e)
    · refine hR h3 tk3 hd3 fun b o hb hbd e => hk3 b o hb hbd ((hs2.2 b hbd).trans (hk' b o hb e))
end
section
variable {X : Cx}
def PrsAt (K : PySem.W.Frag) (H : Hp) (ts : List Addr) (kvs : List (Key × V)) : Prop := ts.length = kvs.length /\ ∀ (i : Nat) (a : Addr) (k : Key) (y : V), ts[i]? = some a -> kvs[i]? = some (k, y) -> SqT K H a [kV k, y]
theorem prs_vals (h : Heap) : ∀ (ts : List Addr) (kvs : List (Key × V)), ts.length = kvs.length -> (∀ (i : Nat) (a : Addr) (k : Key) (y : V), ts[i]? = some a -> kvs[i]? = some (k, y) -> ∃ ku vu, h.IsTuple a #[ku, vu] /\ RelV (kV k) ku /\ RelV y vu) ->
    ∃ vs, KV kvs vs /\ ∀ (i : Nat) (a : Addr), ts[i]? = some a -> ∃ k ku vu, vs[i]? = some (k, vu) /\ h.IsTuple a #[ku, vu] /\ RelV (kV k) ku
  | [], [], _, _ => ⟨[], .nil, fun i a e => by simp at e⟩
  | [], _ :: _, e, _ => by simp at e
  | _ :: _, [], e, _ => by simp at e
  | t :: ts, kv :: kvs, e, hp => by
    obtain ⟨ku, vu, h1, h2, h3⟩ := hp 0 t kv.1 kv.2 rfl rfl
    obtain ⟨vs, r, hv⟩ := prs_vals h ts kvs (by simpa using e) fun i a k y e1 e2 => hp (i + 1) a k y e1 e2
    refine ⟨(kv.1, vu) :: vs, .cons ⟨rfl, h3⟩ r, fun i a ea => ?_⟩
    cases i with
    | zero =>
      have ea' : some t = some a := ea
      cases ea'
      exact ⟨kv.1, ku, vu, rfl, h1, h2⟩
    | succ i => exact hv i a ea
theorem Jj (hc : X.calm = true) : Yq X (.type "dict") (fun xs H Q => ∃ (p : Addr) (ts : List Addr) (kvs : List (Key × V)), xs = [.ref p] /\ SqL X.K H p (ts.map V.ref) /\ PrsAt X.K H ts kvs /\ (kvs.map (·.1)).Nodup /\ ∀ l, H l = none -> Q (.ref l) (upd H l (.dK kvs))) := by
  intro pins s σ H xs us Q I r h
  obtain ⟨p, ts, kvs, rfl, hq, hp, hn, q⟩ := h
  obtain ⟨u, rfl, ru⟩ := vals1 r
  cases ru
  obtain ⟨its, r', pl, hz⟩ := I.list hq
  rw [List.length_map] at hz
  have hlts : its.length = ts.length := by
    have := r'.length
    rw [List.length_map] at this
    exact this.symm
  have hat : ∀ (i : Nat) (a : Addr), ts[i]? = some a -> its[i]? = some (Value.ref a) := fun i a e => by
    obtain ⟨u, hu, ru⟩ := r'.get (show (ts.map V.ref)[i]? = some (V.ref a) by rw [List.getElem?_map, e]; rfl)
    rw [hu, show u = Value.ref a from ru]
  obtain ⟨vs, rel, hvs⟩ := prs_vals s.heap ts kvs hp.1 fun i a k y e1 e2 => by
    obtain ⟨its2, r2, p2, _⟩ := I.tuple (hp.2 i a k y e1 e2)
    cases r2 with
    | cons r1 t1 =>
      cases t1 with
      | cons r3 t3 =>
        cases t3
        exact ⟨_, _, p2, r1, r3⟩
  have hlv : vs.length = its.toArray.size := by rw [List.size_toArray, hlts, hp.1, <- rel.length]
  have hkeys : vs.map (·.1) = kvs.map (·.1) := by
    have all : ∀ {l : List (Key × V)} {m : List (Key × Value)}, KV l m -> m.map (·.1) = l.map (·.1) := by
      intro l m q
      induction q with
      | nil => rfl
      | cons hq t ih => rw [List.map_cons, List.map_cons, ih, hq.1]
    exact all rel
  have hpl : p < s.heap.objs.size := by
    obtain ⟨o, n, e, _⟩ := pl
    exact Heap.lt_size e
  refine callType_codes (Q₁ := fun ob t => ob = .ref s.heap.objs.size /\ t = { s with heap := s.heap.push { cls := .type "dict", data := .dict #[] } }) F.kt_called_dict (F.kt_typeCall_dict_1 _) F.entry_dict_init (kt_code_dict_new _ ⟨rfl, rfl⟩) fun ob t ht => ?_
  obtain ⟨rfl, rfl⟩ := ht
  have hnew : (s.heap.push { cls := .type "dict", data := .dict #[] }).DictOf (Zx X.prog X.w) s.heap.objs.size [] := Heap.DictOf.new s.heap
  have k0 : ∀ b o, s.heap.get? b = some o -> (s.heap.push { cls := .type "dict", data := .dict #[] }).get? b = some o := fun b o e => Heap.get?_push_of_some _ e
  refine And.intro hnew.typeIs (And.intro (F.args_dict_init_2 _ _) ?_)
  delta Builtin.«dict.__init__» Builtin.Dict.selfAndRest
  refine wpAny_bind (wpAny_bind (wpAny_notOrdered_dict hnew.typeIs (wpAny_pure (?_ : wpAny _ _ (Builtin.Dict.updateFrom "dict.__init__" s.heap.objs.size (.ref p) [] .none) _ _ _))))
  delta Builtin.Dict.updateFrom
  have pl' := pl.keeps k0
  refine wpAny_bind (wpAny_typeOf pl'.isList.typeIs ?_)
  rw [if_pos (by decide)]
  refine wpAny_bind (dp_keys pl' (I.ok.hd hc) fun h1 tk1 hk1 => ?_)
  simp only [Option.isNone_none, if_true]
  refine wpAny_bind (wpAny_rule ?_)
  refine wpAny_bind (wpAny_pyIter_list (pl'.keeps hk1).isList ?_)
  have ld : s.heap.objs.size < h1.objs.size := by
    obtain ⟨o, es, ep, ho, _⟩ := hnew
    exact Heap.lt_size (hk1 _ _ ho)
  have k1 : ∀ b o, s.heap.get? b = some o -> (h1.push { cls := .type "list_iterator", data := .fields #[.ref p, .int 0 0] }).get? b = some o := fun b o e => Heap.get?_push_of_some _ (hk1 b o (k0 b o e))
  refine wpAny_pure ⟨plainId_quiet Ve _, dp_loop (Walks.list (A := X.A.in1.in1) (I.ok.hd hc) h1.objs.size p (Nat.ne_of_lt (Nat.lt_trans hpl ld)) its.toArray) (h₀ := s.heap) (vs := vs) hlv (by rw [<- rel.length, <- hp.1]; exact hz) (by rw [hkeys]; exact hn) ?_ s.heap.objs.size ?_ ?_ .none _ 0 _ 0 0 rfl (Nat.zero_le _) ?_ ?_ k1 ?_⟩
  · intro i v hv
    have hi : i < its.length := by
      have := (Array.getElem?_eq_some_iff.mp hv).1
      rwa [List.size_toArray] at this
    have ht : i < ts.length := by omega
    obtain ⟨k, ku, vu, e1, e2, e3⟩ := hvs i ts[i] (List.getElem?_eq_getElem ht)
    refine ⟨ts[i], k, ku, vu, ?_, e1, e2, kV_is e3⟩
    have := hat i ts[i] (List.getElem?_eq_getElem ht)
    have hv' : its[i]? = some v := by simpa using hv
    rw [this] at hv'
    exact (Option.some.inj hv').symm
  · intro hm
    have two : s.heap.objs.size = h1.objs.size ∨ s.heap.objs.size = p := by simpa using hm
    rcases two with e | e
    · exact absurd e (Nat.ne_of_lt ld)
    · exact absurd e (Nat.ne_of_gt hpl)
  · intro b o e
    have hb := Heap.lt_size e
    refine ⟨fun hm => ?_, Nat.ne_of_lt hb⟩
    have e' : b = h1.objs.size := by simpa using hm
    rw [e'] at hb
    exact absurd ld (Nat.not_lt_of_lt hb)
  · exact ⟨⟨_, Heap.get?_push_size _ rfl, rfl, rfl⟩, (pl.keeps k1).isList⟩
  · obtain ⟨o, es, ep, ho, rest⟩ := hnew
    exact ⟨o, es, ep, Heap.get?_push_of_some _ (hk1 _ _ ho), rest⟩
  · intro h' tk hd' hk'
    refine ⟨rfl, .ref s.heap.objs.size, _, I.laid (a := s.heap.objs.size) (o := .dK kvs) (fun b o e => ?_) (Nat.le_refl _) (dk_new (by rw [<- hp.1]; exact hz) (beq_eq_false_iff_ne.mpr (Ne.symm (Nat.ne_of_lt I.big))) rel hd'), rfl, q _ (I.hok.fresh (Nat.le_refl _))⟩
    have hb := Heap.lt_size e
    refine hk' b o (fun hm => ?_) (Nat.ne_of_lt hb) (k1 b o e)
    have e' : b = h1.objs.size := by simpa using hm
    rw [e'] at hb
    exact absurd ld (Nat.not_lt_of_lt hb)
end
end L2
namespace L2
open PySem PySem.Spec PyProof.Rows
section
variable {X : Cx}
theorem ps_comp {elt tg iter : Expr} {scope : Scope} {pos spos py : Pos} {wi : TI} {g : TG} {te : TE} {i0 : Nat} {x0 : Str} (own : List Str) (ix : List Nat) (hc : X.calm = true) (hN : X.N.Nodup) (hi0 : X.N[i0]? = some x0) (hx0 : Loc X.env.scope x0) (hi : PI X tg iter wi)
    (hkind : scope.kind = .function) (hnames : ∀ x ∈ scope.names, x.2 = .local -> scope.names.lookup x.1 = some .local) (hcell : ∀ x ∈ scope.names, x.2 ≠ .cell)
    (hcap : ∀ x ∈ scope.names, x.2 = .free -> X.env.scope.names.lookup x.1 = some .cell ∨ X.env.scope.names.lookup x.1 = some .free)
    (hix : ∀ j ∈ ix, ∃ y, X.N[j]? = some y /\ scope.names.lookup y = some .free) (hgk : GK own.length g)
    (hg : ∀ cl C fp s H, PG (Z6 X (Z7 X own ix) scope cl C fp s H) tg g) (he : ∀ cl C fp s H, PE (Z6 X (Z7 X own ix) scope cl C fp s H) elt te)
    (hsw : swapsWith (.ListComp elt [⟨tg, iter, [], 0⟩] scope pos) (some (.Name x0 py)) spos.line X.env = pure true) (hf : X.fn x0 = true ∨ X.env.scope.names.lookup x0 = some .local)
    (hs : ∀ x, foldedSetIterable iter X.env x = pure x := by intro _; rfl) :
    PS X (.Assign [.Name x0 py] (.ListComp elt [⟨tg, iter, [], 0⟩] scope pos) spos) (tAsg (tComp own.length ix wi g te) (Y2 i0)) := by
  intro pins s σ H D0 I h
  have hcells : ∀ x ∈ scope.names, x.2 = .free -> ∃ c, X.env.cells.lookup x.1 = some c := fun x hx hf => I.ok.has x.1 (hcap x hx hf)
  obtain ⟨cl, hcl, hcl1, hcl2⟩ := VQ hcells
  have used := exec_Assign_Name_used _ _ _ _ hsw
  rw [used]
  refine wpAny_bind (wpAny_standAt (wpAny_bind (?_ : wpAny _ X.A (do let _ <- comprehension (.ListComp elt [⟨tg, iter, [], 0⟩] scope pos) scope X.env _ (newList []) false (eval iter X.env) (some (assign (.Name x0 py) X.env))) _ _ s)))
  refine wpAny_bind (wpAny_mono (wpAny_comprehension_free (use := some (assign (.Name x0 py) X.env)) (Q := fun _ s' => ∃ σ' H', Inv X pins σ' H' s' /\ D0.nx σ' H') rfl hs hcl hkind hnames ?_) (fun _ s' hq => wpAny_pure (wpAny_pure hq)) fun _ _ e => e)
  refine thn (hi pins s σ H _ I h) fun v s1 h1 => thn h1 fun itv s2 h2 => ?_
  obtain ⟨it, fp, tn, J, H2, e, I2, T, st2, f2, W, ⟨m0, w0⟩, turn⟩ := h2
  subst e
  refine wpAny_newObj_type (wpAny_newFunctionEnv hcell (by intro y hy; simp at hy) (fun h4 hns hsb => ?_) hkind)
  dsimp only at hns hsb ⊢
  -- the list
  generalize hh3 : s2.heap.push { cls := .type "list", dict := none, data := .seq ([] : List Value).toArray } = h3 at hns hsb ⊢
  have sz3 : h3.objs.size = s2.heap.objs.size + 1 := by rw [<- hh3, Heap.size_push]
  have k23 : ∀ b u, s2.heap.get? b = some u -> h3.get? b = some u := fun b u q => by rw [<- hh3]; exact Heap.get?_push_of_some _ q
  have D3 : h3.get? s2.heap.objs.size = some { cls := .type "list", data := .seq #[] } := by rw [<- hh3]; exact Heap.get?_push_size _ rfl
  obtain ⟨D, hD⟩ : ∃ D, D = s2.heap.objs.size := ⟨_, rfl⟩
  obtain ⟨C, hC⟩ : ∃ C, C = h3.objs.size := ⟨_, rfl⟩
  rw [<- hC] at hns hsb
  rw [<- hD] at D3 sz3
  have hCD : C = D + 1 := hC.trans sz3
  let s3 : Shared := { s2 with heap := h3 }
  have I3 : Inv X pins σ H2 s3 := I2.kept (t' := s2.toks) k23
  have lt3 : ∀ b u, h3.get? b = some u -> b < C := fun b u q => by rw [hC]; exact Heap.lt_size q
  have k34 : ∀ b u, h3.get? b = some u -> h4.get? b = some u := fun b u q => hsb.extBut b u (Nat.ne_of_lt (lt3 b u q)) (Heap.get?_push_of_some _ q)
  have H2D : H2 D = none := I2.hok.fresh (by rw [hD]; exact Nat.le_refl _)
  have H2C : H2 C = none := I2.hok.fresh (by rw [hCD, hD]; exact Nat.le_succ _)
  have fD : VA X pins H2 D := I2.fpOk (by rw [hD]; exact Nat.le_refl _) H2D
  have cellsLt : ∀ x c, X.env.cells.lookup x = some c -> c < D := fun x c e => by
    obtain ⟨v, z⟩ := I2.cell x c e
    rw [hD]; exact z.lt
  -- the iterator's own objects stand below the list
  have fpLt : ∀ b ∈ fp, b < D := fun b hb => by
    obtain ⟨o, e, _⟩ := T.obj 0 _ st2 b hb
    rw [hD]; exact Heap.lt_size e
  let X' : Cx := Z6 X (Z7 X own ix) scope cl C (D :: fp) s3 H2
  have stkLt : ∀ b ∈ frs X.stack, b ∉ D :: fp := fun b hb z => by
    rcases List.mem_cons.mp z with z | z
    · have q := I2.stack
      obtain ⟨_, o, e, _⟩ := q.mem hb
      have := Heap.lt_size e
      rw [z, hD] at this
      exact Nat.lt_irrefl _ this
    · rcases List.mem_cons.mp (I2.stkSub b hb) with q | q
      · exact (f2 b z).2.1 q
      · exact (f2 b z).2.2.1 q
  have ok' : X'.Ok := by
    refine ⟨I.ok.mod, hkind, I.ok.glob, I.ok.blt, ?_, fun x y c h1 h2 => I.ok.inj x y c (hcl1 x c h1) (hcl1 y c h2), fun x hx => hcl2 x (Yb (scope := scope) hx hcell), (fun x c z => Bool.noConfusion (show false = true from z)), I.ok.hd, I.ok.frames, .inl rfl, fun b hb => ⟨?_, fun x c h1 => ?_⟩, fun b o e => ?_, ?_, fun b o e hb => ?_, fun b hb z => stkLt b z hb, ?_, fun b hb => I2.stkFree b hb⟩
    · show h3.objs.size <= C
      rw [hC]; exact Nat.le_refl _
    · show b ≠ C
      rcases List.mem_cons.mp hb with z | z
      · rw [z, hCD]; exact Nat.ne_of_lt (Nat.lt_succ_self _)
      · rw [hCD]; exact Nat.ne_of_lt (Nat.lt_succ_of_lt (fpLt b z))
    · rcases List.mem_cons.mp hb with z | z
      · rw [z]; exact Nat.ne_of_lt (cellsLt x c (hcl1 x c h1))
      · exact (f2 b z).2.2.2.2.1 x c (hcl1 x c h1)
    · exact I3.bs b o e
    · show X.base.objs.size <= h3.objs.size
      have := Nat.le_trans I.ok.bsz I2.sz
      rw [<- hD] at this
      rw [<- hC, hCD]
      exact Nat.le_succ_of_le this
    · rcases List.mem_cons.mp hb with z | z
      · have := Heap.lt_size (I2.bk b o e)
        rw [z, hD] at this
        exact Nat.lt_irrefl _ this
      · rcases (f2 b z).2.2.2.1 with q | q
        · exact I.ok.noex b o e q
        · have := Nat.lt_of_lt_of_le (Heap.lt_size (I.ok.bs b o e).1) q
          exact Nat.lt_irrefl _ this
    · exact I3.stack
  have lenN : (Zy own.length ix σ).length = (Z7 X own ix).length := by simp [Zy, Z7]
  have I4 : ∀ t, Inv X' [] (Zy own.length ix σ) H2 { s2 with heap := h4, toks := t } := fun t => by
    refine ⟨ok', rfl, I2.bare, Un.kept k34, ⟨_, hns, fun i x v e1 e2 e3 => ?_⟩, fun x c e => ?_, H2C, fun x c e => I2.freeC x c (hcl1 x c e), fun p hp => absurd (show p ∈ ([] : List (Addr × Obj)) from hp) (by simp), (I3.hok).kept k34, lenN⟩
    · -- a name of the def that the block reads
      have hi' : own.length <= i := by
        apply Nat.le_of_not_lt
        intro hlt
        unfold Zy at e2
        rw [List.getElem?_append_left (by simpa using hlt), List.getElem?_replicate, if_pos hlt] at e2
        cases e2
      have e1' : (ix.map fun j => X.N.getD j ("" : Str))[i - own.length]? = some x := by
        have z : (own ++ ix.map fun j => X.N.getD j ("" : Str))[i]? = some x := e1
        rwa [List.getElem?_append_right hi'] at z
      have e2' : (ix.map fun j => σ.getD j none)[i - own.length]? = some (some v) := by
        unfold Zy at e2
        rw [List.getElem?_append_right (by simpa using hi')] at e2
        simpa using e2
      rw [List.getElem?_map] at e1' e2'
      cases hj : ix[i - own.length]? with
      | none => rw [hj] at e1'; cases e1'
      | some j =>
        rw [hj] at e1' e2'
        obtain ⟨y, hy, hfree⟩ := hix j (List.mem_of_getElem? hj)
        have ex : x = y := by
          have z : X.N.getD j ("" : Str) = x := Option.some.inj e1'
          rw [<- z, List.getD_eq_getElem?_getD, hy]; rfl
        subst ex
        have ev : σ[j]? = some (some v) := by
          have z : σ.getD j none = some v := Option.some.inj e2'
          rw [List.getD_eq_getElem?_getD] at z
          cases q : σ[j]? with
          | none => rw [q] at z; cases z
          | some a => rw [q] at z; exact congrArg some z
        have hxm := PySem.mem_of_lookup hfree
        have hvis := hcap _ hxm rfl
        obtain ⟨m, hn, hl⟩ := I2.loc
        obtain ⟨u, r, lk⟩ := hl j x v hy ev (.inr hvis)
        refine ⟨u, r, .inr ⟨?_, ?_⟩⟩
        · rcases e3 with z | z
          · exact absurd z (Yo hfree)
          · exact z
        · rcases lk with ⟨k, _⟩ | ⟨_, c, hc1, z⟩
          · rcases hvis with q | q
            · exact absurd (k.symm.trans q) (by simp)
            · exact absurd (k.symm.trans q) (by simp)
          · obtain ⟨c', hc'⟩ := hcl2 x hxm
            have := hcl1 x c' hc'
            rw [hc1] at this
            cases this
            obtain ⟨o, ho, hd⟩ := z
            exact ⟨c, hc', o, k34 _ _ (k23 _ _ ho), hd⟩
    · obtain ⟨v, z⟩ := I3.cell x c (hcl1 x c e)
      obtain ⟨o, ho, hd⟩ := z
      exact ⟨v, o, k34 _ _ ho, hd⟩
  have nfp : ∀ b ∈ fp, b ≠ D := fun b hb => Nat.ne_of_lt (fpLt b hb)
  have fp' : ∀ {H' : Hp} {pl : List (Addr × Obj)}, (∀ p ∈ pl, p.1 = D) -> (∀ b ∈ fp, H' b = none) -> ∀ b ∈ fp, VA X' pl H' b := fun {H' pl} hp hn b hb =>
    ⟨hn b hb, (ok'.exf b (List.mem_cons_of_mem _ hb)).1, ok'.exfs b (List.mem_cons_of_mem _ hb), .inl (List.mem_cons_of_mem _ hb), (ok'.exf b (List.mem_cons_of_mem _ hb)).2, fun p hp' z => nfp b hb (z ▸ hp p (by
      have q : p ∈ ([] : List (Addr × Obj)) ++ pl := hp'
      simpa using q))⟩
  have dX : D ≠ X'.env.locals := (ok'.exf D List.mem_cons_self).1
  have dF : D ∉ X'.fs := ok'.exfs D List.mem_cons_self
  have loop : ∀ t, codeAny (model X.prog X.w) X.A (.compLoop (.ListComp elt [⟨tg, iter, [], 0⟩] scope pos) 0 (.ref it) (.ref D) (compEnvC scope cl C X.env))
      (compPost (model X.prog X.w) X.A X.xe (some (assign (.Name x0 py) X.env)) (fun _ s' => ∃ σ' H', Inv X pins σ' H' s' /\ D0.nx σ' H') (.ref D) C) { s2 with heap := h4, toks := t } := fun t => by
    have st4 : tn 0 h4 := T.keep 0 _ _ st2 fun b _ o e => k34 _ _ (k23 _ _ e)
    refine Jd (fun n s' => ∃ i ys its H', Inv X' [] (Zy own.length ix σ) H' s' /\ tn i s'.heap /\ (∀ b ∈ fp, H' b = none) /\ H' D = none /\ s'.heap.PlainList D (List.toArray its) /\ Vals ys its /\ W i n ys H') ?_ m0
      ⟨0, [], [], H2, I4 t, st4, fun b hb => (f2 b hb).1, H2D, ⟨_, k34 _ _ D3⟩, .nil, w0⟩
    rintro n s5 ⟨i, ys, its, H5, I5, st5, fr5, d5, ⟨nn, l5⟩, v5, w5⟩
    obtain ⟨hz, hcase⟩ := turn i n ys H5 w5
    let oD : Obj := { cls := .type "list", data := .seq its.toArray nn }
    have onlyD : ∀ p ∈ [((D, oD) : Addr × Obj)], p.1 = D := fun p hp => by
      have e : p = (D, oD) := by simpa using hp
      rw [e]
    have I5' : Inv X' [(D, oD)] (Zy own.length ix σ) H5 s5 := I5.pins_of fun p hp => by
      have e : p = (D, oD) := by simpa using hp
      subst e
      exact ⟨l5, d5, dX, dF, fun v z => nomatch z⟩
    rcases hcase with ⟨stop, qn⟩ | ⟨go, step⟩
    · refine thn (T.done X' rfl rfl rfl hc i _ s5 _ H5 _ I5' (fp' onlyD fr5) st5 stop) fun r s6 ⟨hr, I6⟩ => ?_
      subst hr
      obtain ⟨m, hn6, _⟩ := id I6.loc
      have I7 : Inv X pins σ H5 s6 := I3.call' (ch := D :: fp) I6.os I6.base I6.hok I6.bare fun b hb => by
        rcases List.mem_cons.mp hb with z | z
        · subst z
          exact ⟨fD.2.2.2.1, fD.2.1, fD.2.2.2.2.1, fD.2.2.2.2.2⟩
        · have f := f2 b z
          exact ⟨f.2.2.2.1, f.2.1, f.2.2.2.2.1, f.2.2.2.2.2⟩
      obtain ⟨gD, nD, _⟩ := I6.pin (D, oD) (by simp)
      have I8 := I7.retrack (o := .lst ys) nD ⟨nD, fD.2⟩ ⟨Nat.le_of_lt hz, its, nn, v5, gD⟩
      have fC : VA X pins (upd H5 D (.lst ys)) C := I2.fpOk (by rw [hCD, hD]; exact Nat.le_succ _) (by rw [ZJ (by rw [hCD]; exact Nat.ne_of_gt (Nat.lt_succ_self _))]; exact I6.free)
      show wpAny _ X.A (assign (.Name x0 py) X.env (.ref D)) _ _ _
      refine wpAny_assign_Name (JD (v := .ref D) I8 hN hi0 hx0 rfl (fun s7 I9 hs7 => ?_) hf)
      obtain ⟨a, hs7, ha⟩ := hs7
      have hCa : C ≠ a := by
        rcases ha with ha | ha
        · rw [ha]; exact fC.2.1
        · exact fun z => fC.2.2.2.2.1 x0 a ha z.symm
      refine ⟨m, hn6.sameBut hs7 hCa, fun h' hs' => ⟨_, _, I9.turned (it := C) (t' := s7.toks) (fun b o hb e => (hs'.2 b hb).trans e) fC.1 fC.2.1 fC.2.2.2.1 fC.2.2.2.2.1 fC.2.2.2.2.2, qn D nD⟩⟩
    · refine thn (T.item X' rfl rfl rfl hc i _ s5 _ H5 _ I5' (fp' onlyD fr5) st5 go) fun r s6 ⟨u, hr, h6⟩ => ?_
      subst hr
      refine thn h6 fun _ s7 ⟨x, H7, I7, r7, y7, st7, fr7⟩ => ?_
      have I7' := I7.pinned (fp' onlyD fr7) (T.obj _ _ st7)
      refine thn (hg cl C (D :: fp) s3 H2 _ s7 _ H7 x u _ I7' r7 (hgk _ _ _ _ (step x H7 y7))) fun _ s8 ⟨σ8, H8, I8, q8, l8, k8⟩ => ?_
      refine thn (he cl C (D :: fp) s3 H2 _ s8 σ8 H8 _ I8 q8) fun yv s9 ⟨y, H9, I9, r9, m', hm', w9⟩ => ?_
      obtain ⟨gD, nD, _⟩ := I9.pin (D, oD) (by simp)
      have hlen : its.length = ys.length := v5.length.symm
      refine wpAny_list_append_plain (l := D) (items := its.toArray) ⟨nn, gD⟩ (fun h' hl' hs' => ?_) (by rw [List.size_toArray, hlen]; exact Nat.le_of_lt hz)
      have kp : ∀ b o, b ≠ D -> s9.heap.get? b = some o -> h'.get? b = some o := fun b o hb q => (hs'.2 b hb).trans q
      have I9' : Inv X' (Z4 fp s7.heap) σ8 H9 s9 := I9.pins_of fun p hp => I9.pin p (by
        refine List.mem_append_right _ (List.mem_append_right _ hp))
      have pinNe : ∀ p ∈ X'.pn ++ Z4 fp s7.heap, p.1 ≠ D := fun p hp => by
        have q : p ∈ ([] : List (Addr × Obj)) ++ Z4 fp s7.heap := hp
        exact nfp _ (VE (by simpa using q)).1
      have I10 : Inv X' (Z4 fp s7.heap) σ8 H9 { s9 with heap := h', toks := s9.toks } := I9'.turned (it := D) kp nD dX (.inl List.mem_cons_self) (ok'.exf D List.mem_cons_self).2 pinNe
      refine ⟨m', hm', i + 1, ys ++ [y], its ++ [yv], H9, ?_, ?_, ?_, nD, ?_, v5.append (.cons r9 .nil), w9⟩
      · refine Inv.weak (I10.pins_of (pins' := []) fun p hp => nomatch hp) (by rw [l8]) fun j v hj => ?_
        by_cases hlt : j < own.length
        · unfold Zy at hj
          rw [List.getElem?_append_left (by simpa using hlt), List.getElem?_replicate, if_pos hlt] at hj
          cases hj
        · have e : σ8[j]? = (Zy own.length ix σ)[j]? := by
            have q := congrArg (fun l : List (Option V) => l[j - own.length]?) k8
            simp only [List.getElem?_drop] at q
            rwa [Nat.add_sub_cancel' (Nat.le_of_not_lt hlt)] at q
          rw [e]; exact hj
      · exact T.keep _ _ _ st7 fun b hb o e => (I10.pin (b, o) (List.mem_append_right _ (Zz hb e))).1
      · intro b hb
        obtain ⟨o, e, d⟩ := T.obj _ _ st7 b hb
        exact (I10.pin (b, o) (List.mem_append_right _ (Zz hb e))).2.1
      · have e : (its ++ [yv]).toArray = its.toArray.push yv := by simp
        rw [e]; exact hl'
  rw [<- hC, <- hD]
  exact codeAny_compStart_list (loop _) (T.self _ 0 _ _ _ (T.keep 0 _ _ st2 fun b _ o e => k34 _ _ (k23 _ _ e)) (loop _))
theorem ps_cmpr {elt tg iter : Expr} {scope : Scope} {pos spos py : Pos} {wi : TI} {g : TG} {te : TE} {i0 : Nat} {x0 : Str} (own : List Str) (ix : List Nat) (hN : X.N.Nodup) (hi0 : X.N[i0]? = some x0) (hx0 : Loc X.env.scope x0) (hi : PI X tg iter wi) (hgk : GK own.length g)
    (hg : ∀ cl C fp s H, PG (Z6 X (Z7 X own ix) scope cl C fp s H) tg g) (he : ∀ cl C fp s H, PE (Z6 X (Z7 X own ix) scope cl C fp s H) elt te)
    (hc : X.calm = true := by rfl) (hkind : scope.kind = .function := by rfl) (hok : Vf scope X.env.scope.names X.N ix = true := by rfl)
    (hsw : swapsWith (.ListComp elt [⟨tg, iter, [], 0⟩] scope pos) (some (.Name x0 py)) spos.line X.env = pure true := by rfl) (hf : X.fn x0 = true ∨ X.env.scope.names.lookup x0 = some .local := by first | exact .inl rfl | exact .inr rfl | assumption)
    (hs : ∀ x, foldedSetIterable iter X.env x = pure x := by intro _; rfl) :
    PS X (.Assign [.Name x0 py] (.ListComp elt [⟨tg, iter, [], 0⟩] scope pos) spos) (tAsg (tComp own.length ix wi g te) (Y2 i0)) := by
  unfold Vf at hok
  rw [Bool.and_eq_true, List.all_eq_true, List.all_eq_true] at hok
  obtain ⟨h1, h2⟩ := hok
  refine ps_comp own ix hc hN hi0 hx0 hi hkind (fun x hx hl => ?_) (fun x hx => ?_) (fun x hx hf => ?_) (fun j hj => ?_) hgk hg he hsw hf hs
  · have q := h1 x hx
    simp only [Bool.and_eq_true, Bool.or_eq_true, decide_eq_true_eq] at q
    exact q.1.1.resolve_left fun z => z hl
  · have q := h1 x hx
    simp only [Bool.and_eq_true, Bool.or_eq_true, decide_eq_true_eq] at q
    exact q.1.2
  · have q := h1 x hx
    simp only [Bool.and_eq_true, Bool.or_eq_true, decide_eq_true_eq] at q
    rcases q.2 with (z | z) | z
    · exact absurd hf z
    · exact .inl z
    · exact .inr z
  · have q := h2 j hj
    cases e : X.N[j]? with
    | none => rw [e] at q; cases q
    | some y => rw [e] at q; exact ⟨y, rfl, of_decide_eq_true q⟩
end
end L2
namespace L2
open PySem PySem.Spec PyProof.Rows
theorem JC {prog : Program} {w : World} {A : Around} {R : Result -> Shared -> Prop} {s : Shared} {elt target iter ct : Expr} {scope : Scope} {pos : Pos} {it acc : Value} {env : Env} (I : Nat -> Shared -> Prop)
    (turn : ∀ n s, I n s -> wpAny (model prog w) A (pyNext it) (fun r s1 => match r with
      | none => R (.ok .next) s1
      | some v => wpAny (model prog w) A (letOwnedTupleGo target it v) (fun _ s1' => wpAny (model prog w) A (assign target env v) (fun _ s2 => wpAny (model prog w) A (isTrue ct env (eval ct env)) (fun b s2' => if b = true then wpAny (model prog w) A (eval elt env) (fun x s3 =>
          wpAny (model prog w) A (call (.builtin "list.append") [acc, x]) (fun _ s4 => ∃ m, m < n /\ I m s4) (fun _ _ => False) s3)
          (fun _ _ => False) s2' else ∃ m, m < n /\ I m s2') (fun _ _ => False) s2) (fun _ _ => False) s1') (fun _ _ => False) s1) (fun _ _ => False) s)
    (n : Nat) (h : I n s) : codeAny (model prog w) A (.compLoop (.ListComp elt [⟨target, iter, [ct], 0⟩] scope pos) 0 it acc env) R s := by
  refine codeAny_loop rfl I (fun n s hI => wpAny_noted (m := compTurn (.ListComp elt [⟨target, iter, [ct], 0⟩] scope pos) 0 it acc env) ?_) n h
  rw [compTurn_list]
  refine wpAny_bind (wpAny_standAt (wpAny_bind (wpAny_mono (turn n s hI) (fun r s1 h1 => ?_) fun _ _ h' => h'.elim)))
  cases r with
  | none => exact wpAny_pure h1
  | some v =>
    refine wpAny_bind (wpAny_mono h1 (fun _ s1' h1' => wpAny_bind (wpAny_mono h1' (fun _ s2 h2 => ?_) fun _ _ h' => h'.elim)) fun _ _ h' => h'.elim)
    dsimp only
    refine wpAny_bind ?_
    rw [List.forIn_cons]
    simp only [if_true]
    refine wpAny_bind (wpAny_bind (wpAny_mono h2 (fun b s2' h2' => wpAny_pure ?_) fun _ _ h' => h'.elim))
    dsimp only
    rw [List.forIn_nil]
    refine wpAny_pure ?_
    cases b with
    | true =>
      rw [if_pos rfl] at h2'
      simp only [if_true]
      exact wpAny_bind (wpAny_bind (wpAny_mono h2' (fun x s3 h3 => wpAny_bind (wpAny_mono h3 (fun _ s4 h4 => wpAny_pure (wpAny_pure ⟨rfl, h4⟩)) fun _ _ h' => h'.elim)) fun _ _ h' => h'.elim))
    | false =>
      rw [if_neg (by simp)] at h2'
      simp only [if_neg Bool.false_ne_true]
      exact wpAny_pure ⟨rfl, h2'⟩
def CompWI (J : It) (g : TG) (tc : TT) (te : TE) (s0 : St) (Q : VK) (H1 : Hp) : Prop := ∃ W : Nat -> Nat -> List V -> Hp -> Prop, (∃ m, W 0 m [] H1) /\ ∀ i m ys H, W i m ys H ->
  ys.length < sizeLine /\ ((J.stop i H /\ ∀ p, H p = none -> Q (.ref p) (upd H p (.lst ys))) ∨
    (J.go i H /\ ∀ x H', J.yld i H x H' -> g x s0 H' fun σ2 H2 => tc σ2 H2 fun b H3 => if b = true then te σ2 H3 fun y H4 => ∃ m', m' < m /\ W (i + 1) m' (ys ++ [y]) H4 else ∃ m', m' < m /\ W (i + 1) m' ys H3))
def tCompI (k : Nat) (ix : List Nat) (wi : TI) (g : TG) (tc : TT) (te : TE) : TE := fun σ H Q => wi σ H fun J H1 => CompWI J g tc te (Zy k ix σ) Q H1
theorem Y3 {J : It} {g : TG} {tc : TT} {te : TE} {s0 : St} {Q : VK} {H : Hp} (n : Nat) (hn : n < sizeLine) (Pv : Nat -> List V -> Hp -> Prop) (h0 : Pv 0 [] H) (hlen : ∀ i vs H, Pv i vs H -> vs.length <= i)
    (hgo : ∀ i vs H, i < n -> Pv i vs H -> J.go i H) (hstop : ∀ vs H, Pv n vs H -> J.stop n H)
    (hs : ∀ i vs H x H' (R : Bool -> V -> Hp -> Prop), i < n -> Pv i vs H -> J.yld i H x H' -> (∀ v H3, Pv (i + 1) (vs ++ [v]) H3 -> R true v H3) -> (∀ H3, Pv (i + 1) vs H3 -> R false .non H3) -> g x s0 H' fun s2 H2 => tc s2 H2 fun b H3 => if b = true then te s2 H3 (R true) else R false .non H3)
    (hd : ∀ vs H p, Pv n vs H -> H p = none -> Q (.ref p) (upd H p (.lst vs))) :
    CompWI J g tc te s0 Q H := by
  refine ⟨fun i m vs H => m = n - i /\ i <= n /\ Pv i vs H, ⟨n, by simp, Nat.zero_le _, h0⟩, ?_⟩
  rintro i m vs H ⟨rfl, hi, p⟩
  have hl := hlen i vs H p
  refine ⟨by omega, ?_⟩
  by_cases hlt : i < n
  · exact .inr ⟨hgo i vs H hlt p, fun x H' y => hs i vs H x H' (fun b v H3 => if b = true then ∃ m', m' < n - i /\ m' = n - (i + 1) /\ i + 1 <= n /\ Pv (i + 1) (vs ++ [v]) H3 else ∃ m', m' < n - i /\ m' = n - (i + 1) /\ i + 1 <= n /\ Pv (i + 1) vs H3) hlt p y
      (fun v H3 p3 => by rw [if_pos rfl]; exact ⟨n - (i + 1), by omega, rfl, hlt, p3⟩) fun H3 p3 => by rw [if_neg (by simp)]; exact ⟨n - (i + 1), by omega, rfl, hlt, p3⟩⟩
  · have e : i = n := by omega
    subst e
    exact .inl ⟨hstop vs H p, fun a ha => hd vs H a p ha⟩
section
variable {X : Cx}
theorem pe_compI {elt tg iter ct : Expr} {tc : TT} {scope : Scope} {pos : Pos} {wi : TI} {g : TG} {te : TE} (own : List Str) (ix : List Nat) (hc : X.calm = true) (hi : PI X tg iter wi)
    (hkind : scope.kind = .function) (hnames : ∀ x ∈ scope.names, x.2 = .local -> scope.names.lookup x.1 = some .local) (hcell : ∀ x ∈ scope.names, x.2 ≠ .cell)
    (hcap : ∀ x ∈ scope.names, x.2 = .free -> X.env.scope.names.lookup x.1 = some .cell ∨ X.env.scope.names.lookup x.1 = some .free)
    (hix : ∀ j ∈ ix, ∃ y, X.N[j]? = some y /\ scope.names.lookup y = some .free) (hgk : GK own.length g)
    (hg : ∀ cl C fp s H, PG (Z6 X (Z7 X own ix) scope cl C fp s H) tg g) (hct : ∀ cl C fp s H, PT (Z6 X (Z7 X own ix) scope cl C fp s H) ct tc) (he : ∀ cl C fp s H, PE (Z6 X (Z7 X own ix) scope cl C fp s H) elt te)
    (hs : ∀ x, foldedSetIterable iter X.env x = pure x := by intro _; rfl) :
    PE X (.ListComp elt [⟨tg, iter, [ct], 0⟩] scope pos) (tCompI own.length ix wi g tc te) := by
  intro pins s σ H Q I h
  have hcells : ∀ x ∈ scope.names, x.2 = .free -> ∃ c, X.env.cells.lookup x.1 = some c := fun x hx hf => I.ok.has x.1 (hcap x hx hf)
  obtain ⟨cl, hcl, hcl1, hcl2⟩ := VQ hcells
  rw [eval_ListComp]
  refine wpAny_comprehension_free (use := none) rfl hs hcl hkind hnames ?_
  refine thn (hi pins s σ H _ I h) fun v s1 h1 => thn h1 fun itv s2 h2 => ?_
  obtain ⟨it, fp, tn, J, H2, e, I2, T, st2, f2, W, ⟨m0, w0⟩, turn⟩ := h2
  subst e
  refine wpAny_newObj_type (wpAny_newFunctionEnv hcell (by intro y hy; simp at hy) (fun h4 hns hsb => ?_) hkind)
  dsimp only at hns hsb ⊢
  -- the list
  generalize hh3 : s2.heap.push { cls := .type "list", dict := none, data := .seq ([] : List Value).toArray } = h3 at hns hsb ⊢
  have sz3 : h3.objs.size = s2.heap.objs.size + 1 := by rw [<- hh3, Heap.size_push]
  have k23 : ∀ b u, s2.heap.get? b = some u -> h3.get? b = some u := fun b u q => by rw [<- hh3]; exact Heap.get?_push_of_some _ q
  have D3 : h3.get? s2.heap.objs.size = some { cls := .type "list", data := .seq #[] } := by rw [<- hh3]; exact Heap.get?_push_size _ rfl
  obtain ⟨D, hD⟩ : ∃ D, D = s2.heap.objs.size := ⟨_, rfl⟩
  obtain ⟨C, hC⟩ : ∃ C, C = h3.objs.size := ⟨_, rfl⟩
  rw [<- hC] at hns hsb
  rw [<- hD] at D3 sz3
  have hCD : C = D + 1 := hC.trans sz3
  let s3 : Shared := { s2 with heap := h3 }
  have I3 : Inv X pins σ H2 s3 := I2.kept (t' := s2.toks) k23
  have lt3 : ∀ b u, h3.get? b = some u -> b < C := fun b u q => by rw [hC]; exact Heap.lt_size q
  have k34 : ∀ b u, h3.get? b = some u -> h4.get? b = some u := fun b u q => hsb.extBut b u (Nat.ne_of_lt (lt3 b u q)) (Heap.get?_push_of_some _ q)
  have H2D : H2 D = none := I2.hok.fresh (by rw [hD]; exact Nat.le_refl _)
  have H2C : H2 C = none := I2.hok.fresh (by rw [hCD, hD]; exact Nat.le_succ _)
  have fD : VA X pins H2 D := I2.fpOk (by rw [hD]; exact Nat.le_refl _) H2D
  have cellsLt : ∀ x c, X.env.cells.lookup x = some c -> c < D := fun x c e => by
    obtain ⟨v, z⟩ := I2.cell x c e
    rw [hD]; exact z.lt
  -- the iterator's own objects stand below the list
  have fpLt : ∀ b ∈ fp, b < D := fun b hb => by
    obtain ⟨o, e, _⟩ := T.obj 0 _ st2 b hb
    rw [hD]; exact Heap.lt_size e
  let X' : Cx := Z6 X (Z7 X own ix) scope cl C (D :: fp) s3 H2
  have stkLt : ∀ b ∈ frs X.stack, b ∉ D :: fp := fun b hb z => by
    rcases List.mem_cons.mp z with z | z
    · have q := I2.stack
      obtain ⟨_, o, e, _⟩ := q.mem hb
      have := Heap.lt_size e
      rw [z, hD] at this
      exact Nat.lt_irrefl _ this
    · rcases List.mem_cons.mp (I2.stkSub b hb) with q | q
      · exact (f2 b z).2.1 q
      · exact (f2 b z).2.2.1 q
  have ok' : X'.Ok := by
    refine ⟨I.ok.mod, hkind, I.ok.glob, I.ok.blt, ?_, fun x y c h1 h2 => I.ok.inj x y c (hcl1 x c h1) (hcl1 y c h2), fun x hx => hcl2 x (Yb (scope := scope) hx hcell), (fun x c z => Bool.noConfusion (show false = true from z)), I.ok.hd, I.ok.frames, .inl rfl, fun b hb => ⟨?_, fun x c h1 => ?_⟩, fun b o e => ?_, ?_, fun b o e hb => ?_, fun b hb z => stkLt b z hb, ?_, fun b hb => I2.stkFree b hb⟩
    · show h3.objs.size <= C
      rw [hC]; exact Nat.le_refl _
    · show b ≠ C
      rcases List.mem_cons.mp hb with z | z
      · rw [z, hCD]; exact Nat.ne_of_lt (Nat.lt_succ_self _)
      · rw [hCD]; exact Nat.ne_of_lt (Nat.lt_succ_of_lt (fpLt b z))
    · rcases List.mem_cons.mp hb with z | z
      · rw [z]; exact Nat.ne_of_lt (cellsLt x c (hcl1 x c h1))
      · exact (f2 b z).2.2.2.2.1 x c (hcl1 x c h1)
    · exact I3.bs b o e
    · show X.base.objs.size <= h3.objs.size
      have := Nat.le_trans I.ok.bsz I2.sz
      rw [<- hD] at this
      rw [<- hC, hCD]
      exact Nat.le_succ_of_le this
    · rcases List.mem_cons.mp hb with z | z
      · have := Heap.lt_size (I2.bk b o e)
        rw [z, hD] at this
        exact Nat.lt_irrefl _ this
      · rcases (f2 b z).2.2.2.1 with q | q
        · exact I.ok.noex b o e q
        · have := Nat.lt_of_lt_of_le (Heap.lt_size (I.ok.bs b o e).1) q
          exact Nat.lt_irrefl _ this
    · exact I3.stack
  have lenN : (Zy own.length ix σ).length = (Z7 X own ix).length := by simp [Zy, Z7]
  have I4 : ∀ t, Inv X' [] (Zy own.length ix σ) H2 { s2 with heap := h4, toks := t } := fun t => by
    refine ⟨ok', rfl, I2.bare, Un.kept k34, ⟨_, hns, fun i x v e1 e2 e3 => ?_⟩, fun x c e => ?_, H2C, fun x c e => I2.freeC x c (hcl1 x c e), fun p hp => absurd (show p ∈ ([] : List (Addr × Obj)) from hp) (by simp), (I3.hok).kept k34, lenN⟩
    · -- a name of the def that the block reads
      have hi' : own.length <= i := by
        apply Nat.le_of_not_lt
        intro hlt
        unfold Zy at e2
        rw [List.getElem?_append_left (by simpa using hlt), List.getElem?_replicate, if_pos hlt] at e2
        cases e2
      have e1' : (ix.map fun j => X.N.getD j ("" : Str))[i - own.length]? = some x := by
        have z : (own ++ ix.map fun j => X.N.getD j ("" : Str))[i]? = some x := e1
        rwa [List.getElem?_append_right hi'] at z
      have e2' : (ix.map fun j => σ.getD j none)[i - own.length]? = some (some v) := by
        unfold Zy at e2
        rw [List.getElem?_append_right (by simpa using hi')] at e2
        simpa using e2
      rw [List.getElem?_map] at e1' e2'
      cases hj : ix[i - own.length]? with
      | none => rw [hj] at e1'; cases e1'
      | some j =>
        rw [hj] at e1' e2'
        obtain ⟨y, hy, hfree⟩ := hix j (List.mem_of_getElem? hj)
        have ex : x = y := by
          have z : X.N.getD j ("" : Str) = x := Option.some.inj e1'
          rw [<- z, List.getD_eq_getElem?_getD, hy]; rfl
        subst ex
        have ev : σ[j]? = some (some v) := by
          have z : σ.getD j none = some v := Option.some.inj e2'
          rw [List.getD_eq_getElem?_getD] at z
          cases q : σ[j]? with
          | none => rw [q] at z; cases z
          | some a => rw [q] at z; exact congrArg some z
        have hxm := PySem.mem_of_lookup hfree
        have hvis := hcap _ hxm rfl
        obtain ⟨m, hn, hl⟩ := I2.loc
        obtain ⟨u, r, lk⟩ := hl j x v hy ev (.inr hvis)
        refine ⟨u, r, .inr ⟨?_, ?_⟩⟩
        · rcases e3 with z | z
          · exact absurd z (Yo hfree)
          · exact z
        · rcases lk with ⟨k, _⟩ | ⟨_, c, hc1, z⟩
          · rcases hvis with q | q
            · exact absurd (k.symm.trans q) (by simp)
            · exact absurd (k.symm.trans q) (by simp)
          · obtain ⟨c', hc'⟩ := hcl2 x hxm
            have := hcl1 x c' hc'
            rw [hc1] at this
            cases this
            obtain ⟨o, ho, hd⟩ := z
            exact ⟨c, hc', o, k34 _ _ (k23 _ _ ho), hd⟩
    · obtain ⟨v, z⟩ := I3.cell x c (hcl1 x c e)
      obtain ⟨o, ho, hd⟩ := z
      exact ⟨v, o, k34 _ _ ho, hd⟩
  have nfp : ∀ b ∈ fp, b ≠ D := fun b hb => Nat.ne_of_lt (fpLt b hb)
  have fp' : ∀ {H' : Hp} {pl : List (Addr × Obj)}, (∀ p ∈ pl, p.1 = D) -> (∀ b ∈ fp, H' b = none) -> ∀ b ∈ fp, VA X' pl H' b := fun {H' pl} hp hn b hb =>
    ⟨hn b hb, (ok'.exf b (List.mem_cons_of_mem _ hb)).1, ok'.exfs b (List.mem_cons_of_mem _ hb), .inl (List.mem_cons_of_mem _ hb), (ok'.exf b (List.mem_cons_of_mem _ hb)).2, fun p hp' z => nfp b hb (z ▸ hp p (by
      have q : p ∈ ([] : List (Addr × Obj)) ++ pl := hp'
      simpa using q))⟩
  have dX : D ≠ X'.env.locals := (ok'.exf D List.mem_cons_self).1
  have dF : D ∉ X'.fs := ok'.exfs D List.mem_cons_self
  have loop : ∀ t, codeAny (model X.prog X.w) X.A (.compLoop (.ListComp elt [⟨tg, iter, [ct], 0⟩] scope pos) 0 (.ref it) (.ref D) (compEnvC scope cl C X.env))
      (compPost (model X.prog X.w) X.A X.xe none (EP X pins σ Q) (.ref D) C) { s2 with heap := h4, toks := t } := fun t => by
    have st4 : tn 0 h4 := T.keep 0 _ _ st2 fun b _ o e => k34 _ _ (k23 _ _ e)
    refine JC (fun n s' => ∃ i ys its H', Inv X' [] (Zy own.length ix σ) H' s' /\ tn i s'.heap /\ (∀ b ∈ fp, H' b = none) /\ H' D = none /\ s'.heap.PlainList D (List.toArray its) /\ Vals ys its /\ W i n ys H') ?_ m0
      ⟨0, [], [], H2, I4 t, st4, fun b hb => (f2 b hb).1, H2D, ⟨_, k34 _ _ D3⟩, .nil, w0⟩
    rintro n s5 ⟨i, ys, its, H5, I5, st5, fr5, d5, ⟨nn, l5⟩, v5, w5⟩
    obtain ⟨hz, hcase⟩ := turn i n ys H5 w5
    let oD : Obj := { cls := .type "list", data := .seq its.toArray nn }
    have onlyD : ∀ p ∈ [((D, oD) : Addr × Obj)], p.1 = D := fun p hp => by
      have e : p = (D, oD) := by simpa using hp
      rw [e]
    have I5' : Inv X' [(D, oD)] (Zy own.length ix σ) H5 s5 := I5.pins_of fun p hp => by
      have e : p = (D, oD) := by simpa using hp
      subst e
      exact ⟨l5, d5, dX, dF, fun v z => nomatch z⟩
    rcases hcase with ⟨stop, qn⟩ | ⟨go, step⟩
    · refine thn (T.done X' rfl rfl rfl hc i _ s5 _ H5 _ I5' (fp' onlyD fr5) st5 stop) fun r s6 ⟨hr, I6⟩ => ?_
      subst hr
      obtain ⟨m, hn6, _⟩ := id I6.loc
      refine ⟨m, hn6, fun h' hs' => ?_⟩
      have ne : ∀ b u, h3.get? b = some u -> h'.get? b = s6.heap.get? b := fun b u q => hs'.2 b (Nat.ne_of_lt (lt3 b u q))
      have b6 : Un (frs X.stack) (D :: fp) H2 H5 h3 s6.heap := I6.base
      have u6 : Un (frs X.stack) (D :: fp) H2 H5 h3 h' := ⟨fun b o q n hb hx => (ne b o q).trans (b6.keep b o q n hb hx), fun b o q n hb hx => by
          obtain ⟨sl, z⟩ := b6.slot b o q n hb hx
          exact ⟨sl, (ne b o q).trans z⟩, b6.free, fun b o q hx => by
          obtain ⟨o', z⟩ := b6.there b o q hx
          exact ⟨o', (ne b o q).trans z⟩, b6.tups, b6.frzs, b6.tbls⟩
      have hC6 : H5 C = none := I6.free
      have hok6 : HOk X.prog X.w H5 h' := fun b ob e => (I6.hok b ob e).stay (fun c w' hc q => (hs'.2 c (by
          rintro rfl
          rcases hc with rfl | hc
          · rw [hC6] at e; cases e
          · rw [hC6] at hc; cases hc)).trans q) (fun _ q => q) fun _ _ q => q
      have I7 : Inv X pins σ H5 { s6 with heap := h' } := I3.call' (s' := { s6 with heap := h' }) (ch := D :: fp) I6.os u6 hok6 I6.bare fun b hb => by
        rcases List.mem_cons.mp hb with z | z
        · subst z
          exact ⟨fD.2.2.2.1, fD.2.1, fD.2.2.2.2.1, fD.2.2.2.2.2⟩
        · have f := f2 b z
          exact ⟨f.2.2.2.1, f.2.1, f.2.2.2.2.1, f.2.2.2.2.2⟩
      obtain ⟨gD, nD, _⟩ := I6.pin (D, oD) (by simp)
      have gD' : h'.get? D = some oD := (hs'.2 D (by rw [hCD]; exact Nat.ne_of_lt (Nat.lt_succ_self _))).trans gD
      exact ⟨.ref D, _, I7.retrack (o := .lst ys) nD ⟨nD, fD.2⟩ ⟨Nat.le_of_lt hz, its, nn, v5, gD'⟩, rfl, qn D nD⟩
    · refine thn (T.item X' rfl rfl rfl hc i _ s5 _ H5 _ I5' (fp' onlyD fr5) st5 go) fun r s6 ⟨u, hr, h6⟩ => ?_
      subst hr
      refine thn h6 fun _ s7 ⟨x, H7, I7, r7, y7, st7, fr7⟩ => ?_
      have I7' := I7.pinned (fp' onlyD fr7) (T.obj _ _ st7)
      refine thn (hg cl C (D :: fp) s3 H2 _ s7 _ H7 x u _ I7' r7 (hgk _ _ _ _ (step x H7 y7))) fun _ s8 ⟨σ8, H8, I8, q8, l8, k8⟩ => ?_
      refine thn (hct cl C (D :: fp) s3 H2 _ s8 σ8 H8 _ I8 q8) fun cb s8' ⟨H8', I8', q8'⟩ => ?_
      have pinNe : ∀ p ∈ X'.pn ++ Z4 fp s7.heap, p.1 ≠ D := fun p hp => by
        have q : p ∈ ([] : List (Addr × Obj)) ++ Z4 fp s7.heap := hp
        exact nfp _ (VE (by simpa using q)).1
      have weak : ∀ {H9 : Hp} {s9 : Shared}, Inv X' (Z4 fp s7.heap) σ8 H9 s9 -> Inv X' [] (Zy own.length ix σ) H9 s9 := fun {H9 s9} I10 => by
        refine Inv.weak (I10.pins_of (pins' := []) fun p hp => nomatch hp) (by rw [l8]) fun j v hj => ?_
        by_cases hlt : j < own.length
        · unfold Zy at hj
          rw [List.getElem?_append_left (by simpa using hlt), List.getElem?_replicate, if_pos hlt] at hj
          cases hj
        · have e : σ8[j]? = (Zy own.length ix σ)[j]? := by
            have q := congrArg (fun l : List (Option V) => l[j - own.length]?) k8
            simp only [List.getElem?_drop] at q
            rwa [Nat.add_sub_cancel' (Nat.le_of_not_lt hlt)] at q
          rw [e]; exact hj
      have cut : ∀ {H9 : Hp} {s9 : Shared}, Inv X' ((D, oD) :: Z4 fp s7.heap) σ8 H9 s9 -> Inv X' (Z4 fp s7.heap) σ8 H9 s9 := fun {H9 s9} I9 => I9.pins_of fun p hp => I9.pin p (List.mem_append_right _ (List.mem_cons_of_mem _ hp))
      cases cb with
      | false =>
        rw [if_neg (by simp)] at q8'
        rw [if_neg (by simp)]
        obtain ⟨m', hm', w9⟩ := q8'
        obtain ⟨gD, nD, _⟩ := I8'.pin (D, oD) (by simp)
        have I10 := cut I8'
        refine ⟨m', hm', i + 1, ys, its, H8', weak I10, ?_, ?_, nD, ⟨nn, gD⟩, v5, w9⟩
        · exact T.keep _ _ _ st7 fun b hb o e => (I10.pin (b, o) (List.mem_append_right _ (Zz hb e))).1
        · intro b hb
          obtain ⟨o, e, d⟩ := T.obj _ _ st7 b hb
          exact (I10.pin (b, o) (List.mem_append_right _ (Zz hb e))).2.1
      | true =>
        rw [if_pos rfl] at q8'
        rw [if_pos rfl]
        refine thn (he cl C (D :: fp) s3 H2 _ s8' σ8 H8' _ I8' q8') fun yv s9 ⟨y, H9, I9, r9, m', hm', w9⟩ => ?_
        obtain ⟨gD, nD, _⟩ := I9.pin (D, oD) (by simp)
        have hlen : its.length = ys.length := v5.length.symm
        refine wpAny_list_append_plain (l := D) (items := its.toArray) ⟨nn, gD⟩ (fun h' hl' hs' => ?_) (by rw [List.size_toArray, hlen]; exact Nat.le_of_lt hz)
        have kp : ∀ b o, b ≠ D -> s9.heap.get? b = some o -> h'.get? b = some o := fun b o hb q => (hs'.2 b hb).trans q
        have I10 : Inv X' (Z4 fp s7.heap) σ8 H9 { s9 with heap := h', toks := s9.toks } := (cut I9).turned (it := D) kp nD dX (.inl List.mem_cons_self) (ok'.exf D List.mem_cons_self).2 pinNe
        refine ⟨m', hm', i + 1, ys ++ [y], its ++ [yv], H9, weak I10, ?_, ?_, nD, ?_, v5.append (.cons r9 .nil), w9⟩
        · exact T.keep _ _ _ st7 fun b hb o e => (I10.pin (b, o) (List.mem_append_right _ (Zz hb e))).1
        · intro b hb
          obtain ⟨o, e, d⟩ := T.obj _ _ st7 b hb
          exact (I10.pin (b, o) (List.mem_append_right _ (Zz hb e))).2.1
        · have e : (its ++ [yv]).toArray = its.toArray.push yv := by simp
          rw [e]; exact hl'
  rw [<- hC, <- hD]
  exact codeAny_compStart_list (loop _) (T.self _ 0 _ _ _ (T.keep 0 _ _ st2 fun b _ o e => k34 _ _ (k23 _ _ e)) (loop _))
theorem ps_compI {elt tg iter ct : Expr} {tc : TT} {scope : Scope} {pos spos py : Pos} {wi : TI} {g : TG} {te : TE} {i0 : Nat} {x0 : Str} (own : List Str) (ix : List Nat) (hc : X.calm = true) (hN : X.N.Nodup) (hi0 : X.N[i0]? = some x0) (hx0 : Loc X.env.scope x0) (hi : PI X tg iter wi)
    (hkind : scope.kind = .function) (hnames : ∀ x ∈ scope.names, x.2 = .local -> scope.names.lookup x.1 = some .local) (hcell : ∀ x ∈ scope.names, x.2 ≠ .cell)
    (hcap : ∀ x ∈ scope.names, x.2 = .free -> X.env.scope.names.lookup x.1 = some .cell ∨ X.env.scope.names.lookup x.1 = some .free)
    (hix : ∀ j ∈ ix, ∃ y, X.N[j]? = some y /\ scope.names.lookup y = some .free) (hgk : GK own.length g)
    (hg : ∀ cl C fp s H, PG (Z6 X (Z7 X own ix) scope cl C fp s H) tg g) (hct : ∀ cl C fp s H, PT (Z6 X (Z7 X own ix) scope cl C fp s H) ct tc) (he : ∀ cl C fp s H, PE (Z6 X (Z7 X own ix) scope cl C fp s H) elt te)
    (hsw : swapsWith (.ListComp elt [⟨tg, iter, [ct], 0⟩] scope pos) (some (.Name x0 py)) spos.line X.env = pure true) (hf : X.fn x0 = true ∨ X.env.scope.names.lookup x0 = some .local)
    (hs : ∀ x, foldedSetIterable iter X.env x = pure x := by intro _; rfl) :
    PS X (.Assign [.Name x0 py] (.ListComp elt [⟨tg, iter, [ct], 0⟩] scope pos) spos) (tAsg (tCompI own.length ix wi g tc te) (Y2 i0)) := by
  intro pins s σ H D0 I h
  have hcells : ∀ x ∈ scope.names, x.2 = .free -> ∃ c, X.env.cells.lookup x.1 = some c := fun x hx hf => I.ok.has x.1 (hcap x hx hf)
  obtain ⟨cl, hcl, hcl1, hcl2⟩ := VQ hcells
  have used := exec_Assign_Name_used _ _ _ _ hsw
  rw [used]
  refine wpAny_bind (wpAny_standAt (wpAny_bind (?_ : wpAny _ X.A (do let _ <- comprehension (.ListComp elt [⟨tg, iter, [ct], 0⟩] scope pos) scope X.env _ (newList []) false (eval iter X.env) (some (assign (.Name x0 py) X.env))) _ _ s)))
  refine wpAny_bind (wpAny_mono (wpAny_comprehension_free (use := some (assign (.Name x0 py) X.env)) (Q := fun _ s' => ∃ σ' H', Inv X pins σ' H' s' /\ D0.nx σ' H') rfl hs hcl hkind hnames ?_) (fun _ s' hq => wpAny_pure (wpAny_pure hq)) fun _ _ e => e)
  refine thn (hi pins s σ H _ I h) fun v s1 h1 => thn h1 fun itv s2 h2 => ?_
  obtain ⟨it, fp, tn, J, H2, e, I2, T, st2, f2, W, ⟨m0, w0⟩, turn⟩ := h2
  subst e
  refine wpAny_newObj_type (wpAny_newFunctionEnv hcell (by intro y hy; simp at hy) (fun h4 hns hsb => ?_) hkind)
  dsimp only at hns hsb ⊢
  -- the list
  generalize hh3 : s2.heap.push { cls := .type "list", dict := none, data := .seq ([] : List Value).toArray } = h3 at hns hsb ⊢
  have sz3 : h3.objs.size = s2.heap.objs.size + 1 := by rw [<- hh3, Heap.size_push]
  have k23 : ∀ b u, s2.heap.get? b = some u -> h3.get? b = some u := fun b u q => by rw [<- hh3]; exact Heap.get?_push_of_some _ q
  have D3 : h3.get? s2.heap.objs.size = some { cls := .type "list", data := .seq #[] } := by rw [<- hh3]; exact Heap.get?_push_size _ rfl
  obtain ⟨D, hD⟩ : ∃ D, D = s2.heap.objs.size := ⟨_, rfl⟩
  obtain ⟨C, hC⟩ : ∃ C, C = h3.objs.size := ⟨_, rfl⟩
  rw [<- hC] at hns hsb
  rw [<- hD] at D3 sz3
  have hCD : C = D + 1 := hC.trans sz3
  let s3 : Shared := { s2 with heap := h3 }
  have I3 : Inv X pins σ H2 s3 := I2.kept (t' := s2.toks) k23
  have lt3 : ∀ b u, h3.get? b = some u -> b < C := fun b u q => by rw [hC]; exact Heap.lt_size q
  have k34 : ∀ b u, h3.get? b = some u -> h4.get? b = some u := fun b u q => hsb.extBut b u (Nat.ne_of_lt (lt3 b u q)) (Heap.get?_push_of_some _ q)
  have H2D : H2 D = none := I2.hok.fresh (by rw [hD]; exact Nat.le_refl _)
  have H2C : H2 C = none := I2.hok.fresh (by rw [hCD, hD]; exact Nat.le_succ _)
  have fD : VA X pins H2 D := I2.fpOk (by rw [hD]; exact Nat.le_refl _) H2D
  have cellsLt : ∀ x c, X.env.cells.lookup x = some c -> c < D := fun x c e => by
    obtain ⟨v, z⟩ := I2.cell x c e
    rw [hD]; exact z.lt
  -- the iterator's own objects stand below the list
  have fpLt : ∀ b ∈ fp, b < D := fun b hb => by
    obtain ⟨o, e, _⟩ := T.obj 0 _ st2 b hb
    rw [hD]; exact Heap.lt_size e
  let X' : Cx := Z6 X (Z7 X own ix) scope cl C (D :: fp) s3 H2
  have stkLt : ∀ b ∈ frs X.stack, b ∉ D :: fp := fun b hb z => by
    rcases List.mem_cons.mp z with z | z
    · have q := I2.stack
      obtain ⟨_, o, e, _⟩ := q.mem hb
      have := Heap.lt_size e
      rw [z, hD] at this
      exact Nat.lt_irrefl _ this
    · rcases List.mem_cons.mp (I2.stkSub b hb) with q | q
      · exact (f2 b z).2.1 q
      · exact (f2 b z).2.2.1 q
  have ok' : X'.Ok := by
    refine ⟨I.ok.mod, hkind, I.ok.glob, I.ok.blt, ?_, fun x y c h1 h2 => I.ok.inj x y c (hcl1 x c h1) (hcl1 y c h2), fun x hx => hcl2 x (Yb (scope := scope) hx hcell), (fun x c z => Bool.noConfusion (show false = true from z)), I.ok.hd, I.ok.frames, .inl rfl, fun b hb => ⟨?_, fun x c h1 => ?_⟩, fun b o e => ?_, ?_, fun b o e hb => ?_, fun b hb z => stkLt b z hb, ?_, fun b hb => I2.stkFree b hb⟩
    · show h3.objs.size <= C
      rw [hC]; exact Nat.le_refl _
    · show b ≠ C
      rcases List.mem_cons.mp hb with z | z
      · rw [z, hCD]; exact Nat.ne_of_lt (Nat.lt_succ_self _)
      · rw [hCD]; exact Nat.ne_of_lt (Nat.lt_succ_of_lt (fpLt b z))
    · rcases List.mem_cons.mp hb with z | z
      · rw [z]; exact Nat.ne_of_lt (cellsLt x c (hcl1 x c h1))
      · exact (f2 b z).2.2.2.2.1 x c (hcl1 x c h1)
    · exact I3.bs b o e
    · show X.base.objs.size <= h3.objs.size
      have := Nat.le_trans I.ok.bsz I2.sz
      rw [<- hD] at this
      rw [<- hC, hCD]
      exact Nat.le_succ_of_le this
    · rcases List.mem_cons.mp hb with z | z
      · have := Heap.lt_size (I2.bk b o e)
        rw [z, hD] at this
        exact Nat.lt_irrefl _ this
      · rcases (f2 b z).2.2.2.1 with q | q
        · exact I.ok.noex b o e q
        · have := Nat.lt_of_lt_of_le (Heap.lt_size (I.ok.bs b o e).1) q
          exact Nat.lt_irrefl _ this
    · exact I3.stack
  have lenN : (Zy own.length ix σ).length = (Z7 X own ix).length := by simp [Zy, Z7]
  have I4 : ∀ t, Inv X' [] (Zy own.length ix σ) H2 { s2 with heap := h4, toks := t } := fun t => by
    refine ⟨ok', rfl, I2.bare, Un.kept k34, ⟨_, hns, fun i x v e1 e2 e3 => ?_⟩, fun x c e => ?_, H2C, fun x c e => I2.freeC x c (hcl1 x c e), fun p hp => absurd (show p ∈ ([] : List (Addr × Obj)) from hp) (by simp), (I3.hok).kept k34, lenN⟩
    · -- a name of the def that the block reads
      have hi' : own.length <= i := by
        apply Nat.le_of_not_lt
        intro hlt
        unfold Zy at e2
        rw [List.getElem?_append_left (by simpa using hlt), List.getElem?_replicate, if_pos hlt] at e2
        cases e2
      have e1' : (ix.map fun j => X.N.getD j ("" : Str))[i - own.length]? = some x := by
        have z : (own ++ ix.map fun j => X.N.getD j ("" : Str))[i]? = some x := e1
        rwa [List.getElem?_append_right hi'] at z
      have e2' : (ix.map fun j => σ.getD j none)[i - own.length]? = some (some v) := by
        unfold Zy at e2
        rw [List.getElem?_append_right (by simpa using hi')] at e2
        simpa using e2
      rw [List.getElem?_map] at e1' e2'
      cases hj : ix[i - own.length]? with
      | none => rw [hj] at e1'; cases e1'
      | some j =>
        rw [hj] at e1' e2'
        obtain ⟨y, hy, hfree⟩ := hix j (List.mem_of_getElem? hj)
        have ex : x = y := by
          have z : X.N.getD j ("" : Str) = x := Option.some.inj e1'
          rw [<- z, List.getD_eq_getElem?_getD, hy]; rfl
        subst ex
        have ev : σ[j]? = some (some v) := by
          have z : σ.getD j none = some v := Option.some.inj e2'
          rw [List.getD_eq_getElem?_getD] at z
          cases q : σ[j]? with
          | none => rw [q] at z; cases z
          | some a => rw [q] at z; exact congrArg some z
        have hxm := PySem.mem_of_lookup hfree
        have hvis := hcap _ hxm rfl
        obtain ⟨m, hn, hl⟩ := I2.loc
        obtain ⟨u, r, lk⟩ := hl j x v hy ev (.inr hvis)
        refine ⟨u, r, .inr ⟨?_, ?_⟩⟩
        · rcases e3 with z | z
          · exact absurd z (Yo hfree)
          · exact z
        · rcases lk with ⟨k, _⟩ | ⟨_, c, hc1, z⟩
          · rcases hvis with q | q
            · exact absurd (k.symm.trans q) (by simp)
            · exact absurd (k.symm.trans q) (by simp)
          · obtain ⟨c', hc'⟩ := hcl2 x hxm
            have := hcl1 x c' hc'
            rw [hc1] at this
            cases this
            obtain ⟨o, ho, hd⟩ := z
            exact ⟨c, hc', o, k34 _ _ (k23 _ _ ho), hd⟩
    · obtain ⟨v, z⟩ := I3.cell x c (hcl1 x c e)
      obtain ⟨o, ho, hd⟩ := z
      exact ⟨v, o, k34 _ _ ho, hd⟩
  have nfp : ∀ b ∈ fp, b ≠ D := fun b hb => Nat.ne_of_lt (fpLt b hb)
  have fp' : ∀ {H' : Hp} {pl : List (Addr × Obj)}, (∀ p ∈ pl, p.1 = D) -> (∀ b ∈ fp, H' b = none) -> ∀ b ∈ fp, VA X' pl H' b := fun {H' pl} hp hn b hb =>
    ⟨hn b hb, (ok'.exf b (List.mem_cons_of_mem _ hb)).1, ok'.exfs b (List.mem_cons_of_mem _ hb), .inl (List.mem_cons_of_mem _ hb), (ok'.exf b (List.mem_cons_of_mem _ hb)).2, fun p hp' z => nfp b hb (z ▸ hp p (by
      have q : p ∈ ([] : List (Addr × Obj)) ++ pl := hp'
      simpa using q))⟩
  have dX : D ≠ X'.env.locals := (ok'.exf D List.mem_cons_self).1
  have dF : D ∉ X'.fs := ok'.exfs D List.mem_cons_self
  have loop : ∀ t, codeAny (model X.prog X.w) X.A (.compLoop (.ListComp elt [⟨tg, iter, [ct], 0⟩] scope pos) 0 (.ref it) (.ref D) (compEnvC scope cl C X.env))
      (compPost (model X.prog X.w) X.A X.xe (some (assign (.Name x0 py) X.env)) (fun _ s' => ∃ σ' H', Inv X pins σ' H' s' /\ D0.nx σ' H') (.ref D) C) { s2 with heap := h4, toks := t } := fun t => by
    have st4 : tn 0 h4 := T.keep 0 _ _ st2 fun b _ o e => k34 _ _ (k23 _ _ e)
    refine JC (fun n s' => ∃ i ys its H', Inv X' [] (Zy own.length ix σ) H' s' /\ tn i s'.heap /\ (∀ b ∈ fp, H' b = none) /\ H' D = none /\ s'.heap.PlainList D (List.toArray its) /\ Vals ys its /\ W i n ys H') ?_ m0
      ⟨0, [], [], H2, I4 t, st4, fun b hb => (f2 b hb).1, H2D, ⟨_, k34 _ _ D3⟩, .nil, w0⟩
    rintro n s5 ⟨i, ys, its, H5, I5, st5, fr5, d5, ⟨nn, l5⟩, v5, w5⟩
    obtain ⟨hz, hcase⟩ := turn i n ys H5 w5
    let oD : Obj := { cls := .type "list", data := .seq its.toArray nn }
    have onlyD : ∀ p ∈ [((D, oD) : Addr × Obj)], p.1 = D := fun p hp => by
      have e : p = (D, oD) := by simpa using hp
      rw [e]
    have I5' : Inv X' [(D, oD)] (Zy own.length ix σ) H5 s5 := I5.pins_of fun p hp => by
      have e : p = (D, oD) := by simpa using hp
      subst e
      exact ⟨l5, d5, dX, dF, fun v z => nomatch z⟩
    rcases hcase with ⟨stop, qn⟩ | ⟨go, step⟩
    · refine thn (T.done X' rfl rfl rfl hc i _ s5 _ H5 _ I5' (fp' onlyD fr5) st5 stop) fun r s6 ⟨hr, I6⟩ => ?_
      subst hr
      obtain ⟨m, hn6, _⟩ := id I6.loc
      have I7 : Inv X pins σ H5 s6 := I3.call' (ch := D :: fp) I6.os I6.base I6.hok I6.bare fun b hb => by
        rcases List.mem_cons.mp hb with z | z
        · subst z
          exact ⟨fD.2.2.2.1, fD.2.1, fD.2.2.2.2.1, fD.2.2.2.2.2⟩
        · have f := f2 b z
          exact ⟨f.2.2.2.1, f.2.1, f.2.2.2.2.1, f.2.2.2.2.2⟩
      obtain ⟨gD, nD, _⟩ := I6.pin (D, oD) (by simp)
      have I8 := I7.retrack (o := .lst ys) nD ⟨nD, fD.2⟩ ⟨Nat.le_of_lt hz, its, nn, v5, gD⟩
      have fC : VA X pins (upd H5 D (.lst ys)) C := I2.fpOk (by rw [hCD, hD]; exact Nat.le_succ _) (by rw [ZJ (by rw [hCD]; exact Nat.ne_of_gt (Nat.lt_succ_self _))]; exact I6.free)
      show wpAny _ X.A (assign (.Name x0 py) X.env (.ref D)) _ _ _
      refine wpAny_assign_Name (JD (v := .ref D) I8 hN hi0 hx0 rfl (fun s7 I9 hs7 => ?_) hf)
      obtain ⟨a, hs7, ha⟩ := hs7
      have hCa : C ≠ a := by
        rcases ha with ha | ha
        · rw [ha]; exact fC.2.1
        · exact fun z => fC.2.2.2.2.1 x0 a ha z.symm
      refine ⟨m, hn6.sameBut hs7 hCa, fun h' hs' => ⟨_, _, I9.turned (it := C) (t' := s7.toks) (fun b o hb e => (hs'.2 b hb).trans e) fC.1 fC.2.1 fC.2.2.2.1 fC.2.2.2.2.1 fC.2.2.2.2.2, qn D nD⟩⟩
    · refine thn (T.item X' rfl rfl rfl hc i _ s5 _ H5 _ I5' (fp' onlyD fr5) st5 go) fun r s6 ⟨u, hr, h6⟩ => ?_
      subst hr
      refine thn h6 fun _ s7 ⟨x, H7, I7, r7, y7, st7, fr7⟩ => ?_
      have I7' := I7.pinned (fp' onlyD fr7) (T.obj _ _ st7)
      refine thn (hg cl C (D :: fp) s3 H2 _ s7 _ H7 x u _ I7' r7 (hgk _ _ _ _ (step x H7 y7))) fun _ s8 ⟨σ8, H8, I8, q8, l8, k8⟩ => ?_
      refine thn (hct cl C (D :: fp) s3 H2 _ s8 σ8 H8 _ I8 q8) fun cb s8' ⟨H8', I8', q8'⟩ => ?_
      have pinNe : ∀ p ∈ X'.pn ++ Z4 fp s7.heap, p.1 ≠ D := fun p hp => by
        have q : p ∈ ([] : List (Addr × Obj)) ++ Z4 fp s7.heap := hp
        exact nfp _ (VE (by simpa using q)).1
      have weak : ∀ {H9 : Hp} {s9 : Shared}, Inv X' (Z4 fp s7.heap) σ8 H9 s9 -> Inv X' [] (Zy own.length ix σ) H9 s9 := fun {H9 s9} I10 => by
        refine Inv.weak (I10.pins_of (pins' := []) fun p hp => nomatch hp) (by rw [l8]) fun j v hj => ?_
        by_cases hlt : j < own.length
        · unfold Zy at hj
          rw [List.getElem?_append_left (by simpa using hlt), List.getElem?_replicate, if_pos hlt] at hj
          cases hj
        · have e : σ8[j]? = (Zy own.length ix σ)[j]? := by
            have q := congrArg (fun l : List (Option V) => l[j - own.length]?) k8
            simp only [List.getElem?_drop] at q
            rwa [Nat.add_sub_cancel' (Nat.le_of_not_lt hlt)] at q
          rw [e]; exact hj
      have cut : ∀ {H9 : Hp} {s9 : Shared}, Inv X' ((D, oD) :: Z4 fp s7.heap) σ8 H9 s9 -> Inv X' (Z4 fp s7.heap) σ8 H9 s9 := fun {H9 s9} I9 => I9.pins_of fun p hp => I9.pin p (List.mem_append_right _ (List.mem_cons_of_mem _ hp))
      cases cb with
      | false =>
        rw [if_neg (by simp)] at q8'
        rw [if_neg (by simp)]
        obtain ⟨m', hm', w9⟩ := q8'
        obtain ⟨gD, nD, _⟩ := I8'.pin (D, oD) (by simp)
        have I10 := cut I8'
        refine ⟨m', hm', i + 1, ys, its, H8', weak I10, ?_, ?_, nD, ⟨nn, gD⟩, v5, w9⟩
        · exact T.keep _ _ _ st7 fun b hb o e => (I10.pin (b, o) (List.mem_append_right _ (Zz hb e))).1
        · intro b hb
          obtain ⟨o, e, d⟩ := T.obj _ _ st7 b hb
          exact (I10.pin (b, o) (List.mem_append_right _ (Zz hb e))).2.1
      | true =>
        rw [if_pos rfl] at q8'
        rw [if_pos rfl]
        refine thn (he cl C (D :: fp) s3 H2 _ s8' σ8 H8' _ I8' q8') fun yv s9 ⟨y, H9, I9, r9, m', hm', w9⟩ => ?_
        obtain ⟨gD, nD, _⟩ := I9.pin (D, oD) (by simp)
        have hlen : its.length = ys.length := v5.length.symm
        refine wpAny_list_append_plain (l := D) (items := its.toArray) ⟨nn, gD⟩ (fun h' hl' hs' => ?_) (by rw [List.size_toArray, hlen]; exact Nat.le_of_lt hz)
        have kp : ∀ b o, b ≠ D -> s9.heap.get? b = some o -> h'.get? b = some o := fun b o hb q => (hs'.2 b hb).trans q
        have I10 : Inv X' (Z4 fp s7.heap) σ8 H9 { s9 with heap := h', toks := s9.toks } := (cut I9).turned (it := D) kp nD dX (.inl List.mem_cons_self) (ok'.exf D List.mem_cons_self).2 pinNe
        refine ⟨m', hm', i + 1, ys ++ [y], its ++ [yv], H9, weak I10, ?_, ?_, nD, ?_, v5.append (.cons r9 .nil), w9⟩
        · exact T.keep _ _ _ st7 fun b hb o e => (I10.pin (b, o) (List.mem_append_right _ (Zz hb e))).1
        · intro b hb
          obtain ⟨o, e, d⟩ := T.obj _ _ st7 b hb
          exact (I10.pin (b, o) (List.mem_append_right _ (Zz hb e))).2.1
        · have e : (its ++ [yv]).toArray = its.toArray.push yv := by simp
          rw [e]; exact hl'
  rw [<- hC, <- hD]
  exact codeAny_compStart_list (loop _) (T.self _ 0 _ _ _ (T.keep 0 _ _ st2 fun b _ o e => k34 _ _ (k23 _ _ e)) (loop _))
theorem pe_cmpi {elt tg iter ct : Expr} {scope : Scope} {pos : Pos} {wi : TI} {g : TG} {tc : TT} {te : TE} (own : List Str) (ix : List Nat) (hi : PI X tg iter wi) (hgk : GK own.length g)
    (hg : ∀ cl C fp s H, PG (Z6 X (Z7 X own ix) scope cl C fp s H) tg g) (hct : ∀ cl C fp s H, PT (Z6 X (Z7 X own ix) scope cl C fp s H) ct tc) (he : ∀ cl C fp s H, PE (Z6 X (Z7 X own ix) scope cl C fp s H) elt te)
    (hc : X.calm = true := by rfl) (hkind : scope.kind = .function := by rfl) (hok : Vf scope X.env.scope.names X.N ix = true := by rfl)
    (hs : ∀ x, foldedSetIterable iter X.env x = pure x := by intro _; rfl) :
    PE X (.ListComp elt [⟨tg, iter, [ct], 0⟩] scope pos) (tCompI own.length ix wi g tc te) := by
  unfold Vf at hok
  rw [Bool.and_eq_true, List.all_eq_true, List.all_eq_true] at hok
  obtain ⟨h1, h2⟩ := hok
  refine pe_compI own ix hc hi hkind (fun x hx hl => ?_) (fun x hx => ?_) (fun x hx hf => ?_) (fun j hj => ?_) hgk hg hct he hs
  · have q := h1 x hx
    simp only [Bool.and_eq_true, Bool.or_eq_true, decide_eq_true_eq] at q
    exact q.1.1.resolve_left fun z => z hl
  · have q := h1 x hx
    simp only [Bool.and_eq_true, Bool.or_eq_true, decide_eq_true_eq] at q
    exact q.1.2
  · have q := h1 x hx
    simp only [Bool.and_eq_true, Bool.or_eq_true, decide_eq_true_eq] at q
    rcases q.2 with (z | z) | z
    · exact absurd hf z
    · exact .inl z
    · exact .inr z
  · have q := h2 j hj
    cases e : X.N[j]? with
    | none => rw [e] at q; cases q
    | some y => rw [e] at q; exact ⟨y, rfl, of_decide_eq_true q⟩
theorem Jp {elt tg iter ct : Expr} {scope : Scope} {pos spos py : Pos} {wi : TI} {g : TG} {tc : TT} {te : TE} {i0 : Nat} {x0 : Str} (own : List Str) (ix : List Nat) (hN : X.N.Nodup) (hi0 : X.N[i0]? = some x0) (hx0 : Loc X.env.scope x0) (hi : PI X tg iter wi) (hgk : GK own.length g)
    (hg : ∀ cl C fp s H, PG (Z6 X (Z7 X own ix) scope cl C fp s H) tg g) (hct : ∀ cl C fp s H, PT (Z6 X (Z7 X own ix) scope cl C fp s H) ct tc) (he : ∀ cl C fp s H, PE (Z6 X (Z7 X own ix) scope cl C fp s H) elt te)
    (hc : X.calm = true := by rfl) (hkind : scope.kind = .function := by rfl) (hok : Vf scope X.env.scope.names X.N ix = true := by rfl)
    (hsw : swapsWith (.ListComp elt [⟨tg, iter, [ct], 0⟩] scope pos) (some (.Name x0 py)) spos.line X.env = pure true := by rfl) (hf : X.fn x0 = true ∨ X.env.scope.names.lookup x0 = some .local := by first | exact .inl rfl | exact .inr rfl | assumption)
    (hs : ∀ x, foldedSetIterable iter X.env x = pure x := by intro _; rfl) :
    PS X (.Assign [.Name x0 py] (.ListComp elt [⟨tg, iter, [ct], 0⟩] scope pos) spos) (tAsg (tCompI own.length ix wi g tc te) (Y2 i0)) := by
  unfold Vf at hok
  rw [Bool.and_eq_true, List.all_eq_true, List.all_eq_true] at hok
  obtain ⟨h1, h2⟩ := hok
  refine ps_compI own ix hc hN hi0 hx0 hi hkind (fun x hx hl => ?_) (fun x hx => ?_) (fun x hx hf => ?_) (fun j hj => ?_) hgk hg hct he hsw hf hs
  · have q := h1 x hx
    simp only [Bool.and_eq_true, Bool.or_eq_true, decide_eq_true_eq] at q
    exact q.1.1.resolve_left fun z => z hl
  · have q := h1 x hx
    simp only [Bool.and_eq_true, Bool.or_eq_true, decide_eq_true_eq] at q
    exact q.1.2
  · have q := h1 x hx
    simp only [Bool.and_eq_true, Bool.or_eq_true, decide_eq_true_eq] at q
    rcases q.2 with (z | z) | z
    · exact absurd hf z
    · exact .inl z
    · exact .inr z
  · have q := h2 j hj
    cases e : X.N[j]? with
    | none => rw [e] at q; cases q
    | some y => rw [e] at q; exact ⟨y, rfl, of_decide_eq_true q⟩
end
def rDictP (K : PySem.W.Frag) : List V -> Hp -> VK -> Prop := fun xs H Q => ∃ (p : Addr) (ts : List Addr) (kvs : List (Key × V)), xs = [.ref p] /\ SqL K H p (ts.map V.ref) /\ PrsAt K H ts kvs /\ (kvs.map (·.1)).Nodup /\ ∀ l, H l = none -> Q (.ref l) (upd H l (.dK kvs))
theorem call_dictP {X : Cx} (hc : X.calm = true) : Yq X (.type "dict") (rDictP X.K) := Jj hc
theorem SameB.same {p : Addr} {H H' : Hp} (a : SameB p H H') (f : H p = none) : Same H H' := fun b o e => a b o (ZO e f) e
theorem kinds_prs {K : PySem.W.Frag} {H : Hp} : ∀ {ks : List (Str × Shp)} {xs : List V}, HasL H xs (ks.map VF) -> ∃ (ts : List Addr) (kvs : List (Key × V)), xs = ts.map V.ref /\ PrsAt K H ts kvs /\ kvs.map (·.1) = ks.map (fun k => Sum.inr k.1) /\
    ∀ y s, Jg ks y = some s -> ∃ v, YE kvs (Sum.inr y) = some v /\ Has H v s.dat
  | [], xs, h => by
    have l := h.length
    rw [List.map_nil, List.length_nil] at l
    have e : xs = [] := List.length_eq_zero_iff.mp l
    subst e
    exact ⟨[], [], rfl, ⟨rfl, fun i a k y e => by simp at e⟩, rfl, fun y s e => by simp [Jg] at e⟩
  | (z, sh) :: ks, xs, h => by
    match xs, h with
    | [], h => unfold HasL at h; exact h.elim
    | x :: xs, h =>
      rw [List.map_cons] at h
      unfold HasL at h
      obtain ⟨h1, h2⟩ := h
      obtain ⟨a, v, rfl, ha, hv⟩ := has_kind h1
      obtain ⟨ts, kvs, rfl, ⟨tl, tp⟩, ek, hs⟩ := kinds_prs (K := K) h2
      refine ⟨a :: ts, (Sum.inr z, v) :: kvs, rfl, ⟨by simp [tl], fun i b k y e1 e2 => ?_⟩, by rw [List.map_cons, List.map_cons, ek], fun y s e => ?_⟩
      · cases i with
        | zero =>
          have e1' : some a = some b := e1
          have e2' : some ((Sum.inr z : Key), v) = some (k, y) := e2
          cases e1'; cases e2'
          exact SqT.of ha
        | succ i => exact tp i b k y e1 e2
      · unfold Jg at e
        unfold YE
        rw [List.find?_cons] at e ⊢
        by_cases ez : z = y
        · subst ez
          simp only [decide_true] at e ⊢
          have e' : sh = s := Option.some.inj e
          subst e'
          exact ⟨v, rfl, hv⟩
        · have ez' : ¬ (Sum.inr z : Key) = Sum.inr y := fun q => ez (Sum.inr.inj q)
          simp only [ez, ez', decide_false] at e ⊢
          exact hs y s e
theorem keys_nd {ks : List (Str × Shp)} {kvs : List (Key × V)} (e : kvs.map (·.1) = ks.map (fun k => (Sum.inr k.1 : Key))) (h : (ks.map (·.1)).Nodup) : (kvs.map (·.1)).Nodup := by
  rw [e]
  unfold List.Nodup at h ⊢
  rw [List.pairwise_map] at h ⊢
  exact h.imp fun hab q => hab (Sum.inr.inj q)
theorem KK.small {c d : Str -> Nat} {ks : List (Str × Shp)} (h : KK 30 c d ks) {y : Str} (hy : y ∈ ks.map (·.1)) : d y <= 2 /\ c y <= 30 := by
  obtain ⟨s, hs⟩ := V6 hy
  have k1 := h.at hs
  cases s with
  | tags ts => obtain ⟨h1, h2, h3, h4⟩ := k1; omega
  | pair a b => obtain ⟨h1, h2, h3, h4, h5, h6⟩ := k1; exact ⟨h6, h4⟩
end L2
namespace L2
open PySem PySem.Spec PyProof.Rows PySem.W PySem.Calls
def Vx : List Int -> List Int -> Bool
  | [], [] => false
  | [], _ :: _ => true
  | _ :: _, [] => false
  | a :: as, b :: bs => if a == b then Vx as bs else decide (a < b)
def Yg {α : Type} (n : Nat) (lt : Nat -> Nat -> Bool) : KasT α -> Option α
  | .ret a => some a
  | .ask i j k => if i < n /\ j < n then Yg n lt (k (lt i j)) else none
theorem evalC_wp {α : Type} {n : Nat} {lt : Nat -> Nat -> Bool} {cmp : Nat -> Nat -> (Bool -> Shared -> Prop) -> Shared -> Prop} {s : Shared} (hc : ∀ i j C, i < n -> j < n -> C (lt i j) s -> cmp i j C s) {Q : α -> Shared -> Prop} :
    ∀ (t : KasT α) (a : α), Yg n lt t = some a -> Q a s -> t.kasWp cmp Q s
  | .ret b, a, e, h => by
    have e' : b = a := Option.some.inj e
    subst e'; exact h
  | .ask i j k, a, e, h => by
    unfold Yg at e
    by_cases hij : i < n /\ j < n
    · rw [if_pos hij] at e
      exact hc i j _ hij.1 hij.2 (evalC_wp hc (k (lt i j)) a e h)
    · rw [if_neg hij] at e; cases e
abbrev stE (h : Heap) (a : Addr) : Heap := h.update a (Obj.mapSeq fun _ => (#[] : Array Value))
abbrev stH (h : Heap) (a : Addr) (vs : List Value) : Heap := ((stE h a).push (seqObj "tuple" vs.toArray 0)).push (seqObj "list" #[] 0)
abbrev stC (h : Heap) (vs : List Value) : Heap := (h.push (seqObj "list" #[] 0)).update h.objs.size (Obj.mapSeq (· ++ vs.toArray))
abbrev stL (h : Heap) (vs : List Value) : Heap := (stC h vs).push (seqObj "list" vs.toArray 0)
section
variable {prog : Program} {w : World} {A : Around} {E : Value -> Shared -> Prop} {s : Shared}
theorem st_list_sort {κ : SortKind} {a : Addr} {n : Nat} {vs out : List Value} {lt : Nat -> Nat -> Bool} {P : PySem.Fin -> Shared -> Prop} (ho : s.heap.get? a = some (seqObj "list" vs.toArray n)) (h64 : vs.length < 64)
    (hrun : vs.length < 2 /\ out = vs ∨ 2 <= vs.length /\ (∀ h' : Heap, (∀ b o, b ≠ a -> s.heap.get? b = some o -> h'.get? b = some o) -> ∀ (Qk : SortKind -> Shared -> Prop), Qk κ { s with heap := h' } -> wpAny (model prog w) A (keyKind' vs.toArray) Qk (fun _ _ => False) { s with heap := h' }) /\
      (∀ h' : Heap, (∀ b o, b ≠ a -> s.heap.get? b = some o -> h'.get? b = some o) -> ∀ i j C, i < vs.length -> j < vs.length -> C (lt i j) { s with heap := h' } -> kas_ask prog w A κ vs i j C { s with heap := h' }) /\
      ∃ p, Yg vs.length lt (kas_sort vs.length) = some p /\ out = p.toList.map fun i => vs.getD i Value.none)
    (h : ∀ h' c, h'.get? a = some (seqObj "list" out.toArray c) -> (∀ b o, b ≠ a -> s.heap.get? b = some o -> h'.get? b = some o) -> P (.done (.ret .none)) { s with heap := h' }) : wpAny (model prog w) A (Builtin.«list.sort» ⟨[.ref a], []⟩) P E s := by
  obtain ⟨e1, ho1⟩ : ∃ n1, (stE s.heap a).get? a = some (seqObj "list" #[] n1) := ⟨_, get?_update_seq ho fun _ => #[]⟩
  have big : vs.length <= sizeLine := by rw [sizeLine_eq]; omega
  have ho6 : (stH s.heap a vs).get? a = some (seqObj "list" #[] e1) := Heap.get?_push_of_some _ (Heap.get?_push_of_some _ ho1)
  have k6 : ∀ b o, b ≠ a -> s.heap.get? b = some o -> (stH s.heap a vs).get? b = some o := fun b o hb e =>
    Heap.get?_push_of_some _ (Heap.get?_push_of_some _ (((Heap.SameBut.update s.heap a _).2 b hb).trans e))
  rw [list_sort_plain]
  refine wpAny_bind (listItems_at ho rfl (wpAny_bind (listUpdate_at ho rfl (wpAny_bind (seqEpoch_at ho1 rfl (wpAny_bind (wpAny_newTuple (wpAny_bind (wpAny_newList (wpAny_holding ?_) (Nat.zero_le _))) big)))) (by rw [List.size_toArray]; exact big) (Nat.zero_le _))))
  refine (?_ : wpAny (model prog w) A _ P E { s with heap := stH s.heap a vs })
  dsimp only
  generalize stH s.heap a vs = h6 at ho6 k6 ⊢
  have fin : P (.done (.ret .none)) { s with heap := h6.update a (Obj.mapSeq fun _ => out.toArray) } := by
    have s2 := Heap.SameBut.update h6 a (Obj.mapSeq fun _ => out.toArray)
    obtain ⟨c2, hc2⟩ : ∃ c2, (h6.update a (Obj.mapSeq fun _ => out.toArray)).get? a = some (seqObj "list" out.toArray c2) := ⟨_, get?_update_seq ho6 fun _ => out.toArray⟩
    exact h _ c2 hc2 fun b o hb e => (s2.2 b hb).trans (k6 b o hb e)
  rcases hrun with ⟨h2, rfl⟩ | ⟨h2, hk, hcm, p, hp, rfl⟩
  · have hn2 : out.toArray.size < 2 := by rw [List.size_toArray]; exact h2
    rw [if_pos hn2, if_pos hn2]
    refine wpAny_bind (wpAny_pure ?_)
    rw [StateT.run_pure]
    refine wpAny_bind (wpAny_pure ?_)
    dsimp only
    have eo : (arrOf (SortSt.mk' general' (out.toArray.zip out.toArray) #[] 7 none)).map (·.2) = out.toArray := by
      show (out.toArray.zip out.toArray).map (·.2) = out.toArray
      apply Array.ext
      · simp
      · intro i h1 h2; simp
    rw [eo]
    refine wpAny_bind (seqEpoch_at ho6 rfl (wpAny_bind (listUpdate_at ho6 rfl ?_ (Nat.zero_le _) (by rw [List.size_toArray, sizeLine_eq]; omega))))
    simp only [bne_self_eq_false, if_neg Bool.false_ne_true]
    exact wpAny_pure fin
  · have hn2 : ¬ vs.toArray.size < 2 := by rw [List.size_toArray]; omega
    rw [if_neg hn2, if_neg hn2]
    refine wpAny_bind (wpAny_mono (hk h6 k6 (fun κ' s' => κ' = κ /\ s' = { s with heap := h6 }) ⟨rfl, rfl⟩) (fun κ' s0 hk0 => ?_) fun _ _ x => x.elim)
    obtain ⟨rfl, rfl⟩ := hk0
    refine wpAny_bind (wpAny_mono (kat_run (Q := fun st' s' => s' = { s with heap := h6 } /\ arrOf st' = p.map (kas_item (vs.toArray.zip vs.toArray)) /\ p.size = vs.length /\ failedOf st' = none) (G := fun p' s' => p' = p /\ s' = { s with heap := h6 })
      rfl h2 h64 (fun p' st' s' a1 a2 a3 a4 => ⟨a4.2, by rw [<- a4.1]; exact a2, by rw [<- a4.1]; exact a1, a3⟩) (evalC_wp (hcm h6 k6) _ p hp ⟨rfl, rfl⟩)) ?_ fun _ _ e => e)
    rintro ⟨⟨⟩, st'⟩ s' ⟨rfl, har, hpz, hf⟩
    dsimp only
    have hout := kat_snds rfl har
    rw [hout]
    refine wpAny_bind (seqEpoch_at ho6 rfl (wpAny_bind (listUpdate_at ho6 rfl ?_ (Nat.zero_le _) (by rw [List.size_toArray, List.length_map, Array.length_toList, hpz, sizeLine_eq]; omega))))
    rw [hf]
    simp only [bne_self_eq_false, if_neg Bool.false_ne_true]
    exact wpAny_pure fin
theorem st_sorted {κ : SortKind} {l : Addr} {vs out : List Value} {lt : Nat -> Nat -> Bool} {Q : Value -> Shared -> Prop} (hl : s.heap.IsList l vs.toArray) (h64 : vs.length < 64)
    (hrun : vs.length < 2 /\ out = vs ∨ 2 <= vs.length /\ (∀ h' : Heap, (∀ b o, s.heap.get? b = some o -> h'.get? b = some o) -> ∀ (A' : Around), A'.units <= A.units + 8 -> ∀ (Qk : SortKind -> Shared -> Prop), Qk κ { s with heap := h' } -> wpAny (model prog w) A' (keyKind' vs.toArray) Qk (fun _ _ => False) { s with heap := h' }) /\
      (∀ h' : Heap, (∀ b o, s.heap.get? b = some o -> h'.get? b = some o) -> ∀ (A' : Around), A'.units <= A.units + 8 -> ∀ i j C, i < vs.length -> j < vs.length -> C (lt i j) { s with heap := h' } -> kas_ask prog w A' κ vs i j C { s with heap := h' }) /\
      ∃ p, Yg vs.length lt (kas_sort vs.length) = some p /\ out = p.toList.map fun i => vs.getD i Value.none)
    (h : ∀ D h' c, s.heap.objs.size <= D -> h'.get? D = some (seqObj "list" out.toArray c) -> (∀ b o, s.heap.get? b = some o -> h'.get? b = some o) -> Q (.ref D) { s with heap := h' }) : wpAny (model prog w) A (call (.builtin "sorted") [.ref l]) Q E s := by
  have big : vs.length <= sizeLine := by rw [sizeLine_eq]; omega
  have size : (stC s.heap vs).objs.size = s.heap.objs.size + 1 := (Heap.size_update ..).trans (size_push' ..)
  have hoL : (stL s.heap vs).get? (s.heap.objs.size + 1) = some (seqObj "list" vs.toArray 0) := size ▸ Heap.get?_push_size (stC s.heap vs) rfl
  have keep : ∀ b o, s.heap.get? b = some o -> (stL s.heap vs).get? b = some o := fun b o e =>
    Heap.get?_push_of_some _ ((Heap.get?_update_other _ _ (Nat.ne_of_gt (Heap.lt_size e))).trans (Heap.get?_push_of_some _ e))
  have nb : ∀ b o, s.heap.get? b = some o -> b ≠ s.heap.objs.size + 1 := fun b o e => Nat.ne_of_lt (Nat.lt_succ_of_lt (Heap.lt_size e))
  refine Calls.call_function_entry kind_sorted plain_sorted entry_sorted (args_sorted1 _) (?_ : wpAny _ _ (Builtin.«sorted» _) _ _ _)
  delta Builtin.«sorted»
  refine wpAny_bind (m := checkCount "sorted" 1 1 _) (wpAny_pure (wpAny_bind (collect_list hl (wpAny_bind (wpAny_newList (?_ : wpAny _ _ _ _ _ { s with heap := stL s.heap vs }) big)) big)))
  rw [size]
  refine wpAny_bind (wpAny_holding (wpAny_call_entry slot_list_sort ⟨_, hoL, rfl⟩ entry_list_sort ?one (args_list_sort _)))
  case one =>
    refine st_list_sort (κ := κ) (lt := lt) (out := out) (s := { s with heap := stL s.heap vs }) hoL h64 ?_ fun h' c hc hk => ?_
    · rcases hrun with r | ⟨r2, rk, ra, rp⟩
      · exact .inl r
      · exact .inr ⟨r2, fun h' hk Qk q => rk h' (fun b o e => hk b o (nb b o e) (keep b o e)) _ (by show A.units + 1 + 1 <= A.units + 8; omega) Qk q, fun h' hk i j C hi hj q => ra h' (fun b o e => hk b o (nb b o e) (keep b o e)) _ (by show A.units + 1 + 1 <= A.units + 8; omega) i j C hi hj q, rp⟩
    · exact ⟨_, rfl, wpAny_pure ⟨_, rfl, h _ h' c (Nat.le_succ _) hc fun b o e => hk b o (nb b o e) (keep b o e)⟩⟩
end
section
variable {X : Cx}
def RowsAt (K : PySem.W.Frag) (H : Hp) (ts : List Addr) (wss : List (List Int)) : Prop := ts.length = wss.length /\ ∀ (i : Nat) (a : Addr) (ws : List Int), ts[i]? = some a -> wss[i]? = some ws -> SqT K H a (ws.map V.int)
end
end L2
namespace L2
open PySem PySem.Spec PyProof.Rows
theorem dp_missT : typeLookup (.type "tuple") (Str.ofString "keys") = pure none := am_miss_of_fast (by decide +kernel)
section
variable {prog : Program} {w : World} {A : Around} {E : Value -> Shared -> Prop} {s : Shared}
theorem dp_keysT {a : Addr} {its : Array Value} {Q : Option Value -> Shared -> Prop} (pl : Jk s.heap a its) (hA : A.handled = none)
    (h : ∀ h' tk, (∀ b o, s.heap.get? b = some o -> h'.get? b = some o) -> Q none { s with heap := h', toks := tk }) :
    wpAny (model prog w) A (getAttr? (.ref a) (Str.ofString "keys")) Q E s := by
  obtain ⟨⟨c, dct, dat, sl⟩, hx, hd, hc, k, hdat⟩ := pl
  simp only at hc hdat hd
  subst hc hdat hd
  obtain ⟨h0, gs, dr, tk, os⟩ := s
  have sl' := F.slot_tuple_getattribute
  have lk' := sl'.lookup
  have bd' := sl'.bind (.ref a)
  have no' := am_tuple_getattr_none
  have ae' := sub_AttributeError
  have hT : ∀ n, (Shared.mk h0 gs dr n os).TypeIs (.ref a) "tuple" := fun n => ⟨_, hx, rfl⟩
  simp only [getAttr?, getAttrBy?, getAttrBy]
  repeat (any_goals (first | assumption | exact hT _ | ((with_reducible show wpAny _ _ (call (Value.builtin "tuple.__getattribute__") _ _) _ _ _); refine call_meets F.slot_tuple_getattribute (hT _) am_entry_tuple_getattribute (F.args_tuple_getattribute_2 _ _) (meets_getattribute_miss_tuple a its k sl (Str.ofString "keys") _ dp_missT (by decide +kernel) (by size_fits)) ⟨hx, hA, fun h' tk' e hx' => ?_⟩) | wp_step))
  have there := hx'.there
  obtain ⟨_, _, he⟩ := there
  refine (?_ : wpAny _ _ (getattributeRaised _ _ _ _ _ _ _) _ _ _)
  simp only [getattributeRaised]
  repeat any_goals first | assumption | wp_step
  exact h _ _ hx'.keeps
end
section
variable {X : Cx}
theorem JR (hc : X.calm = true) : Yq X (.type "dict") (fun xs H Q => ∃ (p : Addr) (ts : List Addr) (kvs : List (Key × V)), xs = [.ref p] /\ H p = some (.tup (ts.map V.ref)) /\ PrsAt X.K H ts kvs /\ (kvs.map (·.1)).Nodup /\ ∀ l, H l = none -> Q (.ref l) (upd H l (.dK kvs))) := by
  intro pins s σ H xs us Q I r h
  obtain ⟨p, ts, kvs, rfl, hq, hp, hn, q⟩ := h
  obtain ⟨u, rfl, ru⟩ := vals1 r
  cases ru
  obtain ⟨hz, its, r', pl⟩ := (show Z2 X.prog X.w H s.heap p (.tup (ts.map V.ref)) from I.hok p _ hq)
  rw [List.length_map] at hz
  have hlts : its.length = ts.length := by
    have := r'.length
    rw [List.length_map] at this
    exact this.symm
  have hat : ∀ (i : Nat) (a : Addr), ts[i]? = some a -> its[i]? = some (Value.ref a) := fun i a e => by
    obtain ⟨u, hu, ru⟩ := r'.get (show (ts.map V.ref)[i]? = some (V.ref a) by rw [List.getElem?_map, e]; rfl)
    rw [hu, show u = Value.ref a from ru]
  obtain ⟨vs, rel, hvs⟩ := prs_vals s.heap ts kvs hp.1 fun i a k y e1 e2 => by
    obtain ⟨its2, r2, p2, _⟩ := I.tuple (hp.2 i a k y e1 e2)
    cases r2 with
    | cons r1 t1 =>
      cases t1 with
      | cons r3 t3 =>
        cases t3
        exact ⟨_, _, p2, r1, r3⟩
  have hlv : vs.length = its.toArray.size := by rw [List.size_toArray, hlts, hp.1, <- rel.length]
  have hkeys : vs.map (·.1) = kvs.map (·.1) := by
    have all : ∀ {l : List (Key × V)} {m : List (Key × Value)}, KV l m -> m.map (·.1) = l.map (·.1) := by
      intro l m q
      induction q with
      | nil => rfl
      | cons hq t ih => rw [List.map_cons, List.map_cons, ih, hq.1]
    exact all rel
  have hpl : p < s.heap.objs.size := by
    obtain ⟨o, e, _⟩ := pl
    exact Heap.lt_size e
  refine callType_codes (Q₁ := fun ob t => ob = .ref s.heap.objs.size /\ t = { s with heap := s.heap.push { cls := .type "dict", data := .dict #[] } }) F.kt_called_dict (F.kt_typeCall_dict_1 _) F.entry_dict_init (kt_code_dict_new _ ⟨rfl, rfl⟩) fun ob t ht => ?_
  obtain ⟨rfl, rfl⟩ := ht
  have hnew : (s.heap.push { cls := .type "dict", data := .dict #[] }).DictOf (Zx X.prog X.w) s.heap.objs.size [] := Heap.DictOf.new s.heap
  have k0 : ∀ b o, s.heap.get? b = some o -> (s.heap.push { cls := .type "dict", data := .dict #[] }).get? b = some o := fun b o e => Heap.get?_push_of_some _ e
  refine And.intro hnew.typeIs (And.intro (F.args_dict_init_2 _ _) ?_)
  delta Builtin.«dict.__init__» Builtin.Dict.selfAndRest
  refine wpAny_bind (wpAny_bind (wpAny_notOrdered_dict hnew.typeIs (wpAny_pure (?_ : wpAny _ _ (Builtin.Dict.updateFrom "dict.__init__" s.heap.objs.size (.ref p) [] .none) _ _ _))))
  delta Builtin.Dict.updateFrom
  have pl' := pl.keeps k0
  refine wpAny_bind (wpAny_typeOf (T := "tuple") (show Shared.TypeIs _ _ _ from let ⟨o, h1, _, h2, _⟩ := pl'; ⟨o, h1, h2⟩) ?_)
  rw [if_pos (by decide)]
  refine wpAny_bind (dp_keysT pl' (I.ok.hd hc) fun h1 tk1 hk1 => ?_)
  simp only [Option.isNone_none, if_true]
  refine wpAny_bind (wpAny_rule ?_)
  refine wpAny_bind (wpAny_pyIter_tuple (show Heap.IsTuple _ _ _ from (pl'.keeps hk1).is) ?_)
  have ld : s.heap.objs.size < h1.objs.size := by
    obtain ⟨o, es, ep, ho, _⟩ := hnew
    exact Heap.lt_size (hk1 _ _ ho)
  have k1 : ∀ b o, s.heap.get? b = some o -> (h1.push { cls := .type "tuple_iterator", data := .fields #[.ref p, .int 0 0] }).get? b = some o := fun b o e => Heap.get?_push_of_some _ (hk1 b o (k0 b o e))
  refine wpAny_pure ⟨plainId_quiet Ve _, dp_loop (Walks.tuple (A := X.A.in1.in1) (I.ok.hd hc) h1.objs.size p (Nat.ne_of_lt (Nat.lt_trans hpl ld)) its.toArray) (h₀ := s.heap) (vs := vs) hlv (by rw [<- rel.length, <- hp.1]; exact hz) (by rw [hkeys]; exact hn) ?_ s.heap.objs.size ?_ ?_ .none _ 0 _ 0 0 rfl (Nat.zero_le _) ?_ ?_ k1 ?_⟩
  · intro i v hv
    have hi : i < its.length := by
      have := (Array.getElem?_eq_some_iff.mp hv).1
      rwa [List.size_toArray] at this
    have ht : i < ts.length := by omega
    obtain ⟨k, ku, vu, e1, e2, e3⟩ := hvs i ts[i] (List.getElem?_eq_getElem ht)
    refine ⟨ts[i], k, ku, vu, ?_, e1, e2, kV_is e3⟩
    have := hat i ts[i] (List.getElem?_eq_getElem ht)
    have hv' : its[i]? = some v := by simpa using hv
    rw [this] at hv'
    exact (Option.some.inj hv').symm
  · intro hm
    have two : s.heap.objs.size = h1.objs.size ∨ s.heap.objs.size = p := by simpa using hm
    rcases two with e | e
    · exact absurd e (Nat.ne_of_lt ld)
    · exact absurd e (Nat.ne_of_gt hpl)
  · intro b o e
    have hb := Heap.lt_size e
    refine ⟨fun hm => ?_, Nat.ne_of_lt hb⟩
    have e' : b = h1.objs.size := by simpa using hm
    rw [e'] at hb
    exact absurd ld (Nat.not_lt_of_lt hb)
  · exact ⟨⟨_, Heap.get?_push_size _ rfl, rfl, rfl⟩, (show Heap.IsTuple _ _ _ from (pl.keeps k1).is)⟩
  · obtain ⟨o, es, ep, ho, rest⟩ := hnew
    exact ⟨o, es, ep, Heap.get?_push_of_some _ (hk1 _ _ ho), rest⟩
  · intro h' tk hd' hk'
    refine ⟨rfl, .ref s.heap.objs.size, _, I.laid (a := s.heap.objs.size) (o := .dK kvs) (fun b o e => ?_) (Nat.le_refl _) (dk_new (by rw [<- hp.1]; exact hz) (beq_eq_false_iff_ne.mpr (Ne.symm (Nat.ne_of_lt I.big))) rel hd'), rfl, q _ (I.hok.fresh (Nat.le_refl _))⟩
    have hb := Heap.lt_size e
    refine hk' b o (fun hm => ?_) (Nat.ne_of_lt hb) (k1 b o e)
    have e' : b = h1.objs.size := by simpa using hm
    rw [e'] at hb
    exact absurd ld (Nat.not_lt_of_lt hb)
end
end L2
namespace L2
open PySem PySem.Spec PyProof.Rows
theorem go_str {M : Model} {A : Around} {E : Value -> Shared -> Prop} {s : Shared} {tg : Expr} {it : Value} {y : Str} {t : Tok} {Q : Unit -> Shared -> Prop} (h : Q () s) : wpAny M A (letOwnedTupleGo tg it (.str y t)) Q E s := by
  unfold letOwnedTupleGo
  cases tg <;> cases it <;> exact wpAny_pure h
section
variable {X : Cx} {tg : Expr}
end
theorem Z2.dk_ex {P : Program} {w : World} {H : Hp} {h : Heap} {d : Addr} {kvs : List (Key × V)} (x : Z2 P w H h d (.dK kvs)) : ∃ u, h.get? d = some u := let ⟨_, _, _, _, o, _, _, e, _⟩ := x; ⟨o, e⟩
def epO (o : Obj) : Nat := match o.data with | .dict _ ep => ep | _ => 0
section
variable {X : Cx} {pins : List (Addr × Obj)} {σ : St} {H : Hp} {s : Shared} {d : Addr} {o : Obj}
theorem Inv.freeze {kvs : List (Key × V)} (I : Inv X pins σ H s) (hd : H d = some (.dK kvs)) (ho : s.heap.get? d = some o) : Inv X pins σ (upd H d (.frz o (.dK kvs))) s := by
  have ne : ∀ b u, H b = some u -> (∀ l, u ≠ .dK l) -> b ≠ d := fun b u e n z => by subst z; rw [hd] at e; cases e; exact n kvs rfl
  have nd : ∀ b, H b = none -> b ≠ d := fun b e z => by subst z; rw [hd] at e; cases e
  have J := I.un (H' := upd H d (.frz o (.dK kvs))) (h' := s.heap) (t' := s.toks)
    ⟨fun b u q _ _ _ => q, fun b u q _ _ _ => ⟨u.slots, q⟩, fun b u q n _ => by rw [ZJ (nd b n)]; exact n, fun b u q _ => ⟨u, q⟩, fun b xs q => by rw [ZJ (ne b _ q (fun l => by intro z; cases z))]; exact q,
      fun b u v q => by rw [ZJ (ne b _ q (fun l => by intro z; cases z))]; exact q, fun b ps q => ⟨#[], by rw [ZJ (ne b _ q (fun l => by intro z; cases z)), q]; simp⟩⟩ ?_
  · exact J
  · intro a u e
    by_cases z : a = d
    · subst z
      rw [ZD] at e
      cases e
      exact ⟨ho, I.hok a _ hd⟩
    · rw [ZJ z] at e
      exact (I.hok a u e).stay (fun b v _ q => q) (fun b q => by rw [ZJ (ne b _ q (fun l => by intro z; cases z))]; exact q) fun b xs q => by rw [ZJ (ne b _ q (fun l => by intro z; cases z))]; exact q
end
def Itd (d : Addr) (o : Obj) (kvs : List (Key × V)) : It :=
  ⟨fun i H => H d = some (.frz o (.dK kvs)) /\ i < kvs.length, fun i H x H' => H' = H /\ ∃ kv, kvs[i]? = some kv /\ x = kV kv.1, fun i H => H d = some (.frz o (.dK kvs)) /\ kvs.length = i⟩
theorem key_rel {k : Key} {v : Value} (h : JB k v = true) : RelV (kV k) v := by
  rcases Z1 h with ⟨i, t, rfl, rfl⟩ | ⟨x, t, rfl, rfl⟩
  · exact ⟨t, rfl⟩
  · exact ⟨t, rfl⟩
theorem go_key {M : Model} {A : Around} {E : Value -> Shared -> Prop} {s : Shared} {tg : Expr} {it v : Value} {k : Key} {Q : Unit -> Shared -> Prop} (hk : JB k v = true) (h : Q () s) : wpAny M A (letOwnedTupleGo tg it v) Q E s := by
  rcases Z1 hk with ⟨i, t, rfl, rfl⟩ | ⟨x, t, rfl, rfl⟩
  · unfold letOwnedTupleGo
    cases tg <;> cases it <;> exact wpAny_pure h
  · exact go_str h
section
variable {X : Cx} {pins : List (Addr × Obj)} {σ : St} {H : Hp} {s : Shared} {d : Addr} {o : Obj} {kvs : List (Key × V)}
theorem Inv.dict_at (I : Inv X pins σ H s) (hd : H d = some (.frz o (.dK kvs))) : ∃ vs, s.heap.DictAt (Zx X.prog X.w) d vs (epO o) /\ KV kvs vs /\ (d == sysModules) = false := by
  obtain ⟨ho, _, hm, vs, rv, o', es, ep, ho', r1, r2, r3⟩ := (show Z2 X.prog X.w H s.heap d (.frz o (.dK kvs)) from I.hok d _ hd)
  rw [ho] at ho'
  cases ho'
  have e : epO o = ep := by unfold epO; rw [r2]
  exact ⟨vs, ⟨o, es, ho, r1, by rw [e]; exact r2, r3⟩, rv, hm⟩
end
theorem kv_len {κ : Type} {kvs : List (κ × V)} {vs : List (κ × Value)} (r : KV kvs vs) : kvs.length = vs.length := Paired.length r
theorem kv_get {κ : Type} : ∀ {kvs : List (κ × V)} {vs : List (κ × Value)} (i : Nat) (k : κ) (u : Value), KV kvs vs -> vs[i]? = some (k, u) -> ∃ v, kvs[i]? = some (k, v)
  | _, _, i, k, u, .nil, e => by simp at e
  | _, _, 0, k, u, .cons (a := p) (b := q) r _, e => by
    have e' : some q = some (k, u) := e
    cases e'
    obtain ⟨k', v⟩ := p
    have z : k' = k := r.1
    subst z
    exact ⟨v, rfl⟩
  | _, _, i + 1, k, u, .cons _ t, e => kv_get i k u t e
theorem turn_dict {P : Program} {w : World} {K : PySem.W.Frag} {tg : Expr} (it d : Addr) (o : Obj) (kvs : List (Key × V)) : Turn P w K tg (Itd d o kvs) [it] it (fun i h => h.IsKeyIter it d i kvs.length (epO o)) where
  mem := by simp
  obj := fun i h ⟨ob, ho, _, hd⟩ b hb => by
    cases List.mem_singleton.mp hb
    exact ⟨ob, ho, fun v z => by rw [hd] at z; cases z⟩
  keep := fun i h h' ⟨ob, ho, r⟩ k => ⟨ob, k it (by simp) ob ho, r⟩
  item := by
    intro X hP hw hK hc i pins s σ H E I hf st hg
    subst hP hw hK
    obtain ⟨f0, f1, _, f3, f4, f5⟩ := hf it (by simp)
    obtain ⟨vs, hat, rv, _⟩ := I.dict_at hg.1
    have hl := kv_len rv
    rw [hl] at st
    have hi : i < vs.length := by have z : i < kvs.length := hg.2; omega
    have hx : vs[i]? = some (vs[i].1, vs[i].2) := List.getElem?_eq_getElem hi
    obtain ⟨v', hk'⟩ := kv_get i _ _ rv hx
    refine wpAny_pyNext_dict_item st hat hx fun key h' hkey st' sb => ?_
    rw [<- hl] at st'
    exact ⟨key, rfl, go_key hkey ⟨_, H, I.turned (t' := s.toks) (fun b o hb e => (sb.2 b hb).trans e) f0 f1 f3 f4 f5, key_rel hkey, ⟨rfl, _, hk', rfl⟩, st', fun b hb => (hf b hb).1⟩⟩
  done := by
    intro X hP hw hK hc i pins s σ H E I hf st hg
    subst hP hw hK
    obtain ⟨f0, f1, _, f3, f4, f5⟩ := hf it (by simp)
    obtain ⟨vs, hat, rv, _⟩ := I.dict_at hg.1
    have hl := kv_len rv
    rw [hl] at st
    have hi : kvs.length = i := hg.2
    exact wpAny_pyNext_dict_end (I.ok.hd hc) st hat (List.getElem?_eq_none_iff.mpr (by omega)) fun h' eb => ⟨rfl, I.turned (t' := s.toks) (fun b o hb e => eb b o hb e) f0 f1 f3 f4 f5⟩
  self := fun _ _ _ _ _ st h => wpAny_pyIter_keyiter st h
section
variable {X : Cx} {tg : Expr}
theorem JX {st : Stmt} : PS X st (fun _ _ _ => False) := fun _ _ _ _ _ _ h => h.elim
end
inductive Bd where
  | tag (t : Str) | name (x : Str) | pair (a b : Bd) | one (e : Bd) | other (e : Bd)
  | choose (e : Bd) (ts : List Str) (bs : List Bd) | ask (f : Str) (as : List Bd) | letb (x k : Str) (e b : Bd)
mutual
def Bd.dat : Bd -> Dat
  | .tag t => .tup [.str "tag", .str t]
  | .name x => .tup [.str "name", .str x]
  | .pair a b => .tup [.str "pair", a.dat, b.dat]
  | .one e => .tup [.str "one", e.dat]
  | .other e => .tup [.str "other", e.dat]
  | .choose e ts bs => .tup [.str "choose", e.dat, .tup (Bd.brs bs ts)]
  | .ask f as => .tup [.str "ask", .str f, .tup (Bd.dats as)]
  | .letb x k e b => .tup [.str "let", .str x, .str k, e.dat, b.dat]
def Bd.dats : List Bd -> List Dat
  | [] => []
  | b :: bs => b.dat :: Bd.dats bs
def Bd.brs : List Bd -> List Str -> List Dat
  | [], _ => []
  | b :: bs, t :: ts => .tup [.str t, b.dat] :: Bd.brs bs ts
  | _ :: _, [] => []
end
def Bd.parts : Bd -> List Bd
  | .tag _ => []
  | .name _ => []
  | .pair a b => [a, b]
  | .one e => [e]
  | .other e => [e]
  | .choose e _ bs => e :: bs
  | .ask _ as => as
  | .letb _ _ e b => [e, b]
def Bd.put : Bd -> List Bd -> Bd
  | .tag t, _ => .tag t
  | .name x, _ => .name x
  | .pair _ _, [a, b] => .pair a b
  | .one _, [e] => .one e
  | .other _, [e] => .other e
  | .choose _ ts _, e :: bs => .choose e ts bs
  | .ask f _, as => .ask f as
  | .letb x k _ _, [e, b] => .letb x k e b
  | c, _ => c
theorem Bd.put_parts : ∀ b : Bd, b.put b.parts = b
  | .tag _ => rfl
  | .name _ => rfl
  | .pair _ _ => rfl
  | .one _ => rfl
  | .other _ => rfl
  | .choose _ _ _ => rfl
  | .ask _ _ => rfl
  | .letb _ _ _ _ => rfl
mutual
def Bd.places : Bd -> List (List Int)
  | .tag _ => [[]]
  | .name _ => [[]]
  | .pair a b => [] :: (a.places.map fun w => (0 : Int) :: w) ++ (b.places.map fun w => (1 : Int) :: w)
  | .one e => [] :: e.places.map fun w => (0 : Int) :: w
  | .other e => [] :: e.places.map fun w => (0 : Int) :: w
  | .choose e _ bs => [] :: (e.places.map fun w => (0 : Int) :: w) ++ Bd.pls 1 bs
  | .ask _ as => [] :: Bd.pls 0 as
  | .letb _ _ e b => [] :: (e.places.map fun w => (0 : Int) :: w) ++ (b.places.map fun w => (1 : Int) :: w)
def Bd.pls (k : Nat) : List Bd -> List (List Int)
  | [] => []
  | b :: bs => (b.places.map fun w => (k : Int) :: w) ++ Bd.pls (k + 1) bs
end
theorem Bd.places_eq : ∀ b : Bd, b.places = [] :: Bd.pls 0 b.parts
  | .tag _ => by simp [Bd.places, Bd.parts, Bd.pls]
  | .name _ => by simp [Bd.places, Bd.parts, Bd.pls]
  | .pair a b => by simp [Bd.places, Bd.parts, Bd.pls]
  | .one e => by simp [Bd.places, Bd.parts, Bd.pls]
  | .other e => by simp [Bd.places, Bd.parts, Bd.pls]
  | .choose e ts bs => by simp [Bd.places, Bd.parts, Bd.pls]
  | .ask f as => by simp [Bd.places, Bd.parts]
  | .letb x k e b => by simp [Bd.places, Bd.parts, Bd.pls]
end L2
namespace L2
open PySem PySem.W PyProof.Rows
theorem lexI_nil (w : List Int) : Vx w [] = false := by cases w <;> rfl
theorem lexI_same (k : Int) (a b : List Int) : Vx (k :: a) (k :: b) = Vx a b := by
  unfold Vx
  rw [if_pos (by simp)]
  cases a <;> cases b <;> rfl
theorem lexI_up {k m : Int} (a b : List Int) (h : k < m) : Vx (m :: b) (k :: a) = false := by
  unfold Vx
  rw [if_neg (by simp; omega)]
  simp; omega
def Srt (l : List (List Int)) : Prop := l.Pairwise fun a b => Vx b a = false
theorem Bd.pls_head : ∀ (bs : List Bd) (k : Nat) (w : List Int), w ∈ Bd.pls k bs -> ∃ m r, w = ((m : Nat) : Int) :: r /\ k <= m
  | [], k, w, h => by simp [Bd.pls] at h
  | b :: bs, k, w, h => by
    unfold Bd.pls at h
    rcases (List.mem_append.mp h) with h | h
    · obtain ⟨v, _, rfl⟩ := List.mem_map.mp h
      exact ⟨k, v, rfl, Nat.le_refl _⟩
    · obtain ⟨m, r, e, hm⟩ := Bd.pls_head bs (k + 1) w h
      exact ⟨m, r, e, by omega⟩
theorem srt_map (k : Int) {l : List (List Int)} (h : Srt l) : Srt (l.map fun w => k :: w) := by
  unfold Srt at h ⊢
  rw [List.pairwise_map]
  exact h.imp fun {a b} q => by rw [lexI_same]; exact q
theorem JE (b : Bd) (h : Srt (Bd.pls 0 b.parts)) : Srt b.places := by
  rw [Bd.places_eq]
  exact .cons (fun w _ => lexI_nil w) h
theorem VH : ∀ (k : Nat) (bs : List Bd), (∀ b ∈ bs, Srt b.places) -> Srt (Bd.pls k bs)
  | _, [], _ => by unfold Bd.pls Srt; exact .nil
  | k, b :: bs, h => by
    have h1 := h b (by simp)
    have h2 := VH (k + 1) bs fun c hc => h c (by simp [hc])
    unfold Bd.pls
    unfold Srt
    refine List.pairwise_append.mpr ⟨srt_map _ h1, h2, fun a ha c hc => ?_⟩
    obtain ⟨v, _, rfl⟩ := List.mem_map.mp ha
    obtain ⟨m, r, rfl, hm⟩ := Bd.pls_head bs (k + 1) c hc
    exact lexI_up _ _ (by omega)
mutual
theorem Bd.srt : ∀ b : Bd, Srt b.places
  | .tag _ => by unfold Bd.places Srt; simp
  | .name _ => by unfold Bd.places Srt; simp
  | .pair a b => by
    have h1 := Bd.srt a
    have h2 := Bd.srt b
    exact JE (.pair a b) (VH 0 [a, b] fun c hc => by
      rcases (List.mem_cons.mp hc) with e | hc
      · rw [e]; exact h1
      · rw [List.mem_singleton.mp hc]; exact h2)
  | .one e => by
    have h1 := Bd.srt e
    exact JE (.one e) (VH 0 [e] fun c hc => by rw [List.mem_singleton.mp hc]; exact h1)
  | .other e => by
    have h1 := Bd.srt e
    exact JE (.other e) (VH 0 [e] fun c hc => by rw [List.mem_singleton.mp hc]; exact h1)
  | .choose e ts bs => by
    have h1 := Bd.srt e
    have h2 := Bd.srtA bs
    exact JE (.choose e ts bs) (VH 0 (e :: bs) fun c hc => by
      rcases List.mem_cons.mp hc with e' | hc
      · rw [e']; exact h1
      · exact h2 c hc)
  | .ask f as => by
    have h2 := Bd.srtA as
    exact JE (.ask f as) (VH 0 as h2)
  | .letb x k e b => by
    have h1 := Bd.srt e
    have h2 := Bd.srt b
    exact JE (.letb x k e b) (VH 0 [e, b] fun c hc => by
      rcases List.mem_cons.mp hc with e' | hc
      · rw [e']; exact h1
      · rw [List.mem_singleton.mp hc]; exact h2)
theorem Bd.srtA : ∀ (bs : List Bd), ∀ b ∈ bs, Srt b.places
  | [] => fun b h => nomatch h
  | c :: bs => by
    have h1 := Bd.srt c
    have h2 := Bd.srtA bs
    intro b h
    rcases (List.mem_cons.mp h) with e | h
    · rw [e]; exact h1
    · exact h2 b h
end
theorem asc_all {n : Nat} {lt : Nat -> Nat -> Bool} (p : Array Nat) (hp : ∀ i, i < n -> p.getD i 0 = i) (h : ∀ i, i + 1 < n -> lt (i + 1) i = false) : ∀ (f k : Nat), 1 <= k -> k + f = n -> Yg n lt (kas_asc p f k) = some n
  | 0, k, _, e => by
    have : k = n := by omega
    unfold kas_asc Yg
    rw [this]
  | f + 1, k, h1, e => by
    unfold kas_asc Yg
    rw [hp k (by omega), hp (k - 1) (by omega), if_pos ⟨by omega, by omega⟩]
    have e2 : k = (k - 1) + 1 := by omega
    have e3 : lt k (k - 1) = false := by
      have := h (k - 1) (by omega)
      rw [<- e2] at this
      exact this
    rw [e3]
    show Yg n lt (if false = true then KasT.ret k else kas_asc p f (k + 1)) = some n
    rw [if_neg (by simp)]
    exact asc_all p hp h f (k + 1) (by omega) (by omega)
theorem Vy {α β : Type} {n : Nat} {lt : Nat -> Nat -> Bool} {f : α -> KasT β} : ∀ (t : KasT α) (a : α), Yg n lt t = some a -> Yg n lt (t.bind f) = Yg n lt (f a)
  | .ret b, a, e => by
    have e' : b = a := Option.some.inj e
    subst e'; rfl
  | .ask i j k, a, e => by
    unfold Yg at e
    by_cases hij : i < n /\ j < n
    · rw [if_pos hij] at e
      show Yg n lt (.ask i j fun b => (k b).bind f) = _
      conv => lhs; unfold Yg
      rw [if_pos hij]
      exact Vy (k (lt i j)) a e
    · rw [if_neg hij] at e; cases e
theorem sort_sorted {n : Nat} {lt : Nat -> Nat -> Bool} (hn : 2 <= n) (h : ∀ i, i + 1 < n -> lt (i + 1) i = false) : Yg n lt (kas_sort n) = some (List.range n).toArray := by
  have hp : ∀ i, i < n -> (List.range n).toArray.getD i 0 = i := fun i hi => by simp [Array.getD, hi]
  have h1 : Yg n lt (kas_asc (List.range n).toArray (n - 1) 1) = some n := asc_all _ hp h (n - 1) 1 (Nat.le_refl _) (by omega)
  unfold kas_sort kas_count
  have h2 : Yg n lt ((kas_asc (List.range n).toArray (n - 1) 1).bind fun m => if (m == n) = true then KasT.ret (m, (List.range n).toArray) else if m > 1 then KasT.ask ((List.range n).toArray.getD 0 0) ((List.range n).toArray.getD (m - 1) 0) fun c => if c = true then KasT.ret (m, (List.range n).toArray) else kas_descPart m n (kas_rev (List.range n).toArray 0 m) else kas_descPart m n (List.range n).toArray) = some (n, (List.range n).toArray) := by
    rw [Vy _ _ h1, if_pos (by simp)]
    rfl
  rw [Vy _ _ h2]
  rw [if_neg (by simp)]
  rfl
theorem Zh {H : Hp} {v : V} {ds : List Dat} (h : Has H v (.tup ds)) : ∃ p xs, v = .ref p /\ H p = some (.tup xs) /\ HasL H xs ds := by unfold Has at h; exact h
theorem ZZ {H : Hp} {p : Addr} {xs : List V} {ds : List Dat} (h : H p = some (.tup xs)) (t : HasL H xs ds) : Has H (.ref p) (.tup ds) := by unfold Has; exact ⟨p, xs, rfl, h, t⟩
theorem has_str {H : Hp} {v : V} {x : Str} (h : Has H v (.str x)) : v = .str x := by unfold Has at h; exact h
theorem Zk {H : Hp} {x : Str} : Has H (.str x) (.str x) := by unfold Has; rfl
theorem ZM {H : Hp} {xs : List V} {d : Dat} {ds : List Dat} (h : HasL H xs (d :: ds)) : ∃ x r, xs = x :: r /\ Has H x d /\ HasL H r ds := by
  match xs, h with
  | [], h => unfold HasL at h; exact h.elim
  | x :: r, h => unfold HasL at h; exact ⟨x, r, rfl, h.1, h.2⟩
theorem YD {H : Hp} {xs : List V} (h : HasL H xs []) : xs = [] := by
  match xs, h with
  | [], _ => rfl
  | _ :: _, h => unfold HasL at h; exact h.elim
theorem Bd.dats_map : ∀ bs : List Bd, Bd.dats bs = bs.map Bd.dat
  | [] => by unfold Bd.dats; rfl
  | b :: bs => by unfold Bd.dats; rw [Bd.dats_map bs]; rfl
theorem Bd.brs_len : ∀ {bs : List Bd} {ts : List Str}, bs.length = ts.length -> (Bd.brs bs ts).length = ts.length
  | [], [], _ => by unfold Bd.brs; rfl
  | [], _ :: _, e => by simp at e
  | _ :: _, [], e => by simp at e
  | b :: bs, t :: ts, e => by
    unfold Bd.brs
    rw [List.length_cons, Bd.brs_len (by simpa using e), List.length_cons]
theorem Bd.brs_get : ∀ {bs : List Bd} {ts : List Str} {j : Nat} {d : Dat}, (Bd.brs bs ts)[j]? = some d -> ∃ b t, bs[j]? = some b /\ ts[j]? = some t /\ d = .tup [.str t, b.dat]
  | [], ts, j, d, e => by unfold Bd.brs at e; simp at e
  | _ :: _, [], j, d, e => by unfold Bd.brs at e; simp at e
  | b :: bs, t :: ts, 0, d, e => by
    unfold Bd.brs at e
    have e' : some _ = some d := e
    cases e'
    exact ⟨b, t, rfl, rfl, rfl⟩
  | b :: bs, t :: ts, j + 1, d, e => by
    unfold Bd.brs at e
    exact Bd.brs_get (bs := bs) (ts := ts) (j := j) e
mutual
def Bd.ok : Bd -> Prop
  | .tag _ => True
  | .name _ => True
  | .pair a b => a.ok /\ b.ok
  | .one e => e.ok
  | .other e => e.ok
  | .choose e ts bs => e.ok /\ bs.length = ts.length /\ ts.length <= 4 /\ Bd.oks bs
  | .ask _ as => as.length <= 3 /\ Bd.oks as
  | .letb _ _ e b => e.ok /\ b.ok
def Bd.oks : List Bd -> Prop
  | [] => True
  | b :: bs => b.ok /\ Bd.oks bs
end
theorem Bd.oks_mem : ∀ {bs : List Bd} {b : Bd}, Bd.oks bs -> b ∈ bs -> b.ok
  | [], _, _, h => nomatch h
  | c :: bs, b, w, h => by
    unfold Bd.oks at w
    rcases (List.mem_cons.mp h) with rfl | h
    · exact w.1
    · exact Bd.oks_mem w.2 h
theorem Bd.ok_parts {b : Bd} (h : b.ok) : ∀ c ∈ b.parts, c.ok := by
  intro c hc
  cases b with
  | tag t => cases hc
  | name x => cases hc
  | pair a e =>
    unfold Bd.ok at h
    simp only [Bd.parts, List.mem_cons, List.mem_nil_iff, or_false] at hc
    rcases hc with rfl | rfl
    · exact h.1
    · exact h.2
  | one e => unfold Bd.ok at h; simp only [Bd.parts, List.mem_singleton] at hc; rw [hc]; exact h
  | other e => unfold Bd.ok at h; simp only [Bd.parts, List.mem_singleton] at hc; rw [hc]; exact h
  | choose e ts bs =>
    unfold Bd.ok at h
    simp only [Bd.parts, List.mem_cons] at hc
    rcases hc with rfl | hc
    · exact h.1
    · exact Bd.oks_mem h.2.2.2 hc
  | ask f as => unfold Bd.ok at h; exact Bd.oks_mem h.2 hc
  | letb x k e g =>
    unfold Bd.ok at h
    simp only [Bd.parts, List.mem_cons, List.mem_nil_iff, or_false] at hc
    rcases hc with rfl | rfl
    · exact h.1
    · exact h.2
theorem Bd.few {b : Bd} (h : b.ok) : b.parts.length <= 5 := by
  cases b <;> (try (simp [Bd.parts]; done)) <;> (unfold Bd.ok at h; simp only [Bd.parts, List.length_cons, List.length_nil]; omega)
end L2
namespace K4
open PySem L2
theorem scParts : FnScope ["body", "word"] ["body"] (ZN JK) := ⟨rfl, rfl, rfl, by decide +kernel, rfl, by decide +kernel, by decide +kernel⟩
theorem nd_tb : List.Nodup [("tag" : Str), "branch"] := by decide +kernel
section
variable {P : Program} {w : World} {K : PySem.W.Frag} {mg : Str -> Option Value} {base : Heap} {f : Addr} {fd : FuncData}
def VI : Sp := fun vs H Q _ => ∃ (v : V) (b : Bd), vs = [v] /\ Has H v b.dat /\ b.ok /\ ∀ u H', Same H H' -> Has H' u (.tup (Bd.dats b.parts)) -> Q u H'
theorem ok_parts {n : Nat} (B : Blt mg) (F : Fun K "parts" "parts" JK f fd) : FnOk P w K mg base CX0 (n + 1) f fd ["body"] VI := by
  refine F.ok scParts (fun vs H Q E h => ?_) (fun cdv A outer s H vs Q E hr h => ?_)
  · obtain ⟨v, b, rfl, _⟩ := h
    rfl
  obtain ⟨v, b, rfl, hv, ok, q⟩ := h
  refine ⟨_, ZG (ZT (i := 1) scParts.nd rfl (Or.inl rfl) (ZV Ze (pv 0) ZH (fun _ _ => rfl)))
    (ZG (Zt (ZY op_in_seq (pv 1) (Zn (ZA ZX (ZA ZX ZF))) (by rfl)) (ZL (ZW (Zn ZF))) Zb)
    (ZG (Zt (ZY YA (pv 1) ZX (Zd _)) (ZL (ZW (Zc Vl (Zn (ZA (ZV Ze (pv 0) ZH (fun _ _ => rfl)) ZF)) (Zs Zq rfl B.tuple Zp (ZA
        (Yv ["tag", "branch"] [] (VX (ZV Ze (pv 0) ZH (fun _ _ => rfl))) gk_two (fun cl C fp s H => Y0 (n := 2) rfl (Zr (Za (i := 0) nd_tb rfl (Or.inl rfl) (Or.inr rfl)) (Zr (Za (i := 1) nd_tb rfl (Or.inl rfl) (Or.inr rfl)) Yc)))
          (fun cl C fp s H => pv 1)) ZF))))) Zb)
    (ZG (Zt (ZY YA (pv 1) ZX (Zd _)) (ZL (ZW (ZV Ze (pv 0) ZH (fun _ _ => rfl)))) Zb)
    (ZG (Zt (ZY YA (pv 1) ZX (Zd _)) (ZL (ZW (Z8 Vr (pv 0) (YC ZH) YL))) Zb)
    (ZL (ZW (Z8 Vr (pv 0) (YC ZH) YL))))))), ?_⟩
  cases b with
  | tag t =>
    unfold Bd.dat at hv
    obtain ⟨p, xs, rfl, hp, hl⟩ := Zh hv
    obtain ⟨x1, r1, rfl, h1, hlA⟩ := ZM hl
    obtain rfl := has_str h1
    refine ⟨_, rfl, p, _, 0, _, rfl, rfl, SqT.of hp, ZQ (j := 0) rfl, ?_⟩
    refine ⟨_, rfl, by show 2 <= sizeLine; decide, fun t1 ht1 => ?_⟩
    refine ⟨t1, _, rfl, .inr (SqT.of ZD), rfl, rfl, _, rfl, YQ (by decide +kernel) ?_⟩
    exact ⟨by show 0 <= sizeLine; decide, fun t2 ht2 => q _ _ ((ZE ht1 _).trans (ZE ht2 _)) (ZZ ZD (by simp only [Bd.parts, Bd.dats]; exact HasL.nil))⟩
  | name x =>
    unfold Bd.dat at hv
    obtain ⟨p, xs, rfl, hp, hl⟩ := Zh hv
    obtain ⟨x1, r1, rfl, h1, hlA⟩ := ZM hl
    obtain rfl := has_str h1
    refine ⟨_, rfl, p, _, 0, _, rfl, rfl, SqT.of hp, ZQ (j := 0) rfl, ?_⟩
    refine ⟨_, rfl, by show 2 <= sizeLine; decide, fun t1 ht1 => ?_⟩
    refine ⟨t1, _, rfl, .inr (SqT.of ZD), rfl, rfl, _, rfl, YQ (by decide +kernel) ?_⟩
    exact ⟨by show 0 <= sizeLine; decide, fun t2 ht2 => q _ _ ((ZE ht1 _).trans (ZE ht2 _)) (ZZ ZD (by simp only [Bd.parts, Bd.dats]; exact HasL.nil))⟩
  | pair a e =>
    unfold Bd.dat at hv
    obtain ⟨p, xs, rfl, hp, hl⟩ := Zh hv
    obtain ⟨x1, r1, rfl, h1, hlA⟩ := ZM hl
    obtain rfl := has_str h1
    refine ⟨_, rfl, p, _, 0, _, rfl, rfl, SqT.of hp, ZQ (j := 0) rfl, ?_⟩
    refine ⟨_, rfl, by show 2 <= sizeLine; decide, fun t1 ht1 => ?_⟩
    have s1 := ZE ht1 (.tup [V.str "tag", V.str "name"])
    refine ⟨t1, _, rfl, .inr (SqT.of ZD), rfl, rfl, _, rfl, Zo (by decide +kernel) ?_⟩
    refine ⟨_, rfl, rfl, _, rfl, Zo (by decide +kernel) ?_⟩
    refine ⟨_, rfl, rfl, _, rfl, Zo (by decide +kernel) ?_⟩
    refine ⟨_, rfl, rfl, _, rfl, Zo (by decide +kernel) ?_⟩
    refine ⟨_, rfl, 1, rfl, p, _, rfl, SqT.of (s1 _ _ hp), by simp [HT.sIx], fun t2 ht2 => q _ _ (s1.trans (ZE ht2 _)) (ZZ (xs := r1) (by rw [ZD]; simp [Yj, HT.sIx]) ?_)⟩
    exact (hlA.mono s1).mono (ZE ht2 _)
  | one e =>
    unfold Bd.dat at hv
    obtain ⟨p, xs, rfl, hp, hl⟩ := Zh hv
    obtain ⟨x1, r1, rfl, h1, hlA⟩ := ZM hl
    obtain rfl := has_str h1
    refine ⟨_, rfl, p, _, 0, _, rfl, rfl, SqT.of hp, ZQ (j := 0) rfl, ?_⟩
    refine ⟨_, rfl, by show 2 <= sizeLine; decide, fun t1 ht1 => ?_⟩
    have s1 := ZE ht1 (.tup [V.str "tag", V.str "name"])
    refine ⟨t1, _, rfl, .inr (SqT.of ZD), rfl, rfl, _, rfl, Zo (by decide +kernel) ?_⟩
    refine ⟨_, rfl, rfl, _, rfl, Zo (by decide +kernel) ?_⟩
    refine ⟨_, rfl, rfl, _, rfl, Zo (by decide +kernel) ?_⟩
    refine ⟨_, rfl, rfl, _, rfl, Zo (by decide +kernel) ?_⟩
    refine ⟨_, rfl, 1, rfl, p, _, rfl, SqT.of (s1 _ _ hp), by simp [HT.sIx], fun t2 ht2 => q _ _ (s1.trans (ZE ht2 _)) (ZZ (xs := r1) (by rw [ZD]; simp [Yj, HT.sIx]) ?_)⟩
    exact (hlA.mono s1).mono (ZE ht2 _)
  | other e =>
    unfold Bd.dat at hv
    obtain ⟨p, xs, rfl, hp, hl⟩ := Zh hv
    obtain ⟨x1, r1, rfl, h1, hlA⟩ := ZM hl
    obtain rfl := has_str h1
    refine ⟨_, rfl, p, _, 0, _, rfl, rfl, SqT.of hp, ZQ (j := 0) rfl, ?_⟩
    refine ⟨_, rfl, by show 2 <= sizeLine; decide, fun t1 ht1 => ?_⟩
    have s1 := ZE ht1 (.tup [V.str "tag", V.str "name"])
    refine ⟨t1, _, rfl, .inr (SqT.of ZD), rfl, rfl, _, rfl, Zo (by decide +kernel) ?_⟩
    refine ⟨_, rfl, rfl, _, rfl, Zo (by decide +kernel) ?_⟩
    refine ⟨_, rfl, rfl, _, rfl, Zo (by decide +kernel) ?_⟩
    refine ⟨_, rfl, rfl, _, rfl, Zo (by decide +kernel) ?_⟩
    refine ⟨_, rfl, 1, rfl, p, _, rfl, SqT.of (s1 _ _ hp), by simp [HT.sIx], fun t2 ht2 => q _ _ (s1.trans (ZE ht2 _)) (ZZ (xs := r1) (by rw [ZD]; simp [Yj, HT.sIx]) ?_)⟩
    exact (hlA.mono s1).mono (ZE ht2 _)
  | choose e ts bs =>
    unfold Bd.dat at hv
    obtain ⟨p, xs, rfl, hp, hl⟩ := Zh hv
    obtain ⟨x1, r1, rfl, h1, hlA⟩ := ZM hl
    obtain rfl := has_str h1
    obtain ⟨x2, r2, rfl, h2, hlB⟩ := ZM hlA
    obtain ⟨x3, r3, rfl, h3, hlC⟩ := ZM hlB
    obtain rfl := YD hlC
    obtain ⟨pz, zs, rfl, hpz, hzl⟩ := Zh h3
    unfold Bd.ok at ok
    obtain ⟨o1, o2, o3, o4⟩ := ok
    have lz := hzl.length
    rw [Bd.brs_len o2] at lz
    refine ⟨_, rfl, p, _, 0, _, rfl, rfl, SqT.of hp, ZQ (j := 0) rfl, ?_⟩
    refine ⟨_, rfl, by show 2 <= sizeLine; decide, fun t1 ht1 => ?_⟩
    have s1 := ZE ht1 (.tup [V.str "tag", V.str "name"])
    refine ⟨t1, _, rfl, .inr (SqT.of ZD), rfl, rfl, _, rfl, Zo (by decide +kernel) ?_⟩
    refine ⟨_, rfl, rfl, _, rfl, YQ (by decide +kernel) ?_⟩
    refine ⟨_, rfl, p, _, 1, _, rfl, rfl, SqT.of (s1 _ _ hp), rfl, by show 1 <= sizeLine; decide, fun t2 ht2 => ?_⟩
    have s2 := ZE ht2 (.tup [x2])
    have sA := s1.trans s2
    refine ⟨_, rfl, p, _, 2, _, rfl, rfl, SqT.of (sA _ _ hp), rfl, pz, rfl, ⟨_, SqT.of (sA _ _ hpz)⟩, ?_⟩
    have hpz2 := sA _ _ hpz
    refine YJ zs.length (ZP (by omega)) (fun j vs H' => H' = upd (upd H t1 (.tup [V.str "tag", V.str "name"])) t2 (.tup [x2]) /\ vs.length = j /\ HasL H vs ((bs.map Bd.dat).take j)) ⟨rfl, rfl, HasL.nil⟩ (fun j vs H' z => z.2.1) ?_ ?_ ?_ ?_
    · rintro j vs H' hj ⟨rfl, _⟩
      exact ⟨zs, zs[j], SqT.of hpz2, by simp [hj]⟩
    · rintro vs H' ⟨rfl, _⟩
      exact ⟨zs, SqT.of hpz2, Nat.le_refl _⟩
    · rintro j vs H' x H3 R hj ⟨rfl, z2, z3⟩ yl hR
      obtain ⟨rfl, y⟩ := yl
      obtain ⟨d, hd, hx1⟩ := hzl.get (y zs (SqT.of hpz2))
      obtain ⟨b, t0, hb0, ht0, rfl⟩ := Bd.brs_get hd
      obtain ⟨pp, ys, rfl, hpp, hyl⟩ := Zh hx1
      obtain ⟨y1, r4, rfl, h4, hyA⟩ := ZM hyl
      obtain ⟨y2, r5, rfl, h5, hyB⟩ := ZM hyA
      obtain rfl := YD hyB
      refine ⟨pp, _, rfl, SqT.of (sA _ _ hpp), rfl, _, _, rfl, _, [], rfl, rfl, ?_⟩
      refine ⟨_, rfl, hR _ _ ⟨rfl, by rw [List.length_append, z2]; rfl, ?_⟩⟩
      rw [List.take_add_one, List.getElem?_map, hb0]
      exact HasL.append z3 (HasL.one h5)
    · rintro vs H' l ⟨rfl, z2, z3⟩ hl3
      have s3 := ZE hl3 (.lst vs)
      refine ⟨l, _, rfl, .inl ⟨SqL.of ZD, fun l4 hl4 => ?_⟩⟩
      have s4 := ZE hl4 (.tup vs)
      have sB := (sA.trans s3).trans s4
      rw [List.take_of_length_le (by rw [List.length_map]; omega)] at z3
      have e1 : Bd.dats (Bd.choose e ts bs).parts = e.dat :: bs.map Bd.dat := by rw [Bd.dats_map]; rfl
      refine ⟨t2, l4, [x2], vs, rfl, rfl, SqT.of (s4 _ _ (s3 _ _ ZD)), SqT.of ZD, by simp, Nat.le_of_lt (ZP (by simp only [List.length_singleton]; omega)), fun e0 => ?_, fun _ p5 hp5 => ?_⟩
      · refine q _ _ sB ?_
        rw [e1]
        subst e0
        have hb : bs = [] := by
          have := z3.length
          simpa using this.symm
        rw [hb]
        exact ZZ (s4 _ _ (s3 _ _ ZD)) (HasL.one (h2.mono sB))
      · have s5 := ZE hp5 (.tup ([x2] ++ vs))
        refine q _ _ (sB.trans s5) ?_
        rw [e1]
        exact ZZ ZD (HasL.cons (h2.mono (sB.trans s5)) (z3.mono (sB.trans s5)))
  | ask g as =>
    unfold Bd.dat at hv
    obtain ⟨p, xs, rfl, hp, hl⟩ := Zh hv
    obtain ⟨x1, r1, rfl, h1, hlA⟩ := ZM hl
    obtain rfl := has_str h1
    obtain ⟨x2, r2, rfl, h2, hlB⟩ := ZM hlA
    obtain ⟨x3, r3, rfl, h3, hlC⟩ := ZM hlB
    refine ⟨_, rfl, p, _, 0, _, rfl, rfl, SqT.of hp, ZQ (j := 0) rfl, ?_⟩
    refine ⟨_, rfl, by show 2 <= sizeLine; decide, fun t1 ht1 => ?_⟩
    have s1 := ZE ht1 (.tup [V.str "tag", V.str "name"])
    refine ⟨t1, _, rfl, .inr (SqT.of ZD), rfl, rfl, _, rfl, Zo (by decide +kernel) ?_⟩
    refine ⟨_, rfl, rfl, _, rfl, Zo (by decide +kernel) ?_⟩
    refine ⟨_, rfl, rfl, _, rfl, YQ (by decide +kernel) ?_⟩
    exact ⟨_, rfl, p, _, 2, _, rfl, rfl, SqT.of (s1 _ _ hp), ZQ (j := 2) rfl, q _ _ s1 (h3.mono s1)⟩
  | letb x k e g =>
    unfold Bd.dat at hv
    obtain ⟨p, xs, rfl, hp, hl⟩ := Zh hv
    obtain ⟨x1, r1, rfl, h1, hlA⟩ := ZM hl
    obtain rfl := has_str h1
    obtain ⟨x2, r2, rfl, h2, hlB⟩ := ZM hlA
    obtain ⟨x3, r3, rfl, h3, hlC⟩ := ZM hlB
    have lr := hlC.length
    refine ⟨_, rfl, p, _, 0, _, rfl, rfl, SqT.of hp, ZQ (j := 0) rfl, ?_⟩
    refine ⟨_, rfl, by show 2 <= sizeLine; decide, fun t1 ht1 => ?_⟩
    have s1 := ZE ht1 (.tup [V.str "tag", V.str "name"])
    refine ⟨t1, _, rfl, .inr (SqT.of ZD), rfl, rfl, _, rfl, Zo (by decide +kernel) ?_⟩
    refine ⟨_, rfl, rfl, _, rfl, Zo (by decide +kernel) ?_⟩
    refine ⟨_, rfl, rfl, _, rfl, Zo (by decide +kernel) ?_⟩
    refine ⟨_, rfl, rfl, _, rfl, YQ (by decide +kernel) ?_⟩
    refine ⟨_, rfl, 3, rfl, p, _, rfl, SqT.of (s1 _ _ hp), by simp [HT.sIx], fun t2 ht2 => q _ _ (s1.trans (ZE ht2 _)) (ZZ (xs := r3) (by rw [ZD]; simp [Yj, HT.sIx]) ?_)⟩
    exact (hlC.mono s1).mono (ZE ht2 _)
end
end K4
namespace L2
open PySem
def Bd.at : Bd -> List Int -> Option Bd
  | b, [] => some b
  | b, i :: r => if 0 <= i then (match b.parts[i.toNat]? with | some c => Bd.at c r | none => none) else none
theorem pe_isiK {X : Cx} {K : PySem.W.Frag} {e : Expr} {te : TE} {T : String} {x : Str} {p p' pos : Pos} (hK : X.K = K) (hg : Gl X "isinstance") (hm : X.mg "isinstance" = none) (hg' : Gl X x) (hm' : X.mg x = none) (hv : bootBuiltins x = some (.type T)) (he : PE X e te)
    (hn : x ≠ "__name__" := by decide) (hdb : (x == ("__debug__" : Str)) = false := by decide) (hs : starEach [e, .Name x p'] X.env = (false, eval e X.env) :: starEach [.Name x p'] X.env := by rfl) :
    PE X (.Call (.Name "isinstance" p) [e, .Name x p'] [] pos) (tCB (rIsi K) (Yf te (Yf (tC (.ty T)) tNil))) := by
  subst hK
  exact Ys hg hm hg' hm' hv he hn hdb hs
theorem Bd.dat_tup : ∀ b : Bd, ∃ ds, b.dat = .tup ds
  | .tag _ => ⟨_, by unfold Bd.dat; rfl⟩
  | .name _ => ⟨_, by unfold Bd.dat; rfl⟩
  | .pair _ _ => ⟨_, by unfold Bd.dat; rfl⟩
  | .one _ => ⟨_, by unfold Bd.dat; rfl⟩
  | .other _ => ⟨_, by unfold Bd.dat; rfl⟩
  | .choose _ _ _ => ⟨_, by unfold Bd.dat; rfl⟩
  | .ask _ _ => ⟨_, by unfold Bd.dat; rfl⟩
  | .letb _ _ _ _ => ⟨_, by unfold Bd.dat; rfl⟩
def Bd.Plain (b : Bd) : Prop := ∃ (wd : Str) (ds : List Dat), b.dat = .tup (.str wd :: ds) /\ wd ≠ "choose" /\ wd ≠ "ask" /\ 1 <= ds.length /\ ds.length <= 4 /\ (ds.filter fun d => isD "tuple" d) = Bd.dats b.parts
theorem Bd.is_tup (b : Bd) : isD "tuple" b.dat = true := by
  obtain ⟨ds, e⟩ := b.dat_tup
  rw [e]; rfl
theorem Bd.form (b : Bd) : (∃ e ts bs, b = .choose e ts bs) ∨ (∃ f as, b = .ask f as) ∨ b.Plain := by
  have hs : ∀ x : Str, isD "tuple" (.str x) = false := fun x => rfl
  cases b with
  | tag t => exact .inr (.inr ⟨"tag", [.str t], by unfold Bd.dat; rfl, by decide +kernel, by decide +kernel, by simp, by simp, by simp [hs, Bd.parts, Bd.dats]⟩)
  | name x => exact .inr (.inr ⟨"name", [.str x], by unfold Bd.dat; rfl, by decide +kernel, by decide +kernel, by simp, by simp, by simp [hs, Bd.parts, Bd.dats]⟩)
  | pair a e => exact .inr (.inr ⟨"pair", [a.dat, e.dat], by conv => lhs; unfold Bd.dat, by decide +kernel, by decide +kernel, by simp, by simp, by simp [Bd.is_tup, Bd.parts, Bd.dats]⟩)
  | one e => exact .inr (.inr ⟨"one", [e.dat], by conv => lhs; unfold Bd.dat, by decide +kernel, by decide +kernel, by simp, by simp, by simp [Bd.is_tup, Bd.parts, Bd.dats]⟩)
  | other e => exact .inr (.inr ⟨"other", [e.dat], by conv => lhs; unfold Bd.dat, by decide +kernel, by decide +kernel, by simp, by simp, by simp [Bd.is_tup, Bd.parts, Bd.dats]⟩)
  | choose e ts bs => exact .inl ⟨e, ts, bs, rfl⟩
  | ask f as => exact .inr (.inl ⟨f, as, rfl⟩)
  | letb x k e g => exact .inr (.inr ⟨"let", [.str x, .str k, e.dat, g.dat], by conv => lhs; unfold Bd.dat, by decide +kernel, by decide +kernel, by simp, by simp, by simp [hs, Bd.is_tup, Bd.parts, Bd.dats]⟩)
end L2
namespace K4
open PySem L2
theorem V8 : FnScope ["body", "place", "part", "number"] ["body", "place"] (ZN Vk) := ⟨rfl, rfl, rfl, by decide +kernel, rfl, by decide +kernel, by decide +kernel⟩
theorem scPartsL : FnScope ["body"] ["body"] (ZN Vj) := ⟨rfl, rfl, rfl, by decide +kernel, rfl, by decide +kernel, by decide +kernel⟩
theorem nd_row : List.Nodup [("row" : Str)] := by decide +kernel
theorem nd_part : List.Nodup [("part" : Str)] := by decide +kernel
section
variable {P : Program} {w : World} {K : PySem.W.Frag} {mg : Str -> Option Value} {base : Heap} {f g : Addr} {fd gd : FuncData}
def V5 (K : PySem.W.Frag) : Sp := fun vs H Q _ => ∃ (v : V) (a : Addr) (b c : Bd) (ws : List Int), vs = [v, .ref a] /\ Has H v b.dat /\ b.ok /\ H a = some (.tup (ws.map V.int)) /\ b.at ws = some c /\ ∀ u H', Same H H' -> Has H' u c.dat -> Q u H'
theorem ok_partAt {n : Nat} (F : Fun K "part_at" "part_at" Vk f fd) (G : FnOk P w K mg base CX0 n g gd ["body"] VI) (bG : Binds K gd ["body"] []) (kG : PySem.W.keepIn K (.ref g) = true) (mG : mg "parts" = some (.ref g)) :
    FnOk P w K mg base CX0 (n + 1) f fd ["body", "place"] (V5 K) := by
  refine F.ok V8 (fun vs H Q E h => ?_) (fun cdv A outer s H vs Q E hr h => ?_)
  · obtain ⟨v, a, b, c, ws, rfl, _⟩ := h
    rfl
  obtain ⟨v, a, b, c, ws, rfl, hv, ok, ha, hc, q⟩ := h
  refine ⟨_, ZG (ZT (i := 2) V8.nd rfl (Or.inl rfl) (pv 0)) (ZG (YS PassesOwn.never rfl (VX (pv 1)) (Za (i := 3) V8.nd rfl (Or.inl rfl))
    (ZL (ZT (i := 2) V8.nd rfl (Or.inl rfl) (ZV Ze (ZK G hr rfl mG kG bG .nil ZU (ZA (pv 2) ZF)) (pv 3) (fun _ _ => rfl)))))
    (ZL (ZW (pv 2)))), ?_⟩
  refine ⟨_, rfl, _, rfl, a, rfl, ⟨_, SqT.of ha⟩, ?_⟩
  refine for_tup (xs := ws.map V.int) (fun i σ H' => Same H H' /\ ∃ u z b', σ = [some v, some (.ref a), some u, z] /\ Has H' u (Bd.dat b') /\ b'.ok /\ b'.at (ws.drop i) = some c) ⟨Same.refl _, v, none, b, rfl, hv, ok, hc⟩ ?_ ?_ ?_
  · rintro i σ H' _ ⟨sj, _⟩
    exact SqT.of (sj _ _ ha)
  · rintro i x σ H' hx ⟨sj, u, z, b', rfl, hu, okb, e⟩
    obtain ⟨m, r, rfl, e1, e2, hm⟩ := drop_cons hx
    rw [e1] at e
    unfold Bd.at at e
    by_cases hm0 : 0 <= m
    · rw [if_pos hm0] at e
      cases hp : b'.parts[m.toNat]? with
      | none => rw [hp] at e; cases e
      | some c' =>
        rw [hp] at e
        refine ⟨_, rfl, u, b', rfl, hu, okb, fun u2 H2 s2 h2 => ?_⟩
        obtain ⟨p, xs, rfl, hpx, hl⟩ := Zh h2
        have lx := hl.length
        rw [Bd.dats_map, List.length_map] at lx
        have hi := (List.getElem?_eq_some_iff.mp hp).1
        have hix : m.toNat < xs.length := by omega
        obtain ⟨d, hd, hx2⟩ := hl.get (List.getElem?_eq_getElem hix)
        rw [Bd.dats_map, List.getElem?_map, hp] at hd
        cases hd
        have em : m = ((m.toNat : Nat) : Int) := by omega
        refine ⟨_, rfl, p, _, m, xs[m.toNat], rfl, rfl, SqT.of hpx, ?_, sj.trans s2, _, _, c', rfl, hx2, Bd.ok_parts okb c' (List.mem_of_getElem? hp), by rw [e2]; exact e⟩
        have ea := ZQ (List.getElem?_eq_getElem hix)
        rw [<- em] at ea
        exact ea
    · rw [if_neg hm0] at e; cases e
  · rintro σ H' ⟨sj, u, z, b', rfl, hu, okb, e⟩
    rw [List.length_map, List.drop_length] at e
    unfold Bd.at at e
    cases e
    exact ⟨_, rfl, q _ _ sj hu⟩
def Ya : Sp := fun vs H Q _ => ∃ (v : V) (b : Bd), vs = [v] /\ Has H v b.dat /\ b.ok /\ ∀ (r : Addr) (H' : Hp), Same H H' -> H r = none -> Has H' (.ref r) (.lst (Bd.dats b.parts)) -> Q (.ref r) H'
theorem ok_partsL {n : Nat} (B : Blt mg) (F : Fun K "_law_parts" "_law_parts" Vj f fd) : FnOk P w K mg base CX0 (n + 1) f fd ["body"] Ya := by
  refine F.ok scPartsL (fun vs H Q E h => ?_) (fun cdv A outer s H vs Q E hr h => ?_)
  · obtain ⟨v, b, rfl, _⟩ := h
    rfl
  obtain ⟨v, b, rfl, hv, ok, q⟩ := h
  refine ⟨_, ZG (Zt (ZY YA (ZV Ze (pv 0) ZH (fun _ _ => rfl)) ZX (Zd _)) (ZL (ZW (Zc op_cat (YF (ZA (ZV Ze (pv 0) ZH (fun _ _ => rfl)) ZF))
        (Yv ["row"] [] (VX (ZV Ze (pv 0) ZH (fun _ _ => rfl))) (YR (i := 0) (by decide)) (fun cl C fp s H => Za (i := 0) nd_row rfl (Or.inl rfl) (Or.inr rfl)) (fun cl C fp s H => ZV (r := rIxT K) Ze (pv 0) ZH (fun _ _ => rfl)))))) Zb)
    (ZG (Zt (ZY YA (ZV Ze (pv 0) ZH (fun _ _ => rfl)) ZX (Zd _)) (ZL (ZW (Zs VR rfl B.list Yk (ZA (ZV Ze (pv 0) ZH (fun _ _ => rfl)) ZF)))) Zb)
    (ZL (ZW (pe_cmpi ["part"] [] (VX (Z8 Vr (pv 0) (YC ZH) YL)) (YR (i := 0) (by decide)) (fun cl C fp s H => Za (i := 0) nd_part rfl (Or.inl rfl) (Or.inr rfl))
        (fun cl C fp s H => YV (pe_isiK (K := K) rfl rfl B.isi rfl B.tuple Zp (pv 0))) (fun cl C fp s H => pv 0))))), ?_⟩
  rcases Bd.form b with ⟨e, ts, bs, rfl⟩ | ⟨g, as, rfl⟩ | ⟨wd, ds, ed, n1, n2, d1, d4, efl⟩
  · unfold Bd.dat at hv
    obtain ⟨p, xs, rfl, hp, hl⟩ := Zh hv
    obtain ⟨x1, r1, rfl, h1, hlA⟩ := ZM hl
    obtain rfl := has_str h1
    obtain ⟨x2, r2, rfl, h2, hlB⟩ := ZM hlA
    obtain ⟨x3, r3, rfl, h3, hlC⟩ := ZM hlB
    obtain rfl := YD hlC
    obtain ⟨pz, zs, rfl, hpz, hzl⟩ := Zh h3
    unfold Bd.ok at ok
    obtain ⟨o1, o2, o3, o4⟩ := ok
    have lz := hzl.length
    rw [Bd.brs_len o2] at lz
    refine ⟨_, rfl, p, _, 0, _, rfl, rfl, SqT.of hp, rfl, rfl, _, rfl, YQ (by decide +kernel) ?_⟩
    refine ⟨_, rfl, p, _, 1, _, rfl, rfl, SqT.of hp, rfl, by show 1 <= sizeLine; decide, fun t1 ht1 => ?_⟩
    have s1 := ZE ht1 (.lst [x2])
    refine ⟨_, rfl, p, _, 2, _, rfl, rfl, SqT.of (s1 _ _ hp), rfl, pz, rfl, ⟨_, SqT.of (s1 _ _ hpz)⟩, ?_⟩
    have hpz2 := s1 _ _ hpz
    refine YJ zs.length (ZP (by omega)) (fun j vs H' => H' = upd H t1 (.lst [x2]) /\ vs.length = j /\ HasL H vs ((bs.map Bd.dat).take j)) ⟨rfl, rfl, HasL.nil⟩ (fun j vs H' z => z.2.1) ?_ ?_ ?_ ?_
    · rintro j vs H' hj ⟨rfl, _⟩
      exact ⟨zs, zs[j], SqT.of hpz2, by simp [hj]⟩
    · rintro vs H' ⟨rfl, _⟩
      exact ⟨zs, SqT.of hpz2, Nat.le_refl _⟩
    · rintro j vs H' x H3 R hj ⟨rfl, z2, z3⟩ yl hR
      obtain ⟨rfl, y⟩ := yl
      obtain ⟨d, hd, hx1⟩ := hzl.get (y zs (SqT.of hpz2))
      obtain ⟨b, t0, hb0, ht0, rfl⟩ := Bd.brs_get hd
      obtain ⟨pp, ys, rfl, hpp, hyl⟩ := Zh hx1
      obtain ⟨y1, r4, rfl, h4, hyA⟩ := ZM hyl
      obtain ⟨y2, r5, rfl, h5, hyB⟩ := ZM hyA
      obtain rfl := YD hyB
      refine ⟨_, rfl, pp, _, 1, _, rfl, rfl, SqT.of (s1 _ _ hpp), rfl, hR _ _ ⟨rfl, by rw [List.length_append, z2]; rfl, ?_⟩⟩
      rw [List.take_add_one, List.getElem?_map, hb0]
      exact HasL.append z3 (HasL.one h5)
    · rintro vs H' l ⟨rfl, z2, z3⟩ hl3
      have s3 := ZE hl3 (.lst vs)
      rw [List.take_of_length_le (by rw [List.length_map]; omega)] at z3
      have e1 : Bd.dats (Bd.choose e ts bs).parts = e.dat :: bs.map Bd.dat := by rw [Bd.dats_map]; rfl
      refine ⟨t1, l, [x2], vs, rfl, rfl, s3 _ _ ZD, ZD, Nat.le_of_lt (ZP (by simp only [List.length_singleton]; omega)), fun l4 hl4 => ?_⟩
      have s4 := ZE hl4 (.lst ([x2] ++ vs))
      have sB := (s1.trans s3).trans s4
      refine q l4 _ sB ((s1.trans s3).free hl4) (YG ZD ?_)
      rw [e1]
      exact HasL.cons (h2.mono sB) (z3.mono sB)
  · unfold Bd.dat at hv
    obtain ⟨p, xs, rfl, hp, hl⟩ := Zh hv
    obtain ⟨x1, r1, rfl, h1, hlA⟩ := ZM hl
    obtain rfl := has_str h1
    obtain ⟨x2, r2, rfl, h2, hlB⟩ := ZM hlA
    obtain ⟨x3, r3, rfl, h3, hlC⟩ := ZM hlB
    obtain rfl := YD hlC
    obtain ⟨pz, zs, rfl, hpz, hzl⟩ := Zh h3
    refine ⟨_, rfl, p, _, 0, _, rfl, rfl, SqT.of hp, rfl, rfl, _, rfl, Zo (by decide +kernel) ?_⟩
    refine ⟨_, rfl, p, _, 0, _, rfl, rfl, SqT.of hp, rfl, rfl, _, rfl, YQ (by decide +kernel) ?_⟩
    refine ⟨_, rfl, p, _, 2, _, rfl, rfl, SqT.of hp, rfl, pz, _, rfl, .inr (SqT.of hpz), fun l hl3 => ?_⟩
    exact q l _ (ZE hl3 _) hl3 (YG ZD (hzl.mono (ZE hl3 _)))
  · rw [ed] at hv
    obtain ⟨p, xs, rfl, hp, hl⟩ := Zh hv
    obtain ⟨x1, r1, rfl, h1, hlA⟩ := ZM hl
    obtain rfl := has_str h1
    have lr := hlA.length
    refine ⟨_, rfl, p, _, 0, _, rfl, rfl, SqT.of hp, ZQ (j := 0) rfl, rfl, _, rfl, Zo (by simpa using n1) ?_⟩
    refine ⟨_, rfl, p, _, 0, _, rfl, rfl, SqT.of hp, ZQ (j := 0) rfl, rfl, _, rfl, Zo (by simpa using n2) ?_⟩
    refine ⟨_, rfl, 1, rfl, p, _, rfl, SqT.of hp, by simp [HT.sIx], fun t2 ht2 => ?_⟩
    have ec : Yj (V.str wd :: r1) (some 1) none = r1 := by simp [Yj, HT.sIx]
    rw [ec]
    have s2 := ZE ht2 (.tup r1)
    refine ⟨t2, rfl, ⟨_, SqT.of ZD⟩, ?_⟩
    refine Y3 r1.length (ZP (by omega)) (fun j vs H' => H' = upd H t2 (.tup r1) /\ vs.length <= j /\ HasL H vs ((ds.take j).filter fun d => isD "tuple" d)) ⟨rfl, Nat.le_refl _, HasL.nil⟩ (fun j vs H' z => z.2.1) ?_ ?_ ?_ ?_
    · rintro j vs H' hj ⟨rfl, _⟩
      exact ⟨r1, r1[j], SqT.of ZD, by simp [hj]⟩
    · rintro vs H' ⟨rfl, _⟩
      exact ⟨r1, SqT.of ZD, Nat.le_refl _⟩
    · rintro j vs H' x H3 R hj ⟨rfl, z2, z3⟩ yl hT hF
      obtain ⟨rfl, y⟩ := yl
      obtain ⟨d, hd, hx1⟩ := hlA.get (y r1 (SqT.of ZD))
      have sn : (ds.take (j + 1)).filter (fun d => isD "tuple" d) = (ds.take j).filter (fun d => isD "tuple" d) ++ (if isD "tuple" d = true then [d] else []) := by
        rw [List.take_add_one, hd, Option.toList_some, List.filter_append]
        congr 1
        by_cases e : isD "tuple" d = true <;> simp [e]
      refine ⟨_, rfl, _, _, _, _, rfl, has_ty (K := K) (hx1.mono s2), Yd K d (by simp), _, rfl, ?_⟩
      by_cases e : isD "tuple" d = true
      · refine YQ e ⟨_, rfl, hT _ _ ⟨rfl, by rw [List.length_append]; simp; exact z2, ?_⟩⟩
        rw [sn, if_pos e]
        exact HasL.append z3 (HasL.one hx1)
      · refine Zo e (hF _ ⟨rfl, Nat.le_succ_of_le z2, ?_⟩)
        rw [sn, if_neg e, List.append_nil]
        exact z3
    · rintro vs H' l ⟨rfl, z2, z3⟩ hl3
      have s3 := ZE hl3 (.lst vs)
      rw [lr, List.take_length, efl] at z3
      exact q l _ (s2.trans s3) (s2.free hl3) (YG ZD (z3.mono (s2.trans s3)))
end
end K4
namespace L2
open PySem PySem.Spec PyProof.Rows
section
variable {X : Cx}
theorem ints_at {ns : List Int} {its : List Value} (r : Vals (ns.map V.int) its) {i : Nat} {v : Value} (e : its[i]? = some v) : ∃ t, v = .int (ns.getD i 0) t := by
  have hi := (List.getElem?_eq_some_iff.mp e).1
  have l := r.length
  rw [List.length_map] at l
  have hi' : i < ns.length := by omega
  obtain ⟨u, hu, t, rfl⟩ := r.get (show (ns.map V.int)[i]? = some (V.int ns[i]) by rw [List.getElem?_map, List.getElem?_eq_getElem hi']; rfl)
  rw [hu] at e
  cases e
  exact ⟨t, by rw [List.getD_eq_getElem?_getD, List.getElem?_eq_getElem hi']; rfl⟩
theorem call_sumI (hc : X.calm = true) : Yq X (.builtin "sum") (fun xs H Q => ∃ (p : Addr) (ns : List Int), xs = [.ref p] /\ SqL X.K H p (ns.map V.int) /\ PyProof.Rows.SumFits ns /\ Q (.int ns.sum) H) := by
  intro pins s σ H xs us Q I r h
  obtain ⟨p, ns, rfl, hq, fit, q⟩ := h
  obtain ⟨u, rfl, ru⟩ := vals1 r
  cases ru
  obtain ⟨its, r', pl, hz⟩ := I.list hq
  have hp : p < s.heap.objs.size := by
    obtain ⟨o, n, e, _⟩ := pl
    exact Heap.lt_size e
  have hlen : its.length = ns.length := by
    have := r'.length
    rw [List.length_map] at this
    exact this.symm
  refine call_sum_walk (wpAny_pyIter_list pl.isList ?_)
  refine ⟨s.heap.objs.size, _, _, its.toArray.size, _, _, fun i => ns.getD i 0, rfl, Walks.list (A := X.A.in1) (I.ok.hd hc) _ p (Nat.ne_of_lt hp) its.toArray, ?_, ?_, ?_, ?_, ?_⟩
  · exact ⟨⟨_, Heap.get?_push_size _ rfl, rfl, rfl⟩, pl.isList.push _⟩
  · intro b hb
    have e : b = s.heap.objs.size ∨ b = p := by simpa using hb
    have hsz : ∀ o : Obj, (s.heap.push o).objs.size = s.heap.objs.size + 1 := fun o => Heap.size_push _ _
    show (b < (s.heap.push _).objs.size)
    rw [hsz]
    rcases e with e | e
    · rw [e]; exact (Nat.lt_succ_self _)
    · rw [e]; exact Nat.lt_succ_of_lt hp
  · intro i v hv
    exact ints_at r' (by simpa using hv)
  · intro j hj
    rw [List.size_toArray, hlen] at hj
    rw [preSum_getD]
    exact fit j hj
  · intro h' tk t' hk
    rw [List.size_toArray, hlen, preSum_getD, List.take_length]
    refine ⟨.int ns.sum, H, I.kept fun b o e => hk b o (fun hm => ?_) (Heap.get?_push_of_some _ e), ⟨t', rfl⟩, q⟩
    have e' : b = s.heap.objs.size := by simpa using hm
    rw [e'] at e
    exact Nat.lt_irrefl _ (Heap.lt_size e)
end
mutual
def Bd.size : Bd -> Nat
  | .tag _ => 1
  | .name _ => 1
  | .pair a b => 1 + (a.size + b.size)
  | .one e => 1 + e.size
  | .other e => 1 + e.size
  | .choose e _ bs => 1 + (e.size + Bd.sizes bs)
  | .ask _ as => 1 + Bd.sizes as
  | .letb _ _ e b => 1 + (e.size + b.size)
def Bd.sizes : List Bd -> Nat
  | [] => 0
  | b :: bs => b.size + Bd.sizes bs
end
mutual
def Bd.dep : Bd -> Nat
  | .tag _ => 0
  | .name _ => 0
  | .pair a b => 1 + max a.dep b.dep
  | .one e => 1 + e.dep
  | .other e => 1 + e.dep
  | .choose e _ bs => 1 + max e.dep (Bd.deps bs)
  | .ask _ as => 1 + Bd.deps as
  | .letb _ _ e b => 1 + max e.dep b.dep
def Bd.deps : List Bd -> Nat
  | [] => 0
  | b :: bs => max b.dep (Bd.deps bs)
end
theorem Bd.size_eq (b : Bd) : b.size = 1 + Bd.sizes b.parts := by
  cases b <;> simp [Bd.size, Bd.sizes, Bd.parts]
theorem Bd.deps_mem : ∀ {bs : List Bd} {b : Bd}, b ∈ bs -> b.dep <= Bd.deps bs
  | [], _, h => nomatch h
  | c :: bs, b, h => by
    unfold Bd.deps
    rcases (List.mem_cons.mp h) with rfl | h
    · exact Nat.le_max_left _ _
    · exact Nat.le_trans (Bd.deps_mem h) (Nat.le_max_right _ _)
theorem Bd.dep_mem {b c : Bd} (h : c ∈ b.parts) : c.dep < b.dep := by
  have hd := Bd.deps_mem h
  cases b <;> simp only [Bd.parts, Bd.deps, Bd.dep, List.mem_nil_iff] at * <;> first | exact h.elim | omega
theorem Bd.sizes_le {m : Nat} : ∀ {bs : List Bd}, (∀ b ∈ bs, b.size <= m) -> Bd.sizes bs <= bs.length * m
  | [], _ => by simp [Bd.sizes]
  | b :: bs, h => by
    have h1 := h b (by simp)
    have h2 := Bd.sizes_le (m := m) (bs := bs) fun c hc => h c (List.mem_cons_of_mem _ hc)
    unfold Bd.sizes
    rw [List.length_cons, Nat.succ_mul]
    omega
theorem Bd.size_le : ∀ (n : Nat) (b : Bd), b.dep <= n -> b.ok -> b.size <= 6 ^ n
  | 0, b, h, ok => by
    cases b <;> simp [Bd.dep] at h <;> simp [Bd.size]
  | n + 1, b, h, ok => by
    have h1 : ∀ c ∈ b.parts, c.size <= 6 ^ n := fun c hc => Bd.size_le n c (by have := Bd.dep_mem hc; omega) (Bd.ok_parts ok c hc)
    have h2 := Bd.sizes_le h1
    have h3 := Bd.few ok
    have h4 : b.parts.length * 6 ^ n <= 5 * 6 ^ n := Nat.mul_le_mul_right _ h3
    have h5 : 1 <= 6 ^ n := Nat.one_le_pow _ _ (by decide)
    rw [Bd.size_eq, Nat.pow_succ]
    omega
theorem Bd.sizes_sum : ∀ bs : List Bd, ((bs.map fun b => ((b.size : Nat) : Int))).sum = ((Bd.sizes bs : Nat) : Int)
  | [] => by simp [Bd.sizes]
  | b :: bs => by
    simp only [List.map_cons, List.sum_cons, Bd.sizes]
    rw [Bd.sizes_sum bs]
    push_cast
    rfl
theorem Bd.sizes_take : ∀ (bs : List Bd) (j : Nat), Bd.sizes (bs.take j) <= Bd.sizes bs
  | [], j => by simp [Bd.sizes]
  | b :: bs, 0 => by simp [Bd.sizes]
  | b :: bs, j + 1 => by
    simp only [List.take_succ_cons, Bd.sizes]
    have := Bd.sizes_take bs j
    omega
theorem Bd.sizes_mem : ∀ {bs : List Bd} {b : Bd}, b ∈ bs -> b.size <= Bd.sizes bs
  | [], _, h => nomatch h
  | c :: bs, b, h => by
    unfold Bd.sizes
    rcases (List.mem_cons.mp h) with rfl | h
    · omega
    · have := Bd.sizes_mem h
      omega
theorem sizes_fit {bs : List Bd} (h : Bd.sizes bs < 2 ^ 62) : PyProof.Rows.SumFits (bs.map fun b => ((b.size : Nat) : Int)) := by
  intro j hj
  rw [List.length_map] at hj
  have e1 : (bs.map fun b => ((b.size : Nat) : Int)).getD j 0 = ((bs[j].size : Nat) : Int) := by rw [List.getD_eq_getElem?_getD, List.getElem?_map, List.getElem?_eq_getElem hj]; rfl
  have h1 := Bd.sizes_mem (List.getElem_mem hj)
  have h2 := Bd.sizes_take bs (j + 1)
  rw [e1, <- List.map_take, Bd.sizes_sum]
  constructor
  · unfold InLong; omega
  · unfold InLong; omega
end L2
namespace K4
open PySem L2
theorem scSize : FnScope ["body"] ["body"] (ZN sSize) := ⟨rfl, rfl, rfl, by decide +kernel, rfl, by decide +kernel, by decide +kernel⟩
theorem boot_sum' : bootBuiltins "sum" = some (.builtin "sum") := by decide +kernel
section
variable {P : Program} {w : World} {K : PySem.W.Frag} {mg : Str -> Option Value} {base : Heap} {f g : Addr} {fd gd : FuncData}
def Vp (n : Nat) : Sp := fun vs H Q _ => ∃ (v : V) (b : Bd), vs = [v] /\ Has H v b.dat /\ b.ok /\ b.dep < n /\ b.dep <= 20 /\ ∀ H', Same H H' -> Q (.int (b.size : Nat)) H'
theorem ok_size {n m : Nat} (B : Blt mg) (ms : mg "sum" = none) (F : Fun K "_law_size" "_law_size" sSize f fd) (G : FnOk P w K mg base CX0 m f fd ["body"] (Vp n)) (bG : Binds K fd ["body"] []) (mG : mg "_law_size" = some (.ref f))
    (GL : FnOk P w K mg base CX0 m g gd ["body"] Ya) (bL : Binds K gd ["body"] []) (kL : PySem.W.keepIn K (.ref g) = true) (mL : mg "_law_parts" = some (.ref g)) :
    FnOk P w K mg base CX0 (m + 1) f fd ["body"] (Vp (n + 1)) := by
  refine F.ok scSize (fun vs H Q E h => ?_) (fun cdv A outer s H vs Q E hr h => ?_)
  · obtain ⟨v, b, rfl, _⟩ := h
    rfl
  obtain ⟨v, b, rfl, hv, ok, dn, d20, q⟩ := h
  refine ⟨_, ZL (ZW (Zc YB ZH (Zi (call_sumI rfl) rfl ms boot_sum' (ZA (Yv ["part"] [] (Y6 (ZK GL hr rfl mL kL bL .nil ZU (ZA (pv 0) ZF))) (YR (i := 0) (by decide)) (fun cl C fp s H => Za (i := 0) nd_part rfl (Or.inl rfl) (Or.inr rfl))
      (fun cl C fp s H => ZK G hr rfl mG F.kp bG .nil ZU (ZA (pv 0) ZF))) ZF)))), ?_⟩
  refine ⟨_, rfl, v, b, rfl, hv, ok, fun r H1 s1 fr h1 => ?_⟩
  obtain ⟨_, xs, er, hx, hl⟩ := YU h1
  cases er
  have lx := hl.length
  rw [Bd.dats_map, List.length_map] at lx
  have few := Bd.few ok
  refine ⟨r, rfl, ⟨_, SqL.of hx⟩, ?_⟩
  refine YJ xs.length (ZP (by omega)) (fun j vs H' => Same H1 H' /\ vs.length = j /\ vs = ((b.parts.take j).map fun c => ((c.size : Nat) : Int)).map V.int) ⟨Same.refl _, rfl, rfl⟩ (fun j vs H' z => ?_) ?_ ?_ ?_ ?_
  · exact z.2.1
  · intro j vs H' hj z
    exact ⟨xs, xs[j], SqL.of (z.1 _ _ hx), by simp [hj]⟩
  · intro vs H' z
    exact ⟨xs, SqL.of (z.1 _ _ hx), Nat.le_refl _⟩
  · intro j vs H' x H3 R hj z yl hR
    obtain ⟨rfl, y⟩ := yl
    obtain ⟨d, hd, hx1⟩ := hl.get (y xs (SqL.of (z.1 _ _ hx)))
    rw [Bd.dats_map, List.getElem?_map] at hd
    cases hp : b.parts[j]? with
    | none => rw [hp] at hd; cases hd
    | some c =>
      rw [hp] at hd
      cases hd
      have hm := List.mem_of_getElem? hp
      have hdm := Bd.dep_mem hm
      refine ⟨_, rfl, x, c, rfl, hx1.mono z.1, Bd.ok_parts ok c hm, by omega, by omega, fun H4 s4 => hR _ _ ⟨z.1.trans s4, by rw [List.length_append, z.2.1]; rfl, ?_⟩⟩
      rw [z.2.2, List.take_add_one, hp, Option.toList_some, List.map_append, List.map_append]
      rfl
  · intro vs H' l z hl3
    obtain ⟨z1, _, rfl⟩ := z
    rw [lx, List.take_length]
    have big : Bd.sizes b.parts < 2 ^ 62 := by
      have h2 := Bd.size_le 20 b d20 ok
      rw [Bd.size_eq] at h2
      have : (6 : Nat) ^ 20 < 2 ^ 62 := by decide
      omega
    refine ⟨l, _, rfl, SqL.of ZD, sizes_fit big, _, _, rfl, rfl, ?_⟩
    have e : (1 : Int) + (b.parts.map fun c => ((c.size : Nat) : Int)).sum = ((b.size : Nat) : Int) := by
      rw [Bd.sizes_sum, Bd.size_eq]; push_cast; rfl
    show Q (.int (1 + (b.parts.map fun c => ((c.size : Nat) : Int)).sum)) _
    rw [e]
    exact q _ ((s1.trans z1).trans (ZE hl3 _))
end
end K4
namespace L2
open PySem PySem.Spec PyProof.Rows SeqAt
mutual
def Dat.pq : Dat -> Dat -> Bool
  | .non, .non => true
  | .bl a, .bl b => a == b
  | .bl a, .int b => (if a then 1 else 0) == b
  | .int a, .bl b => a == (if b then 1 else 0)
  | .int a, .int b => a == b
  | .str a, .str b => a == b
  | .tup a, .tup b => Dat.pqs a b
  | .lst a, .lst b => Dat.pqs a b
  | _, _ => false
def Dat.pqs : List Dat -> List Dat -> Bool
  | [], [] => true
  | a :: as, b :: bs => Dat.pq a b && Dat.pqs as bs
  | _, _ => false
end
mutual
theorem Dat.pq_self : ∀ a : Dat, a.pq a = true
  | .non => by unfold Dat.pq; rfl
  | .bl b => by unfold Dat.pq; exact beq_self_eq_true b
  | .int i => by unfold Dat.pq; exact beq_self_eq_true i
  | .str x => by unfold Dat.pq; exact beq_self_eq_true x
  | .tup ds => by unfold Dat.pq; exact Dat.pqs_self ds
  | .lst ds => by unfold Dat.pq; exact Dat.pqs_self ds
theorem Dat.pqs_self : ∀ a : List Dat, Dat.pqs a a = true
  | [] => by unfold Dat.pqs; rfl
  | a :: as => by unfold Dat.pqs; rw [Dat.pq_self a, Dat.pqs_self as]; rfl
end
mutual
def Dat.nb : Dat -> Bool
  | .bl _ => false
  | .tup ds => Dat.nbs ds
  | .lst ds => Dat.nbs ds
  | _ => true
def Dat.nbs : List Dat -> Bool
  | [] => true
  | d :: ds => d.nb && Dat.nbs ds
end
mutual
theorem Dat.pq_eq : ∀ (a b : Dat), a.nb = true -> b.nb = true -> a.pq b = true -> a = b
  | .non, b, _, hb, h => by cases b <;> unfold Dat.pq at h <;> first | rfl | cases h
  | .bl _, _, ha, _, _ => by unfold Dat.nb at ha; cases ha
  | .int i, b, _, hb, h => by cases b <;> unfold Dat.pq at h <;> first | (cases h; done) | (unfold Dat.nb at hb; cases hb; done) | rw [beq_iff_eq.mp h]
  | .str i, b, _, hb, h => by cases b <;> unfold Dat.pq at h <;> first | (cases h; done) | rw [beq_iff_eq.mp h]
  | .tup ds, b, ha, hb, h => by
    cases b with
    | tup es => unfold Dat.pq at h; unfold Dat.nb at ha hb; rw [Dat.pqs_eq ds es ha hb h]
    | _ => unfold Dat.pq at h; cases h
  | .lst ds, b, ha, hb, h => by
    cases b with
    | lst es => unfold Dat.pq at h; unfold Dat.nb at ha hb; rw [Dat.pqs_eq ds es ha hb h]
    | _ => unfold Dat.pq at h; cases h
theorem Dat.pqs_eq : ∀ (a b : List Dat), Dat.nbs a = true -> Dat.nbs b = true -> Dat.pqs a b = true -> a = b
  | [], [], _, _, _ => rfl
  | [], _ :: _, _, _, h => by unfold Dat.pqs at h; cases h
  | _ :: _, [], _, _, h => by unfold Dat.pqs at h; cases h
  | a :: as, b :: bs, ha, hb, h => by
    unfold Dat.pqs at h
    unfold Dat.nbs at ha hb
    rw [Bool.and_eq_true] at h ha hb
    rw [Dat.pq_eq a b ha.1 hb.1 h.1, Dat.pqs_eq as bs ha.2 hb.2 h.2]
end
theorem Jq : ∀ (as bs : List Dat), ((List.range (min as.length bs.length)).all (fun i => ((as[i]?).getD .non).pq ((bs[i]?).getD .non)) && as.length == bs.length) = Dat.pqs as bs
  | [], [] => by unfold Dat.pqs; rfl
  | [], _ :: _ => by unfold Dat.pqs; simp
  | _ :: _, [] => by unfold Dat.pqs; simp
  | a :: as, b :: bs => by
    have ih := Jq as bs
    have e : min (a :: as).length (b :: bs).length = min as.length bs.length + 1 := by simp only [List.length_cons]; omega
    rw [e, List.range_succ_eq_map, List.all_cons, List.all_map]
    unfold Dat.pqs
    rw [<- ih]
    have e2 : ((a :: as).length == (b :: bs).length) = (as.length == bs.length) := by simp
    rw [e2, Bool.and_assoc]
    rfl
theorem pqs_len {as bs : List Dat} (h : as.length = bs.length) : (List.range as.length).all (fun i => ((as[i]?).getD .non).pq ((bs[i]?).getD .non)) = Dat.pqs as bs := by
  rw [<- Jq as bs, h]; simp
theorem pqs_ne {as bs : List Dat} (h : as.length ≠ bs.length) : Dat.pqs as bs = false := by
  rw [<- Jq as bs]; simp [h]
theorem VG {P : Program} {w : World} {H : Hp} {s : Shared} (ok : HOk P w H s.heap) {a : Addr} {xs : List V} (h : H a = some (.tup xs)) : ∃ its : List Value, Vals xs its /\ s.heap.IsTuple a its.toArray := by
  obtain ⟨_, its, r, p⟩ := (show Z2 P w H s.heap a (.tup xs) from ok a _ h)
  exact ⟨its, r, p.is⟩
theorem VN {P : Program} {w : World} {H : Hp} {s : Shared} (ok : HOk P w H s.heap) {a : Addr} {xs : List V} (h : H a = some (.lst xs)) : ∃ its : List Value, Vals xs its /\ s.heap.IsList a its.toArray := by
  obtain ⟨_, its, n, r, p⟩ := (show Z2 P w H s.heap a (.lst xs) from ok a _ h)
  exact ⟨its, r, _, p, rfl, n, rfl⟩
structure Cmp (A : Around) (s : Shared) (u v : Value) (b : Bool) : Prop where
  eq : EqAt A s u v b
  rc : RcAt A s u v b
  ne : RcNeAt A s u v (!b)
theorem Jr {P : Program} {w : World} {H : Hp} {s : Shared} (ok : HOk P w H s.heap) : ∀ (n : Nat) (d1 d2 : Dat) (A : Around) {x y : V} {u v : Value}, d1.dep <= n -> Has H x d1 -> Has H y d2 -> RelV x u -> RelV y v -> Room (n + 1) A -> Cmp A s u v (d1.pq d2)
  | n, d1, d2, A, x, y, u, v, hn, hx, hy, ru, rv, hr => by
    have hu := hr.units0
    cases d1 with
    | non =>
      unfold Has at hx; subst hx; cases ru
      cases d2 with
      | non => unfold Has at hy; subst hy; cases rv; unfold Dat.pq; exact ⟨.same _, .none_none, .none_none⟩
      | bl b => unfold Has at hy; subst hy; cases rv; unfold Dat.pq; exact ⟨.none_bool _, .none_bool _, .none_bool _⟩
      | int b => unfold Has at hy; subst hy; obtain ⟨t', rfl⟩ := rv; unfold Dat.pq; exact ⟨.none_int _ _, .none_int _ _, .none_int _ _⟩
      | str b => unfold Has at hy; subst hy; obtain ⟨t', rfl⟩ := rv; unfold Dat.pq; exact ⟨.none_str _ _, .none_str _ _, .none_str _ _⟩
      | tup es => unfold Has at hy; obtain ⟨p, ys, rfl, hp, _⟩ := hy; cases rv; obtain ⟨its, r, pt⟩ := VG ok hp; unfold Dat.pq; exact ⟨.none_tuple pt hu, .none_tuple pt hu, .none_tuple pt hu⟩
      | lst es => unfold Has at hy; obtain ⟨p, ys, rfl, hp, _⟩ := hy; cases rv; obtain ⟨its, r, pt⟩ := VN ok hp; unfold Dat.pq; exact ⟨.none_list pt hu, .none_list pt hu, .none_list pt hu⟩
    | bl a =>
      unfold Has at hx; subst hx; cases ru
      cases d2 with
      | non => unfold Has at hy; subst hy; cases rv; unfold Dat.pq; exact ⟨.bool_none _, .bool_none _, .bool_none _⟩
      | bl b => unfold Has at hy; subst hy; cases rv; unfold Dat.pq; exact ⟨.bool_bool _ _, .bool_bool _ _, .bool_bool _ _⟩
      | int b => unfold Has at hy; subst hy; obtain ⟨t', rfl⟩ := rv; unfold Dat.pq; exact ⟨.bool_int _ _ _, .bool_int _ _ _, .bool_int _ _ _⟩
      | str b => unfold Has at hy; subst hy; obtain ⟨t', rfl⟩ := rv; unfold Dat.pq; exact ⟨.bool_str _ _ _, .bool_str _ _ _, .bool_str _ _ _⟩
      | tup es => unfold Has at hy; obtain ⟨p, ys, rfl, hp, _⟩ := hy; cases rv; obtain ⟨its, r, pt⟩ := VG ok hp; unfold Dat.pq; exact ⟨.bool_tuple _ pt hu, .bool_tuple _ pt hu, .bool_tuple _ pt hu⟩
      | lst es => unfold Has at hy; obtain ⟨p, ys, rfl, hp, _⟩ := hy; cases rv; obtain ⟨its, r, pt⟩ := VN ok hp; unfold Dat.pq; exact ⟨.bool_list _ pt hu, .bool_list _ pt hu, .bool_list _ pt hu⟩
    | int a =>
      unfold Has at hx; subst hx; obtain ⟨t, rfl⟩ := ru
      cases d2 with
      | non => unfold Has at hy; subst hy; cases rv; unfold Dat.pq; exact ⟨.int_none _ _, .int_none _ _, .int_none _ _⟩
      | bl b => unfold Has at hy; subst hy; cases rv; unfold Dat.pq; exact ⟨.int_bool _ _ _, .int_bool _ _ _, .int_bool _ _ _⟩
      | int b => unfold Has at hy; subst hy; obtain ⟨t', rfl⟩ := rv; unfold Dat.pq; exact ⟨.int_int _ _ _ _, .int_int _ _ _ _, .int_int _ _ _ _⟩
      | str b => unfold Has at hy; subst hy; obtain ⟨t', rfl⟩ := rv; unfold Dat.pq; exact ⟨.int_str _ _ _ _, .int_str _ _ _ _, .int_str _ _ _ _⟩
      | tup es => unfold Has at hy; obtain ⟨p, ys, rfl, hp, _⟩ := hy; cases rv; obtain ⟨its, r, pt⟩ := VG ok hp; unfold Dat.pq; exact ⟨.int_tuple _ _ pt hu, .int_tuple _ _ pt hu, .int_tuple _ _ pt hu⟩
      | lst es => unfold Has at hy; obtain ⟨p, ys, rfl, hp, _⟩ := hy; cases rv; obtain ⟨its, r, pt⟩ := VN ok hp; unfold Dat.pq; exact ⟨.int_list _ _ pt hu, .int_list _ _ pt hu, .int_list _ _ pt hu⟩
    | str a =>
      unfold Has at hx; subst hx; obtain ⟨t, rfl⟩ := ru
      cases d2 with
      | non => unfold Has at hy; subst hy; cases rv; unfold Dat.pq; exact ⟨.str_none _ _, .str_none _ _, .str_none _ _⟩
      | bl b => unfold Has at hy; subst hy; cases rv; unfold Dat.pq; exact ⟨.str_bool _ _ _, .str_bool _ _ _, .str_bool _ _ _⟩
      | int b => unfold Has at hy; subst hy; obtain ⟨t', rfl⟩ := rv; unfold Dat.pq; exact ⟨.str_int _ _ _ _, .str_int _ _ _ _, .str_int _ _ _ _⟩
      | str b => unfold Has at hy; subst hy; obtain ⟨t', rfl⟩ := rv; unfold Dat.pq; exact ⟨.str_str _ _ _ _, .str_str _ _ _ _, .str_str _ _ _ _⟩
      | tup es => unfold Has at hy; obtain ⟨p, ys, rfl, hp, _⟩ := hy; cases rv; obtain ⟨its, r, pt⟩ := VG ok hp; unfold Dat.pq; exact ⟨.str_tuple _ _ pt hu, .str_tuple _ _ pt hu, .str_tuple _ _ pt hu⟩
      | lst es => unfold Has at hy; obtain ⟨p, ys, rfl, hp, _⟩ := hy; cases rv; obtain ⟨its, r, pt⟩ := VN ok hp; unfold Dat.pq; exact ⟨.str_list _ _ pt hu, .str_list _ _ pt hu, .str_list _ _ pt hu⟩
    | tup ds =>
      unfold Has at hx
      obtain ⟨p, xs, rfl, hp, hxs⟩ := hx
      cases ru
      obtain ⟨its, r, pt⟩ := VG ok hp
      cases d2 with
      | non => unfold Has at hy; subst hy; cases rv; unfold Dat.pq; exact ⟨.tuple_none pt hu, .tuple_none pt hu, .tuple_none pt hu⟩
      | bl b => unfold Has at hy; subst hy; cases rv; unfold Dat.pq; exact ⟨.tuple_bool _ pt hu, .tuple_bool _ pt hu, .tuple_bool _ pt hu⟩
      | int b => unfold Has at hy; subst hy; obtain ⟨t', rfl⟩ := rv; unfold Dat.pq; exact ⟨.tuple_int _ _ pt hu, .tuple_int _ _ pt hu, .tuple_int _ _ pt hu⟩
      | str b => unfold Has at hy; subst hy; obtain ⟨t', rfl⟩ := rv; unfold Dat.pq; exact ⟨.tuple_str _ _ pt hu, .tuple_str _ _ pt hu, .tuple_str _ _ pt hu⟩
      | lst es => unfold Has at hy; obtain ⟨q, ys, rfl, hq, _⟩ := hy; cases rv; obtain ⟨its2, r2, pt2⟩ := VN ok hq; unfold Dat.pq; exact ⟨.tuple_list pt pt2 hu, .tuple_list pt pt2 hu, .tuple_list pt pt2 hu⟩
      | tup es =>
        unfold Has at hy
        obtain ⟨p2, ys, rfl, hp2, hys⟩ := hy
        cases rv
        obtain ⟨its2, r2, pt2⟩ := VG ok hp2
        have l1 := hxs.length
        have l2 := hys.length
        have l3 := r.length
        have l4 := r2.length
        have dd : Dat.deps ds + 1 <= n := by unfold Dat.dep at hn; omega
        obtain ⟨m, rfl⟩ : ∃ m, n = m + 1 := ⟨n - 1, by omega⟩
        have it : ∀ j (h1 : j < its.toArray.size) (h2 : j < its2.toArray.size), EqAt A.in1 s its.toArray[j] its2.toArray[j] ((fun i => ((ds[i]?).getD .non).pq ((es[i]?).getD .non)) j) := by
          intro j h1 h2
          rw [List.size_toArray] at h1 h2
          have j1 : j < xs.length := by omega
          have j2 : j < ys.length := by omega
          obtain ⟨d, hd, hh⟩ := hxs.get (List.getElem?_eq_getElem j1)
          obtain ⟨d', hd', hh'⟩ := hys.get (List.getElem?_eq_getElem j2)
          obtain ⟨u1, hu1, ru1⟩ := r.get (List.getElem?_eq_getElem j1)
          obtain ⟨u2, hu2, ru2⟩ := r2.get (List.getElem?_eq_getElem j2)
          have i1 : its.toArray[j] = u1 := by have z := (List.getElem?_eq_some_iff.mp hu1).2; simpa using z
          have i2 : its2.toArray[j] = u2 := by have z := (List.getElem?_eq_some_iff.mp hu2).2; simpa using z
          dsimp only
          rw [i1, i2, hd, hd']
          have c1 := Dat.deps_get hd
          exact (Jr ok m d d' A.in1 (by omega) hh hh' ru1 ru2 hr.in1).eq
        have k1 : its.toArray.size = ds.length := by rw [List.size_toArray]; omega
        have k2 : its2.toArray.size = es.length := by rw [List.size_toArray]; omega
        have q := RcAt.tuples (A := A) pt pt2 hu it
        have qn := RcNeAt.tuples (A := A) pt pt2 hu it
        rw [k1, k2, Jq] at q qn
        have e0 : (Dat.tup ds).pq (Dat.tup es) = Dat.pqs ds es := by conv => lhs; unfold Dat.pq
        rw [e0]
        refine ⟨?_, q, qn⟩
        by_cases e : p = p2
        · subst e
          rw [hp] at hp2
          cases hp2
          rw [HasL.inj ds es hxs hys, Dat.pqs_self]
          exact EqAt.same _
        · exact EqAt.of_refs e q
    | lst ds =>
      unfold Has at hx
      obtain ⟨p, xs, rfl, hp, hxs⟩ := hx
      cases ru
      obtain ⟨its, r, pt⟩ := VN ok hp
      cases d2 with
      | non => unfold Has at hy; subst hy; cases rv; unfold Dat.pq; exact ⟨.list_none pt hu, .list_none pt hu, .list_none pt hu⟩
      | bl b => unfold Has at hy; subst hy; cases rv; unfold Dat.pq; exact ⟨.list_bool _ pt hu, .list_bool _ pt hu, .list_bool _ pt hu⟩
      | int b => unfold Has at hy; subst hy; obtain ⟨t', rfl⟩ := rv; unfold Dat.pq; exact ⟨.list_int _ _ pt hu, .list_int _ _ pt hu, .list_int _ _ pt hu⟩
      | str b => unfold Has at hy; subst hy; obtain ⟨t', rfl⟩ := rv; unfold Dat.pq; exact ⟨.list_str _ _ pt hu, .list_str _ _ pt hu, .list_str _ _ pt hu⟩
      | tup es => unfold Has at hy; obtain ⟨q, ys, rfl, hq, _⟩ := hy; cases rv; obtain ⟨its2, r2, pt2⟩ := VG ok hq; unfold Dat.pq; exact ⟨.list_tuple pt pt2 hu, .list_tuple pt pt2 hu, .list_tuple pt pt2 hu⟩
      | lst es =>
        unfold Has at hy
        obtain ⟨p2, ys, rfl, hp2, hys⟩ := hy
        cases rv
        obtain ⟨its2, r2, pt2⟩ := VN ok hp2
        have l1 := hxs.length
        have l2 := hys.length
        have l3 := r.length
        have l4 := r2.length
        have dd : Dat.deps ds + 1 <= n := by unfold Dat.dep at hn; omega
        obtain ⟨m, rfl⟩ : ∃ m, n = m + 1 := ⟨n - 1, by omega⟩
        have it : ∀ j (h1 : j < its.toArray.size) (h2 : j < its2.toArray.size), EqAt A.in1 s its.toArray[j] its2.toArray[j] ((fun i => ((ds[i]?).getD .non).pq ((es[i]?).getD .non)) j) := by
          intro j h1 h2
          rw [List.size_toArray] at h1 h2
          have j1 : j < xs.length := by omega
          have j2 : j < ys.length := by omega
          obtain ⟨d, hd, hh⟩ := hxs.get (List.getElem?_eq_getElem j1)
          obtain ⟨d', hd', hh'⟩ := hys.get (List.getElem?_eq_getElem j2)
          obtain ⟨u1, hu1, ru1⟩ := r.get (List.getElem?_eq_getElem j1)
          obtain ⟨u2, hu2, ru2⟩ := r2.get (List.getElem?_eq_getElem j2)
          have i1 : its.toArray[j] = u1 := by have z := (List.getElem?_eq_some_iff.mp hu1).2; simpa using z
          have i2 : its2.toArray[j] = u2 := by have z := (List.getElem?_eq_some_iff.mp hu2).2; simpa using z
          dsimp only
          rw [i1, i2, hd, hd']
          have c1 := Dat.deps_get hd
          exact (Jr ok m d d' A.in1 (by omega) hh hh' ru1 ru2 hr.in1).eq
        have k1 : its.toArray.size = ds.length := by rw [List.size_toArray]; omega
        have k2 : its2.toArray.size = es.length := by rw [List.size_toArray]; omega
        have e0 : (Dat.lst ds).pq (Dat.lst es) = Dat.pqs ds es := by conv => lhs; unfold Dat.pq
        rw [e0]
        have qq : RcAt A s (.ref p) (.ref p2) (Dat.pqs ds es) /\ RcNeAt A s (.ref p) (.ref p2) (!Dat.pqs ds es) := by
          by_cases e : ds.length = es.length
          · have q := RcAt.lists (A := A) pt pt2 (by omega) hu it
            have qn := RcNeAt.lists (A := A) pt pt2 (by omega) hu it
            rw [k1, pqs_len e] at q qn
            exact ⟨q, qn⟩
          · have z : (its.toArray.size != its2.toArray.size) = true := by rw [k1, k2]; simp [e]
            rw [pqs_ne e]
            exact ⟨RcAt.lists_lengths (A := A) pt pt2 z hu, RcNeAt.lists_lengths (A := A) pt pt2 z hu⟩
        refine ⟨?_, qq.1, qq.2⟩
        by_cases e : p = p2
        · subst e
          rw [hp] at hp2
          cases hp2
          rw [HasL.inj ds es hxs hys, Dat.pqs_self]
          exact EqAt.same _
        · exact EqAt.of_refs e qq.1
  termination_by n => n
section
variable {X : Cx}
def rEqD (k : Nat) : R2 := fun x y H Q => ∃ d e, Has H x d /\ Has H y e /\ d.dep <= k /\ Q (.bl (d.pq e)) H
def rNeD (k : Nat) : R2 := fun x y H Q => ∃ d e, Has H x d /\ Has H y e /\ d.dep <= k /\ Q (.bl (!d.pq e)) H
theorem op_eqD {k : Nat} (hr : Room (k + 1) X.A) : OpR X (compareOp .Eq) (rEqD k) := by
  intro pins s σ H x y v u Q I rx ry h
  obtain ⟨d, e, hd, he, hk, q⟩ := h
  exact (Jr I.hok k d e X.A hk hd he rx ry hr).rc _ _ _ _ ⟨.bl _, H, I, rfl, q⟩
theorem op_neD {k : Nat} (hr : Room (k + 1) X.A) : OpR X (compareOp .NotEq) (rNeD k) := by
  intro pins s σ H x y v u Q I rx ry h
  obtain ⟨d, e, hd, he, hk, q⟩ := h
  exact (Jr I.hok k d e X.A hk hd he rx ry hr).ne _ _ _ _ ⟨.bl _, H, I, rfl, q⟩
end
end L2
namespace L2
open PySem PySem.Spec PyProof.Rows
section
variable {prog : Program} {w : World} {A : Around} {E : Value -> Shared -> Prop} {s : Shared}
theorem en_item {tp : Bool} {e it l : Addr} {i : Nat} {xs : Array Value} {x old : Value} {Q : Value -> Shared -> Prop} (he : IsEnum s.heap e it i old) (z : SI tp s.heap it l i xs) (nl : l ≠ it) (hx : xs[i]? = some x) (hne : e ≠ it)
    (hQ : ∀ g, IsEnumOut g e it ((i : Int) + 1) x s.heap.objs.size -> SJ tp g it l (i + 1) -> g.get? s.heap.objs.size = some { cls := .type "tuple", data := .seq #[.int i s.toks, x] } -> g.objs.size = s.heap.objs.size + 1 ->
      (∀ b o, b ≠ e -> b ≠ it -> s.heap.get? b = some o -> g.get? b = some o) -> Q (.ref s.heap.objs.size) { s with heap := g, toks := s.toks + 1 }) :
    wpAny (model prog w) A (Builtin.«enumerate.__next__» ⟨[.ref e], []⟩) (fun fin s' => ∃ v, fin = .done (.ret v) /\ Q v s') E s := by
  obtain ⟨hp, g, d, tk, os⟩ := (s)
  refine wpAny_bind (m := field (.ref e) 2) (wpAny_field he rfl (x := .ref it) rfl ?_)
  refine wpAny_bind (Vg z nl hx fun g1 z1 s1 => ?_)
  replace s1 : Heap.SameBut it hp g1 := s1
  have e1 : IsEnum g1 e it i old := (s1.2 e hne).trans he
  refine wpAny_bind (m := field (.ref e) 3) (wpAny_field e1 rfl (x := rawInt i) rfl ?_)
  refine wpAny_bind (m := field (.ref e) 4) (wpAny_field e1 rfl (x := .none) rfl ?_)
  refine wpAny_bind (m := mkInt i) (wpAny_mkInt ?_)
  refine wpAny_bind (m := setField (.ref e) 3 (rawInt ((i : Int) + 1))) (wpAny_setField_rec e1 (by simp) fun g2 e2 s2 => ?_)
  replace s2 : Heap.SameBut e g1 g2 := s2
  replace e2 : IsEnum g2 e it ((i : Int) + 1) old := e2
  refine wpAny_bind (m := setField (.ref e) 4 .none) (wpAny_setField_rec e2 (by simp) fun g3 e3 s3 => ?_)
  replace s3 : Heap.SameBut e g2 g3 := s3
  replace e3 : IsEnum g3 e it ((i : Int) + 1) old := e3
  refine wpAny_bind (m := newTuple [.int i tk, x]) (wpAny_newTuple ?_)
  have e4 : IsEnum (g3.push { cls := .type "tuple", data := .seq #[.int i tk, x] }) e it ((i : Int) + 1) old := Heap.get?_push_of_some _ e3
  generalize q4 : g3.push { cls := .type "tuple", data := .seq #[.int i tk, x] } = g4 at e4
  have sz : g3.objs.size = hp.objs.size := by rw [s3.1, s2.1, s1.1]
  have el : e < hp.objs.size := Heap.lt_size he
  have t4 : g4.get? hp.objs.size = some { cls := .type "tuple", data := .seq #[.int i tk, x] } := by rw [<- q4, <- sz]; exact Heap.get?_push_size _ rfl
  have z4 : g4.objs.size = hp.objs.size + 1 := by rw [<- q4, Heap.size_push, sz]
  have k4 : ∀ b o, b ≠ e -> b ≠ it -> hp.get? b = some o -> g4.get? b = some o := fun b o be bi hb => by
    rw [<- q4]; exact Heap.get?_push_of_some _ (s3.extBut b o be (s2.extBut b o be (s1.extBut b o bi hb)))
  have j4 : SJ tp g4 it l (i + 1) := by
    rw [<- q4]; exact z1.sj.to fun o ho => Heap.get?_push_of_some _ (s3.extBut _ o (Ne.symm hne) (s2.extBut _ o (Ne.symm hne) ho))
  show wpAny _ _ (Builtin.SmallTypes.ownedTupleIsFree (.ref e) >>= _) _ _ ⟨g4, g, d, tk + 1, os⟩
  rw [sz]
  clear q4 e3 s3 e2 s2 e1 s1 z1 sz g3 g2 g1
  refine wpAny_bind (m := Builtin.SmallTypes.ownedTupleIsFree (.ref e)) (wpAny_bind (m := field (.ref e) 0) (wpAny_field e4 rfl (x := .none) rfl (wpAny_pure ?_)))
  simp only [if_true]
  refine wpAny_bind (wpAny_rule (wpAny_bind (wpAny_field e4 rfl (x := old) rfl (wpAny_bind (wpAny_setField_rec e4 (by simp) fun g5 e5 s5 => ?_)))))
  replace s5 : Heap.SameBut e g4 g5 := s5
  replace e5 : IsEnum g5 e it ((i : Int) + 1) x := e5
  refine wpAny_bind (m := Builtin.SmallTypes.ownedTupleHandOut (.ref e) (.ref hp.objs.size)) ?_
  simp only [Builtin.SmallTypes.ownedTupleHandOut]
  refine wpAny_bind (wpAny_setField_rec e5 (by simp) fun g6 e6 s6 => ?_)
  replace s6 : Heap.SameBut e g5 g6 := s6
  replace e6 : IsEnumOut g6 e it ((i : Int) + 1) x hp.objs.size := e6
  refine wpAny_setField_rec e6 (by simp) fun g7 e7 s7 => ?_
  replace s7 : Heap.SameBut e g6 g7 := s7
  replace e7 : IsEnumOut g7 e it ((i : Int) + 1) x hp.objs.size := e7
  have up : ∀ b o, b ≠ e -> g4.get? b = some o -> g7.get? b = some o := fun b o be q => s7.extBut b o be (s6.extBut b o be (s5.extBut b o be q))
  refine wpAny_bind (wpAny_letGo (wpAny_pure ⟨_, rfl, hQ g7 e7 (j4.to fun o q => up _ o (Ne.symm hne) q) (up _ _ (Nat.ne_of_gt el) t4) (by rw [s7.1, s6.1, s5.1, z4]) fun b o be bi hb => up b o be (k4 b o be bi hb)⟩))
theorem next_en {tp : Bool} {e it l : Addr} {i : Nat} {xs : Array Value} {x old : Value} {Q : Option Value -> Shared -> Prop} (he : IsEnum s.heap e it i old) (z : SI tp s.heap it l i xs) (nl : l ≠ it) (hx : xs[i]? = some x) (hne : e ≠ it)
    (hQ : ∀ g, IsEnumOut g e it ((i : Int) + 1) x s.heap.objs.size -> SJ tp g it l (i + 1) -> g.get? s.heap.objs.size = some { cls := .type "tuple", data := .seq #[.int i s.toks, x] } -> g.objs.size = s.heap.objs.size + 1 ->
      (∀ b o, b ≠ e -> b ≠ it -> s.heap.get? b = some o -> g.get? b = some o) -> Q (some (.ref s.heap.objs.size)) { s with heap := g, toks := s.toks + 1 }) : wpAny (model prog w) A (pyNext (.ref e)) Q E s := by
  have hT : s.TypeIs (.ref e) "enumerate" := (⟨_, he, rfl⟩)
  simp only [pyNext]
  exact wpAny_bind (wpAny_attempt (wpAny_callSpecial?_slot (name := Str.ofString "__next__") hT F.slot_enumerate_next (wpAny_call_entry F.slot_enumerate_next hT F.entry_enumerate_next
      (en_item he z nl hx hne fun g a b c d k => wpAny_pure (hQ g a b c d k)) (F.args_enumerate_next_1 _))))
theorem end_en {tp : Bool} {e it l : Addr} {i : Nat} {xs : Array Value} {old : Value} {Q : Option Value -> Shared -> Prop} (hh : A.handled = none) (he : IsEnum s.heap e it i old) (z : SI tp s.heap it l i xs) (hx : xs[i]? = none)
    (hQ : ∀ g, Heap.ExtBut it s.heap g -> Q none { s with heap := g }) : wpAny (model prog w) A (pyNext (.ref e)) Q E s := by
  have hT : s.TypeIs (.ref e) "enumerate" := (⟨_, he, rfl⟩)
  simp only [pyNext]
  refine wpAny_bind (wpAny_attempt (wpAny_callSpecial?_slot (name := Str.ofString "__next__") hT F.slot_enumerate_next (wpAny_call_entry F.slot_enumerate_next hT F.entry_enumerate_next ?_ (F.args_enumerate_next_1 _))))
  refine wpAny_bind (m := field (.ref e) 2) (wpAny_field he rfl (x := .ref it) rfl (wpAny_bind (si_end hh z hx fun g y eg ⟨o, ho, hc⟩ => ?_)))
  exact wpAny_bind (wpAny_isInstance (T := "StopIteration") (b := true) ⟨o, ho, hc⟩ isSubtype_stop (wpAny_pure (hQ _ eg)))
theorem en_new_go (tp : Bool) (l : Addr) (xs : Array Value) : Meets (Builtin.«enumerate.__new__» ⟨[.type "enumerate", .ref l], []⟩) (fun _ R s => Wk tp s.heap l xs /\
      R (.ok (.ret (.ref (s.heap.push (Ye tp l)).objs.size))) { s with heap := (s.heap.push (Ye tp l)).push { cls := .type "enumerate", data := .fields #[.none, .bool false, .ref s.heap.objs.size, rawInt 0, .none, .none] } }) :=
  .of_wp fun prog w A R s h => by
    obtain ⟨hp, g, d, tk, os⟩ := (s); obtain ⟨hl, h⟩ := h
    have hsub := sub_enumerate
    have k1 : Wk tp (Shared.heap ⟨hp, g, d, tk, os⟩) l xs := hl
    obtain ⟨ob, hob, hcl⟩ : ∃ ob, hp.get? l = some ob /\ (∃ ys n, ob.data = .seq ys n) := by
      cases tp with
      | false => obtain ⟨o, e, _, n, dd⟩ := hl; exact ⟨o, e, _, n, dd⟩
      | true => obtain ⟨o, e, _, n, dd⟩ := hl; exact ⟨o, e, _, n, dd⟩
    wp_walk using AutoSeq1.wpAny_loadPart' hob
    refine (wpAny_stack_any fun st => wpAny_pure ?_)
    split
    · rename_i c _ _ _ _ _
      cases (c == Value.type "enumerate") <;> (wp_walk using AutoSeq1.wpAny_loadPart' hob, Jl k1; exact ⟨_, rfl, h⟩)
    · wp_walk using AutoSeq1.wpAny_loadPart' hob, Jl k1
      exact ⟨_, rfl, h⟩
theorem call_en {tp : Bool} {l : Addr} {xs : Array Value} {Q : Value -> Shared -> Prop} (h1 : Wk tp s.heap l xs)
    (h : ∀ g, IsEnum g (s.heap.objs.size + 1) s.heap.objs.size 0 .none -> SJ tp g s.heap.objs.size l 0 -> (∀ c o, s.heap.get? c = some o -> g.get? c = some o) -> Q (.ref (s.heap.objs.size + 1)) { s with heap := g }) :
    (wpAny (model prog w) A (call (.type "enumerate") [.ref l]) Q E s) := by
  refine callType_new F.called_enumerate (by decide) (F.typeCall_enumerate_1 _) (F.newCall_enumerate_1 _) (fun obj => F.args_object_init_2 obj _) F.entry_enumerate_new (en_new_go tp l xs) ⟨h1, ?_⟩
  have e1 : (s.heap.push (Ye tp l)).objs.size = s.heap.objs.size + 1 := Heap.size_push ..
  have p2 : ((s.heap.push (Ye tp l)).push { cls := .type "enumerate", data := .fields #[.none, .bool false, .ref s.heap.objs.size, rawInt 0, .none, .none] }).get? (s.heap.push (Ye tp l)).objs.size = some _ := Heap.get?_push_size _ rfl
  have p1 : SJ tp ((s.heap.push (Ye tp l)).push { cls := .type "enumerate", data := .fields #[.none, .bool false, .ref s.heap.objs.size, rawInt 0, .none, .none] }) s.heap.objs.size l 0 := (SJ.new tp s.heap l).to fun o q => Heap.get?_push_of_some _ q
  show _ /\ _
  rw [e1] at p2 ⊢
  exact ⟨⟨_, p2, rfl⟩, h _ p2 p1 fun c o q => Heap.get?_push_of_some _ (Heap.get?_push_of_some _ q)⟩
end
structure ER (h : Heap) (e it : Addr) (tp : Bool) (l : Addr) (k : Nat) : Prop where
  enu : ∃ old, IsEnum h e it k old
  one : SJ tp h it l k
def Ite (K : PySem.W.Frag) (tp : Bool) (l : Addr) : It :=
  ⟨fun i H => ∃ xs x, Sq K tp H l xs /\ xs[i]? = some x, fun i H v H' => ∃ r x, v = .ref r /\ H r = none /\ H' = upd H r (.tup [.int (i : Nat), x]) /\ ∀ xs, Sq K tp H l xs -> xs[i]? = some x, fun i H => ∃ xs, Sq K tp H l xs /\ xs.length <= i⟩
theorem turn_en {P : Program} {w : World} {K : PySem.W.Frag} {elts : List Expr} {x1} {pos : Pos} {e it l : Addr} {tp : Bool} (n1 : e ≠ it) (n2 : l ≠ it) : Turn P w K (.Tuple elts x1 pos) (Ite K tp l) [e, it] e (fun i h => ER h e it tp l i) where
  mem := by simp
  obj := fun i h st b hb => by
    have q : b = e ∨ b = it := by simpa using hb
    rcases q with q | q <;> rw [q]
    · obtain ⟨old, h1⟩ := st.enu
      exact ⟨_, h1, fun v e => nomatch e⟩
    · exact st.one.obj
  keep := fun i h h' st k => ⟨let ⟨old, h1⟩ := st.enu; ⟨old, k e (by simp) _ h1⟩, st.one.to fun o q => k it (by simp) o q⟩
  item := by
    intro X hP hw hK hc i pins s σ H E I hf st hg
    subst hP hw hK
    obtain ⟨xs, x, q1, hx⟩ := hg
    obtain ⟨its, r1, w1⟩ := I.sq q1
    obtain ⟨u1, hu1, ru1⟩ := r1.get hx
    obtain ⟨old, he⟩ := st.enu
    have elt : e < s.heap.objs.size := Heap.lt_size he
    refine next_en he (st.one.si w1) n2 (x := u1) (by simpa using hu1) n1 fun g ho hj ht sz kp => ?_
    have kp' : ∀ b o, b ∉ [e, it] -> s.heap.get? b = some o -> g.get? b = some o := fun b o hb q => kp b o (fun z => hb (by simp [z])) (fun z => hb (by simp [z])) q
    have I1 : Inv X pins σ H { s with heap := g, toks := s.toks + 1 } := I.turnedL (t' := s.toks + 1) kp' hf
    have hn : H s.heap.objs.size = none := I.hok.fresh (Nat.le_refl _)
    refine ⟨_, rfl, ?_⟩
    refine wpAny_letOwnedTupleGo_enum (s := { s with heap := g, toks := s.toks + 1 }) ho fun g2 e2 s2 => ?_
    have I2 : Inv X pins σ H { s with heap := g2, toks := s.toks + 1 } := I1.turnedL (s := { s with heap := g, toks := s.toks + 1 }) (t' := s.toks + 1) (ch := [e]) (fun b o hb q => s2.extBut b o (fun z => hb (by simp [z])) q) fun b hb => by
      have q : b = e := by simpa using hb
      rw [q]; exact hf e (by simp)
    have pg2 : g2.get? s.heap.objs.size = some { cls := .type "tuple", data := .seq #[.int i s.toks, u1] } := s2.extBut _ _ (Nat.ne_of_gt elt) ht
    have I3 : Inv X pins σ (upd H s.heap.objs.size (.tup [.int (i : Nat), x])) { s with heap := g2, toks := s.toks + 1 } := I2.retrack hn (I.fpOk (Nat.le_refl _) hn) ⟨by show 2 <= sizeLine; decide, [.int i s.toks, u1], .cons ⟨_, rfl⟩ (.cons ru1 .nil), ⟨_, pg2, rfl, rfl, _, rfl⟩⟩
    have ltf : ∀ b ∈ [e, it], b < s.heap.objs.size := fun b hb => by
      have q : b = e ∨ b = it := by simpa using hb
      rcases q with q | q <;> rw [q]
      · exact elt
      · obtain ⟨o, q, _⟩ := st.one.obj
        exact Heap.lt_size q
    refine ⟨.ref s.heap.objs.size, _, I3, rfl, ⟨_, x, rfl, hn, rfl, fun zs h => by rw [I.sq_inj h q1]; exact hx⟩, ?_, fun b hb => ?_⟩
    · exact ⟨⟨_, e2⟩, hj.to fun o q => s2.extBut _ o (Ne.symm n1) q⟩
    · rw [ZJ (Nat.ne_of_lt (ltf b hb))]
      exact (hf b hb).1
  done := by
    intro X hP hw hK hc i pins s σ H E I hf st hg
    subst hP hw hK
    obtain ⟨xs, q1, hend⟩ := hg
    obtain ⟨its, r1, w1⟩ := I.sq q1
    have e1 := r1.length
    obtain ⟨old, he⟩ := st.enu
    refine end_en (I.ok.hd hc) he (st.one.si w1) (by simp; omega) fun g kp => ⟨rfl, ?_⟩
    exact I.turnedL (t' := s.toks) (ch := [it]) (fun b o hb q => kp b o (fun z => hb (by simp [z])) q) fun b hb => hf b (by
      have q : b = it := by simpa using hb
      rw [q]; simp)
  self := fun _ _ _ _ _ st h => let ⟨_, h1⟩ := st.enu; wpAny_pyIter_enum h1 h
theorem boot_enum' : bootBuiltins "enumerate" = some (.type "enumerate") := by decide +kernel
def iEnum (K : PySem.W.Frag) (ta : TA) : TI := fun σ H R => ta σ H fun vs H1 => ∃ a tp xs, vs = [.ref a] /\ Sq K tp H1 a xs /\ R (Ite K tp a) H1
theorem pi_enum {X : Cx} {elts : List Expr} {x1} {tpos : Pos} {a : Expr} {ta : TA} {p pos : Pos} (hg : Gl X "enumerate") (hm : X.mg "enumerate" = none) (ha : PA X [a] ta)
    (hs : starEach [a] X.env = [(false, eval a X.env)] := by rfl) : PI X (.Tuple elts x1 tpos) (.Call (.Name "enumerate" p) [a] [] pos) (iEnum X.K ta) := by
  intro pins s σ H R I h
  refine Call_ (Va I hg hm boot_enum' (PyProof.Rows.callWith_type1 (thn (ha pos pins s σ H _ I h) fun us s1 ⟨vs, H1, I1, r1, q1⟩ => ?_) (by rw [hs]; rfl) (by rfl)))
  obtain ⟨l, tp, xs, e, q1, q⟩ := q1
  subst e
  obtain ⟨u, rfl, ru⟩ := vals1 r1
  cases ru
  obtain ⟨its, rr1, w1⟩ := I1.sq q1
  have n1 := w1.lt
  refine call_en w1 fun g he hj kp => ?_
  refine wpAny_pyIter_enum (s := { s1 with heap := g }) he ?_
  have I2 : Inv X pins σ H1 { s1 with heap := g } := I1.kept (t' := s1.toks) kp
  refine ⟨_, [s1.heap.objs.size + 1, s1.heap.objs.size], _, _, H1, rfl, I2, turn_en (Nat.succ_ne_self _) (Nat.ne_of_lt n1), ⟨⟨_, he⟩, hj⟩, fun b hb => ?_, q⟩
  have hb' : s1.heap.objs.size <= b := by
    have z : b = s1.heap.objs.size + 1 ∨ b = s1.heap.objs.size := by simpa using hb
    rcases z with z | z <;> rw [z] <;> first | exact Nat.le_refl _ | exact Nat.le_add_right _ _
  exact I1.fpOk hb' (I1.hok.fresh hb')
end L2
namespace L2
open PySem PySem.Spec PyProof.Rows PySem.MeetsSeq
section
variable {X : Cx}
def rRemove : V -> List V -> Hp -> VK -> Prop := fun x vs H Q => ∃ (l : Addr) (ys : List Str) (y : Str) (j : Nat), x = .ref l /\ vs = [.str y] /\ H l = some (.lst (ys.map V.str)) /\ ys[j]? = some y /\ (∀ m, m < j -> ys[m]? ≠ some y) /\ Q .non (upd H l (.lst ((ys.eraseIdx j).map V.str)))
def isTx (y : Str) : Value -> Bool
  | .str x _ => x.cps.toList == y.cps.toList
  | _ => false
theorem tx_eq {x y : Str} : (x.cps.toList == y.cps.toList) = decide (x = y) := by
  by_cases h : x = y
  · subst h; simp
  · have : ¬ x.cps.toList = y.cps.toList := fun e => h (by cases x; cases y; simp_all [Array.ext'])
    rw [decide_eq_false h]
    exact beq_eq_false_iff_ne.mpr this
theorem mt_remove : MtM X "list.remove" rRemove := by
  intro pins s σ H x vs v us Q I rx rv h
  obtain ⟨l, ys, y, j, rfl, rfl, hH, hj, hno, q⟩ := h
  cases rx
  obtain ⟨u, rfl, ru⟩ := rv.one
  obtain ⟨t, rfl⟩ := ru
  obtain ⟨z, its, n, r, hl, e⟩ := I.lstM hH
  have len := r.length
  rw [List.length_map] at len
  have at_ : ∀ m (hm : m < its.length), ∃ y' t', ys[m]? = some y' /\ its[m] = .str y' t' := fun m hm => by
    have hm' : m < ys.length := by omega
    obtain ⟨u, hu, t', e'⟩ := r.get (show (ys.map V.str)[m]? = some (.str ys[m]) by rw [List.getElem?_map, List.getElem?_eq_getElem hm']; rfl)
    refine ⟨ys[m], t', List.getElem?_eq_getElem hm', ?_⟩
    rw [(List.getElem?_eq_some_iff.mp hu).2, e']
  have jl : j < its.length := by have := (List.getElem?_eq_some_iff.mp hj).1; omega
  have he : ∀ u, u ∈ its.toArray -> EqGives u (.str y t) (isTx y u) := fun u hu => by
    obtain ⟨m, hm, em⟩ := List.mem_iff_getElem.mp (by simpa using hu)
    obtain ⟨y', t', _, e2⟩ := at_ m hm
    rw [<- em, e2]
    exact PySem.SeqRoads2.EqGives.str y' y t' t
  refine call_meets F.slot_list_remove ⟨_, e, rfl⟩ F.entry_list_remove (F.args_list_remove_2 _ _) (PySem.MeetsSeq.list_remove l its.toArray n (.str y t) (isTx y) he j (by rw [List.size_toArray]; exact jl) ?_ ?_ (by rw [List.size_toArray]; omega)) ⟨e, ?_⟩
  · obtain ⟨y', t', e1, e2⟩ := at_ j jl
    rw [hj] at e1
    cases e1
    show isTx y its.toArray[j] = true
    simp only [List.getElem_toArray, e2, isTx, beq_self_eq_true]
  · intro m hm hlt
    rw [List.size_toArray] at hm
    obtain ⟨y', t', e1, e2⟩ := at_ m hm
    simp only [List.getElem_toArray, e2, isTx]
    rw [tx_eq]
    exact decide_eq_false fun e => hno m hlt (by rw [e1, e])
  refine ⟨.non, _, I.lset (its' := its.eraseIdx j) hH e (by simp [Array.eraseIdxIfInBounds, jl]) ?_ ?_, rfl, q⟩
  · have er : ∀ {xs : List V} {us : List Value} (j : Nat), Vals xs us -> Vals (xs.eraseIdx j) (us.eraseIdx j) := by
      intro xs us j q
      induction q generalizing j with
      | nil => exact .nil
      | cons h t ih =>
        cases j with
        | zero => exact t
        | succ j => exact .cons h (ih j)
    have em : ∀ (ys : List Str) (j : Nat), (ys.eraseIdx j).map V.str = (ys.map V.str).eraseIdx j := by
      intro ys
      induction ys with
      | nil => intro j; rfl
      | cons a t ih => intro j; cases j with
        | zero => rfl
        | succ j => show V.str a :: (t.eraseIdx j).map V.str = V.str a :: (t.map V.str).eraseIdx j; rw [ih]
    rw [em]
    exact er j r
  · rw [List.length_map]
    have := List.length_eraseIdx_le ys j
    omega
end
section
variable {X : Cx} {tg : Expr}
def iDictF (tl : TE) : TI := fun σ H R => tl σ H fun v H1 => ∃ d o kvs, v = .ref d /\ H1 d = some (.frz o (.dK kvs)) /\ R (Itd d o kvs) H1
theorem VY {l : Expr} {tl : TE} (hl : PE X l tl) : PI X tg l (iDictF tl) := by
  intro pins s σ H R I h
  refine thn (hl pins s σ H _ I h) fun v s1 ⟨y, H1, I1, r1, d, o, kvs, e, hd, q⟩ => ?_
  subst e
  cases r1
  obtain ⟨vs, hat, rv, hm⟩ := I1.dict_at hd
  refine wpAny_pyIter_dict hm hat ?_
  rw [<- kv_len rv]
  refine ⟨_, [s1.heap.objs.size], _, _, _, rfl, I1.kept (t' := s1.toks) (fun b o e => Heap.get?_push_of_some _ e), turn_dict _ d o kvs, ⟨_, Heap.get?_push_size _ rfl, rfl, rfl⟩, fun b hb => ?_, q⟩
  cases List.mem_singleton.mp hb
  exact I1.fpOk (Nat.le_refl _) (I1.hok.fresh (Nat.le_refl _))
def tFrz (t : TS) : TS := fun D σ H => t { D with nx := fun σ H1 => ∃ d kvs, H1 d = some (.dK kvs) /\ ∀ o, D.nx σ (upd H1 d (.frz o (.dK kvs))) } σ H
theorem ps_frz {st : Stmt} {t : TS} (h : PS X st t) : PS X st (tFrz t) := by
  intro pins s σ H D I q
  refine thn (h pins s σ H _ I q) fun f s1 z => ?_
  cases f with
  | next =>
    obtain ⟨σ', H1, I1, d, kvs, hd, q2⟩ := z
    obtain ⟨o, ho⟩ := (show Z2 X.prog X.w H1 s1.heap d (.dK kvs) from I1.hok d _ hd).dk_ex
    exact ⟨σ', _, I1.freeze hd ho, q2 o⟩
  | brk => exact z
  | cont => exact z
  | ret u => exact z
end
def SF (H : Hp) (a : Addr) (ks : List (Str × Shp)) : Prop := ∃ o kvs, H a = some (.frz o (.dK kvs)) /\ kvs.map (·.1) = ks.map (fun k => (Sum.inr k.1 : Key)) /\ ∀ y s, Jg ks y = some s -> ∃ v, YE kvs (Sum.inr y) = some v /\ Has H v s.dat
theorem SF.mono {H H' : Hp} {a : Addr} {ks : List (Str × Shp)} (h : SF H a ks) (e : Same H H') : SF H' a ks := by
  obtain ⟨o, kvs, h1, h2, h3⟩ := h
  exact ⟨o, kvs, e _ _ h1, h2, fun y s hs => let ⟨v, g1, g2⟩ := h3 y s hs; ⟨v, g1, g2.mono e⟩⟩
theorem for_dict {d : Addr} {o : Obj} {kvs : List (Key × V)} {g : TG} {tb : TS} {D : Ends} {σ : St} {H : Hp} (Pv : Nat -> St -> Hp -> Prop) (h0 : Pv 0 σ H) (hl : ∀ i σ H, i <= kvs.length -> Pv i σ H -> H d = some (.frz o (.dK kvs)))
    (hs : ∀ i kv σ H, kvs[i]? = some kv -> Pv i σ H -> g (kV kv.1) σ H fun σ2 H2 => tb { D with nx := Pv (i + 1), ct := Pv (i + 1), bk := D.nx } σ2 H2) (hd : ∀ σ H, Pv kvs.length σ H -> D.nx σ H) :
    ∃ W : Nat -> Nat -> St -> Hp -> Prop, (∃ m, W 0 m σ H) /\ ∀ i m σ H, W i m σ H ->
      ((Itd d o kvs).stop i H /\ D.nx σ H) ∨ ((Itd d o kvs).go i H /\ ∃ N : St -> Hp -> Prop, (∀ σ' H', N σ' H' -> ∃ m', m' < m /\ W (i + 1) m' σ' H') /\ ∀ x H', (Itd d o kvs).yld i H x H' -> g x σ H' fun σ2 H2 => tb { D with nx := N, ct := N, bk := D.nx } σ2 H2) := by
  refine ⟨fun i m σ H => m = kvs.length - i /\ i <= kvs.length /\ Pv i σ H, ⟨kvs.length, by simp, Nat.zero_le _, h0⟩, fun i m σ H z => ?_⟩
  obtain ⟨rfl, hi, p⟩ := z
  have q := hl i σ H hi p
  rcases Nat.lt_or_ge i kvs.length with hlt | hge
  · refine .inr ⟨⟨q, hlt⟩, Pv (i + 1), fun σ' H' p' => ⟨kvs.length - (i + 1), by omega, rfl, hlt, p'⟩, fun x H' y => ?_⟩
    obtain ⟨e, kv, ek, ex⟩ := y
    subst e ex
    exact hs i kv σ _ ek p
  · have e : kvs.length = i := by omega
    exact .inl ⟨⟨q, e⟩, by subst e; exact hd σ H p⟩
theorem fl_dict {d : Addr} {o : Obj} {kvs : List (Key × V)} {g : TG} {tb : TS} {D : Ends} {σ : St} {H : Hp} (Pv : Nat -> St -> Hp -> Prop) (h0 : Pv 0 σ H) (hl : ∀ i σ H, i <= kvs.length -> Pv i σ H -> H d = some (.frz o (.dK kvs)))
    (hs : ∀ (B : St -> Hp -> Prop) (R : VK) i kv σ H, kvs[i]? = some kv -> Pv i σ H -> g (kV kv.1) σ H fun σ2 H2 => tb { nx := Pv (i + 1), rt := R, bk := B, ct := Pv (i + 1) } σ2 H2) (hd : ∀ σ H, Pv kvs.length σ H -> D.nx σ H) :
    ∃ W : Nat -> Nat -> St -> Hp -> Prop, (∃ m, W 0 m σ H) /\ ∀ i m σ H, W i m σ H ->
      ((Itd d o kvs).stop i H /\ D.nx σ H) ∨ ((Itd d o kvs).go i H /\ ∃ N : St -> Hp -> Prop, (∀ σ' H', N σ' H' -> ∃ m', m' < m /\ W (i + 1) m' σ' H') /\ ∀ x H', (Itd d o kvs).yld i H x H' -> g x σ H' fun σ2 H2 => tb { D with nx := N, ct := N, bk := D.nx } σ2 H2) :=
  for_dict Pv h0 hl (fun i kv σ H hx p => hs _ _ i kv σ H hx p) hd
theorem key_at {ks : List (Str × Shp)} {kvs : List (Key × V)} (e : kvs.map (·.1) = ks.map (fun k => (Sum.inr k.1 : Key))) {i : Nat} {kv : Key × V} (h : kvs[i]? = some kv) : ∃ y s, ks[i]? = some (y, s) /\ kv.1 = Sum.inr y := by
  have q := congrArg (fun l => l[i]?) e
  simp only [List.getElem?_map, h, Option.map_some] at q
  cases hk : ks[i]? with
  | none => rw [hk] at q; cases q
  | some k =>
    rw [hk] at q
    obtain ⟨y, s⟩ := k
    exact ⟨y, s, rfl, Option.some.inj q⟩
theorem key_len {ks : List (Str × Shp)} {kvs : List (Key × V)} (e : kvs.map (·.1) = ks.map (fun k => (Sum.inr k.1 : Key))) : kvs.length = ks.length := by
  have := congrArg List.length e
  rwa [List.length_map, List.length_map] at this
def GB (p w : Addr) (H H' : Hp) : Prop := ∀ b o, b ≠ p -> b ≠ w -> H b = some o -> H' b = some o
theorem GB.refl (p w : Addr) (H : Hp) : GB p w H H := fun _ _ _ _ h => h
theorem GB.trans {p w : Addr} {H H1 H2 : Hp} (a : GB p w H H1) (b : GB p w H1 H2) : GB p w H H2 := fun c o n1 n2 h => b c o n1 n2 (a c o n1 n2 h)
theorem SameB.gb {p w : Addr} {H H' : Hp} (a : SameB p H H') : GB p w H H' := fun b o n _ h => a b o n h
theorem Same.gb {p w : Addr} {H H' : Hp} (a : Same H H') : GB p w H H' := fun b o _ _ h => a b o h
def AF (H : Hp) (a : Addr) (ns : List Str) (m : Nat) : Prop := ∃ o kvs, H a = some (.frz o (.dK kvs)) /\ kvs.length <= m /\ ∀ kv ∈ kvs, ∃ (x k : Str), kv = (Sum.inr x, V.str k) /\ k ∈ ns
def hdD (ps : List (Str × Str)) (k : Str) : Dat := .tup [.tup (ps.map fun p => .tup [.str p.1, .str p.2]), .str k]
def HF (H : Hp) (a : Addr) (ns : List Str) : Prop := ∃ o kvs, H a = some (.frz o (.dK kvs)) /\ kvs.length <= 8 /\ ∀ kv ∈ kvs, ∃ (f : Str) (ps : List (Str × Str)) (k : Str), kv.1 = Sum.inr f /\ Has H kv.2 (hdD ps k) /\ ps.length <= 3 /\ (∀ p ∈ ps, p.2 ∈ ns) /\ k ∈ ns
def wrD (sA hA lA : Addr) (n : Int) : HO := .dK [(Sum.inr "shapes", .ref sA), (Sum.inr "heads", .ref hA), (Sum.inr "lets", .ref lA), (Sum.inr "left", .int n)]
def Wr (H : Hp) (w : Addr) (ks : List (Str × Shp)) (lA : Addr) : Prop := ∃ (sA hA : Addr) (ls : List Str) (n : Int), H w = some (wrD sA hA lA n) /\ SF H sA ks /\ HF H hA (ks.map (·.1)) /\ H lA = some (.lst (ls.map V.str)) /\ ls.length <= 3
theorem VO (ps : List (Str × Str)) (k : Str) : (hdD ps k).st = true := by
  have : ∀ ps : List (Str × Str), Dat.sts (ps.map fun p => Dat.tup [.str p.1, .str p.2]) = true := by
    intro ps
    induction ps with
    | nil => unfold List.map Dat.sts; rfl
    | cons p ps ih => rw [List.map_cons]; unfold Dat.sts; rw [ih]; simp [Dat.st, Dat.sts]
  simp [hdD, Dat.st, Dat.sts, this]
theorem YO {H : Hp} {p a : Addr} {o : Obj} {u : HO} (s : Zu H p) (h : H a = some (.frz o u)) : a ≠ p := fun e => by
  obtain ⟨_, _, _, _, h2⟩ := s
  rw [e, h2] at h; cases h
theorem strm_ne_dK {H : Hp} {p a : Addr} {kvs : List (Key × V)} (s : Zu H p) (h : H a = some (.dK kvs)) : a ≠ p := fun e => by
  obtain ⟨_, _, _, _, h2⟩ := s
  rw [e, h2] at h; cases h
theorem Z9 {H : Hp} {p a : Addr} {ls : List Str} (s : Zu H p) (h : H a = some (.lst (ls.map V.str))) : a ≠ p := fun e => by
  obtain ⟨_, _, _, _, h2⟩ := s
  rw [e, h2] at h
  have h' := Option.some.inj h
  injection h' with h3
  cases ls with
  | nil => cases h3
  | cons l ls => rw [List.map_cons] at h3; injection h3 with h4 _; cases h4
theorem Wr.ne {lA : Addr} {H : Hp} {p w : Addr} {ks : List (Str × Shp)} (g : Wr H w ks lA) (s : Zu H p) : w ≠ p := by
  obtain ⟨_, _, _, _, h, _⟩ := g
  exact strm_ne_dK s h
theorem GB.tk {lA : Addr} {p w : Addr} {H H' : Hp} {ks : List (Str × Shp)} (a : GB p w H H') (s : Zu H p) (g : Wr H w ks lA) : TK H H' := fun b xs h => a b _ (Zw s h) (fun e => by
  obtain ⟨_, _, _, _, h2, _⟩ := g
  rw [e, h2] at h; cases h) h
theorem Wr.ne_frz {lA : Addr} {H : Hp} {w a : Addr} {o : Obj} {u : HO} {ks : List (Str × Shp)} (g : Wr H w ks lA) (h : H a = some (.frz o u)) : a ≠ w := fun e => by
  obtain ⟨_, _, _, _, h2, _⟩ := g
  rw [e, h2] at h; cases h
theorem Wr.ne_lst {lA : Addr} {H : Hp} {w a : Addr} {xs : List V} {ks : List (Str × Shp)} (g : Wr H w ks lA) (h : H a = some (.lst xs)) : a ≠ w := fun e => by
  obtain ⟨_, _, _, _, h2, _⟩ := g
  rw [e, h2] at h; cases h
theorem SF.gb {lA : Addr} {p w a : Addr} {H H' : Hp} {ks ls : List (Str × Shp)} (h : SF H a ls) (b : GB p w H H') (s : Zu H p) (g : Wr H w ks lA) : SF H' a ls := by
  obtain ⟨o, kvs, h1, h2, h3⟩ := h
  exact ⟨o, kvs, b _ _ (YO s h1) (g.ne_frz h1) h1, h2, fun y sh hs => let ⟨v, g1, g2⟩ := h3 y sh hs; ⟨v, g1, Z3 (b.tk s g) _ (Shp.st _) g2⟩⟩
theorem HF.gb {lA : Addr} {p w a : Addr} {H H' : Hp} {ks : List (Str × Shp)} {ns : List Str} (h : HF H a ns) (b : GB p w H H') (s : Zu H p) (g : Wr H w ks lA) : HF H' a ns := by
  obtain ⟨o, kvs, h1, h2, h3⟩ := h
  exact ⟨o, kvs, b _ _ (YO s h1) (g.ne_frz h1) h1, h2, fun kv hk => let ⟨f, ps, k, e1, e2, e3⟩ := h3 kv hk; ⟨f, ps, k, e1, Z3 (b.tk s g) _ (VO _ _) e2, e3⟩⟩
theorem AF.gb {lA : Addr} {p w a : Addr} {H H' : Hp} {ks : List (Str × Shp)} {ns : List Str} {m : Nat} (h : AF H a ns m) (b : GB p w H H') (s : Zu H p) (g : Wr H w ks lA) : AF H' a ns m := by
  obtain ⟨o, kvs, h1, h2⟩ := h
  exact ⟨o, kvs, b _ _ (YO s h1) (g.ne_frz h1) h1, h2⟩
theorem AF.mono {a : Addr} {H H' : Hp} {ns : List Str} {m m' : Nat} (h : AF H a ns m) (e : Same H H') (l : m <= m') : AF H' a ns m' := by
  obtain ⟨o, kvs, h1, h2, h3⟩ := h
  exact ⟨o, kvs, e _ _ h1, Nat.le_trans h2 l, h3⟩
theorem HF.mono {a : Addr} {H H' : Hp} {ns : List Str} (h : HF H a ns) (e : Same H H') : HF H' a ns := by
  obtain ⟨o, kvs, h1, h2, h3⟩ := h
  exact ⟨o, kvs, e _ _ h1, h2, fun kv hk => let ⟨f, ps, k, e1, e2, e3⟩ := h3 kv hk; ⟨f, ps, k, e1, e2.mono e, e3⟩⟩
theorem Wr.mono {lA : Addr} {w : Addr} {H H' : Hp} {ks : List (Str × Shp)} (g : Wr H w ks lA) (e : Same H H') : Wr H' w ks lA := by
  obtain ⟨sA, hA, ls, n, h1, h2, h3, h4, h5⟩ := g
  exact ⟨sA, hA, ls, n, e _ _ h1, h2.mono e, h3.mono e, e _ _ h4, h5⟩
theorem Wr.sb {lA : Addr} {p w : Addr} {H H' : Hp} {ks : List (Str × Shp)} (g : Wr H w ks lA) (b : SameB p H H') (s : Zu H p) : Wr H' w ks lA := by
  have gb : GB p w H H' := b.gb
  obtain ⟨sA, hA, ls, n, h1, h2, h3, h4, h5⟩ := id g
  exact ⟨sA, hA, ls, n, b _ _ (g.ne s) h1, h2.gb gb s g, h3.gb gb s g, b _ _ (Z9 s h4) h4, h5⟩
def LN (H : Hp) (l l' : Addr) : Prop := l' = l ∨ H l' = none
theorem GB.free {p w r : Addr} {H H' : Hp} (a : GB p w H H') (n1 : r ≠ p) (n2 : r ≠ w) (h : H' r = none) : H r = none := by
  cases e : H r with
  | none => rfl
  | some o => rw [a r o n1 n2 e] at h; cases h
theorem Wr.la {H : Hp} {w lA : Addr} {ks : List (Str × Shp)} (g : Wr H w ks lA) : ∃ ls : List Str, H lA = some (.lst (ls.map V.str)) := let ⟨_, _, ls, _, _, _, _, h, _⟩ := g; ⟨ls, h⟩
theorem LN.trans {p w l l1 l2 : Addr} {H H1 H2 : Hp} {ks : List (Str × Shp)} (a : LN H l l1) (b : LN H1 l1 l2) (g : GB p w H H1) (s : Zu H2 p) (r : Wr H2 w ks l2) : LN H l l2 := by
  rcases b with b | b
  · rw [b]; exact a
  · obtain ⟨ls, h⟩ := r.la
    exact .inr (g.free (Z9 s h) (r.ne_lst h) b)
theorem brs_sts : ∀ {bs : List Bd} {ts : List Str}, Dat.sts (Bd.dats bs) = true -> Dat.sts (Bd.brs bs ts) = true
  | [], _, _ => by unfold Bd.brs Dat.sts; rfl
  | b :: bs, [], _ => by unfold Bd.brs Dat.sts; rfl
  | b :: bs, t :: ts, h => by
    unfold Bd.dats Dat.sts at h
    rw [Bool.and_eq_true] at h
    unfold Bd.brs Dat.sts
    rw [brs_sts h.2]
    simp [Dat.st, Dat.sts, h.1]
mutual
theorem Bd.st : ∀ b : Bd, b.dat.st = true
  | .tag t => by simp [Bd.dat, Dat.st, Dat.sts]
  | .name t => by simp [Bd.dat, Dat.st, Dat.sts]
  | .pair a b => by simp [Bd.dat, Dat.st, Dat.sts, Bd.st a, Bd.st b]
  | .one a => by simp [Bd.dat, Dat.st, Dat.sts, Bd.st a]
  | .other a => by simp [Bd.dat, Dat.st, Dat.sts, Bd.st a]
  | .choose e ts bs => by simp [Bd.dat, Dat.st, Dat.sts, Bd.st e, brs_sts (Bd.sts bs)]
  | .ask f as => by simp [Bd.dat, Dat.st, Dat.sts, Bd.sts as]
  | .letb x k e b => by simp [Bd.dat, Dat.st, Dat.sts, Bd.st e, Bd.st b]
theorem Bd.sts : ∀ bs : List Bd, Dat.sts (Bd.dats bs) = true
  | [] => by unfold Bd.dats Dat.sts; rfl
  | b :: bs => by unfold Bd.dats Dat.sts; rw [Bd.st b, Bd.sts bs]; rfl
end
theorem V2 {kvs : List (Key × V)} {k : Key} {v : V} (h : YE kvs k = some v) : ∃ kv ∈ kvs, kv.1 = k /\ kv.2 = v := by
  unfold YE at h
  cases e : kvs.find? (fun kv => decide (kv.1 = k)) with
  | none => rw [e] at h; cases h
  | some kv =>
    rw [e] at h
    exact ⟨kv, List.mem_of_find?_eq_some e, by simpa using List.find?_some e, Option.some.inj h⟩
theorem mem_valV {kvs : List (Key × V)} {kv : Key × V} (h : kv ∈ kvs) : ∃ v, YE kvs kv.1 = some v := by
  unfold YE
  cases e : kvs.find? (fun q => decide (q.1 = kv.1)) with
  | none => exact absurd (List.find?_eq_none.mp e kv h) (by simp)
  | some q => exact ⟨q.2, rfl⟩
theorem strs_hasD {H : Hp} : ∀ ns : List Str, HasL H (ns.map V.str) (ns.map Dat.str)
  | [] => HasL.nil
  | n :: ns => HasL.cons Zk (strs_hasD ns)
theorem lstE {H : Hp} {a : Addr} {ns : List Str} (h : H a = some (.lst (ns.map V.str))) : Has H (.ref a) (.lst (ns.map Dat.str)) := YG h (strs_hasD ns)
theorem strs_dep (ns : List Str) : (Dat.lst (ns.map Dat.str)).dep <= 1 := by
  have : ∀ ns : List Str, Dat.deps (ns.map Dat.str) = 0 := by
    intro ns
    induction ns with
    | nil => unfold List.map Dat.deps; rfl
    | cons n ns ih => rw [List.map_cons]; unfold Dat.deps; rw [ih]; unfold Dat.dep; rfl
  unfold Dat.dep; rw [this]; decide
theorem pq_nil (ds : List Dat) : (Dat.lst ds).pq (.lst []) = ds.isEmpty := by
  unfold Dat.pq
  cases ds with
  | nil => unfold Dat.pqs; rfl
  | cons d ds => unfold Dat.pqs; rfl
def GQ (p w : Addr) (ks : List (Str × Shp)) (lA : Addr) (H : Hp) (Q : VK) (m : Nat) : Prop := ∀ (u : V) (H' : Hp) (b : Bd) (l' : Addr), GB p w H H' -> Zu H' p -> Wr H' w ks l' -> LN H lA l' -> Has H' u b.dat -> b.ok -> b.dep <= m -> Q u H'
theorem Jm {H : Hp} {r : Addr} {a b : Str} (h : H r = some (.tup [.str a, .str b])) : Has H (.ref r) (.tup [.str a, .str b]) := ZZ h (HasL.cons Zk (HasL.cons Zk HasL.nil))
theorem VS {xs : List V} {r : Int} (r0 : 0 <= r) (r1 : r < (xs.length : Nat)) : ∃ (m : Nat) (v : V), xs[m]? = some v /\ atI xs r = some v := by
  obtain ⟨m, rfl⟩ : ∃ m : Nat, r = m := ⟨r.toNat, by omega⟩
  have hm : m < xs.length := by omega
  exact ⟨m, xs[m], List.getElem?_eq_getElem hm, ZQ (List.getElem?_eq_getElem hm)⟩
theorem Vo {ys : List Str} {m : Nat} {v : V} (h : (ys.map V.str)[m]? = some v) : ∃ y, y ∈ ys /\ v = .str y := by
  rw [List.getElem?_map] at h
  cases e : ys[m]? with
  | none => rw [e] at h; cases h
  | some y => rw [e] at h; exact ⟨y, List.mem_of_getElem? e, (Option.some.inj h).symm⟩
theorem Zu.sm {H H' : Hp} {p : Addr} (s : Zu H p) (e : Same H H') : Zu H' p := let ⟨a, b, c, d, h⟩ := s; ⟨a, b, c, d, e _ _ h⟩
theorem wr1 {a b c d : V} : YE [((Sum.inr "shapes" : Key), a), (Sum.inr "heads", b), (Sum.inr "lets", c), (Sum.inr "left", d)] (Sum.inr "shapes") = some a := rfl
theorem wr2 {a b c d : V} : YE [((Sum.inr "shapes" : Key), a), (Sum.inr "heads", b), (Sum.inr "lets", c), (Sum.inr "left", d)] (Sum.inr "heads") = some b := rfl
theorem wr3 {a b c d : V} : YE [((Sum.inr "shapes" : Key), a), (Sum.inr "heads", b), (Sum.inr "lets", c), (Sum.inr "left", d)] (Sum.inr "lets") = some c := rfl
theorem wr4 {a b c d : V} : YE [((Sum.inr "shapes" : Key), a), (Sum.inr "heads", b), (Sum.inr "lets", c), (Sum.inr "left", d)] (Sum.inr "left") = some d := rfl
theorem Wr.shapes {H : Hp} {w sA hA lA : Addr} {n : Int} (h : H w = some (wrD sA hA lA n)) : YY H w (.str "shapes") (some (.ref sA)) := .inl ⟨_, Sum.inr "shapes", .inl h, rfl, wr1.symm⟩
theorem Wr.heads {H : Hp} {w sA hA lA : Addr} {n : Int} (h : H w = some (wrD sA hA lA n)) : YY H w (.str "heads") (some (.ref hA)) := .inl ⟨_, Sum.inr "heads", .inl h, rfl, wr2.symm⟩
theorem Wr.lets {H : Hp} {w sA hA lA : Addr} {n : Int} (h : H w = some (wrD sA hA lA n)) : YY H w (.str "lets") (some (.ref lA)) := .inl ⟨_, Sum.inr "lets", .inl h, rfl, wr3.symm⟩
theorem Wr.left {H : Hp} {w sA hA lA : Addr} {n : Int} (h : H w = some (wrD sA hA lA n)) : YY H w (.str "left") (some (.int n)) := .inl ⟨_, Sum.inr "left", .inl h, rfl, wr4.symm⟩
end L2
namespace K4
open PySem L2
section
variable {P : Program} {w : World} {K : PySem.W.Frag} {mg : Str -> Option Value} {base : Heap} {f : Addr} {fd : FuncData}
def Df (P : Program) (w : World) (K : PySem.W.Frag) (mg : Str -> Option Value) (base : Heap) (n : Nat) (x : Str) (ps : List Str) (sp : Sp) : Prop :=
  ∃ (g : Addr) (gd : FuncData), mg x = some (.ref g) /\ PySem.W.keepIn K (.ref g) = true /\ Binds K gd ps [] /\ FnOk P w K mg base CX0 n g gd ps sp
theorem Df.up {n m : Nat} {x : Str} {ps : List Str} {sp : Sp} (d : Df P w K mg base n x ps sp) (h : n <= m) : Df P w K mg base m x ps sp :=
  let ⟨g, gd, h1, h2, h3, h4⟩ := d; ⟨g, gd, h1, h2, h3, h4.mono h⟩
theorem Jo : FnScope ["stream", "world", "around", "kind", "names", "shape", "one"] ["stream", "world", "around", "kind"] (ZN VU) := ⟨rfl, rfl, rfl, by decide +kernel, rfl, by decide +kernel, by decide +kernel⟩
theorem nd_nak : List.Nodup [("name" : Str), "around", "kind"] := by decide +kernel
def YZ (n : Nat) : Sp := fun vs H Q _ => ∃ (p w a lA : Addr) (y : Str) (ks : List (Str × Shp)) (c d : Str -> Nat), vs = [.ref p, .ref w, .ref a, .str y] /\ Zu H p /\ Wr H w ks lA /\ AF H a (ks.map (·.1)) 100 /\ KK 30 c d ks /\ y ∈ ks.map (·.1) /\ d y < n /\ GQ p w ks lA H Q (d y)
theorem ok_plain {n L : Nat} (B : Blt mg) (F : Fun K "_law_plain" "_law_plain" VU f fd) (DT : Df P w K mg base (L + 3 + n) "_law_take" ["stream", "many"] YK) (G : FnOk P w K mg base CX0 (L + 3 + n) f fd ["stream", "world", "around", "kind"] (YZ n)) (bG : Binds K fd ["stream", "world", "around", "kind"] []) (mG : mg "_law_plain" = some (.ref f)) :
    FnOk P w K mg base CX0 (L + 3 + n + 1) f fd ["stream", "world", "around", "kind"] (YZ (n + 1)) := by
  obtain ⟨gt, td', mT, kT, bT, GT⟩ := DT
  refine F.ok Jo (fun vs H Q E h => ?_) (fun cdv A outer s H vs Q E hr h => ?_)
  · obtain ⟨p, w, a, lA, y, ks, c, d, rfl, _⟩ := h
    rfl
  obtain ⟨p, wA, a, lA, y, ks, c, d, rfl, hs, hw, ha, kk, hy, hd, q⟩ := h
  have hu := Vb hr
  have hr2 := hr.mono (show 2 <= L + 3 + n by omega)
  refine ⟨_, ZG (Jp (i0 := 4) ["name"] [2, 3] Jo.nd rfl (Or.inl rfl) (VY (pv 2)) (YR (i := 0) (by decide)) (fun cl C fp s H => Za (i := 0) nd_nak rfl (Or.inl rfl) (Or.inr rfl))
      (fun cl C fp s H => ZY YA (Zg hu (pv 1) (pv 0) (fun _ _ => rfl)) (pv 2) (Zd _)) (fun cl C fp s H => pv 0))
    (ZG (Zt (PW.pt (Vu (ZY (op_neD hr2) (pv 4) (YF ZF) (Zd _)) (VM (ZY JZ (ZK GT hr rfl mT kT bT .nil ZU (ZA (pv 0) (ZA ZH ZF))) ZH (Zd _)))))
      (ZL (ZW (Zn (ZA ZX (ZA (ZV Zj (pv 4) (ZK GT hr rfl mT kT bT .nil ZU (ZA (pv 0) (ZA (Zi Zf rfl B.len PySem.boot_len (ZA (pv 4) ZF)) ZF))) (fun _ _ => rfl)) ZF))))) Zb)
    (ZG (ZT (i := 5) Jo.nd rfl (Or.inl rfl) (Zg hu (Zg hu (pv 1) ZX (fun _ _ => rfl)) (pv 3) (fun _ _ => rfl)))
    (ZG (Zt (ZY YA (ZV Ze (pv 5) ZH (fun _ _ => rfl)) ZX (Zd _))
      (ZL (ZW (Zn (ZA ZX (ZA (ZV Ze (ZV Ze (pv 5) ZH (fun _ _ => rfl)) (ZK GT hr rfl mT kT bT .nil ZU (ZA (pv 0) (ZA (Zi Zf rfl B.len PySem.boot_len (ZA (ZV Ze (pv 5) ZH (fun _ _ => rfl)) ZF)) ZF))) (fun _ _ => rfl)) ZF))))) Zb)
    (ZG (ZT (i := 6) Jo.nd rfl (Or.inl rfl) (ZK G hr rfl mG F.kp bG .nil ZU (ZA (pv 0) (ZA (pv 1) (ZA (pv 2) (ZA (ZV Ze (pv 5) ZH (fun _ _ => rfl)) ZF))))))
    (ZL (ZW (Zn (ZA ZX (ZA (pv 6) (ZA (ZK G hr rfl mG F.kp bG .nil ZU (ZA (pv 0) (ZA (pv 1) (ZA (pv 2) (ZA (ZV Ze (pv 5) ZH (fun _ _ => rfl)) ZF))))) ZF)))))))))), ?_⟩
  dsimp only [Y9, Cx.nox, Cx.wish]
  obtain ⟨o, kvs, ha1, ha2, ha3⟩ := id ha
  refine ⟨_, rfl, a, o, kvs, rfl, ha1, ?_⟩
  refine Y3 kvs.length (ZP (by omega)) (fun i vs H' => H' = H /\ vs.length <= i /\ ∃ ns : List Str, vs = ns.map V.str) ⟨rfl, Nat.le_refl _, [], rfl⟩ (fun i vs H' z => z.2.1) ?_ ?_ ?_ ?_
  · rintro i vs H' hi ⟨rfl, _⟩
    exact ⟨ha1, hi⟩
  · rintro vs H' ⟨rfl, _⟩
    exact ⟨ha1, rfl⟩
  · rintro i vs H' x H'' R hi ⟨rfl, z2, ns, rfl⟩ yl rT rF
    obtain ⟨rfl, kv, hkv, rfl⟩ := yl
    have hm := List.mem_of_getElem? hkv
    obtain ⟨x, k, rfl, hk⟩ := ha3 kv hm
    obtain ⟨v, hv⟩ := mem_valV hm
    obtain ⟨kv2, m2, e2, e3⟩ := V2 hv
    obtain ⟨x2, k2, rfl, hk2⟩ := ha3 kv2 m2
    subst e3
    refine ⟨_, rfl, _, rfl, a, _, rfl, .inl ⟨kvs, Sum.inr x, .inr ⟨o, ha1⟩, rfl, hv.symm⟩, _, rfl, rfl, _, rfl, ?_⟩
    refine YI (fun c1 => ⟨_, rfl, rT _ _ ⟨rfl, by simp at z2 ⊢; omega, ns ++ [x], by rw [List.map_append]; rfl⟩⟩) (fun c1 => rF _ ⟨rfl, by omega, ns, rfl⟩)
  rintro vs H' r1 ⟨rfl, z2, ns, rfl⟩ hr1
  have s1 := ZE hr1 (.lst (ns.map V.str))
  have g1 : upd H' r1 (.lst (ns.map V.str)) r1 = some (.lst (ns.map V.str)) := ZD
  generalize upd H' r1 (.lst (ns.map V.str)) = H1 at s1 g1 ⊢
  dsimp only [Y2]
  refine VB (fun σ' H2 => GB p wA H' H2 /\ Zu H2 p /\ Wr H2 wA ks lA /\ AF H2 a (ks.map (·.1)) 100 /\ σ' = [some (.ref p), some (.ref wA), some (.ref a), some (.str y), some (.ref r1), none, none]) ?_ ?_
  · rintro σ' H2 ⟨gb, st, wr, af, rfl⟩
    obtain ⟨sA, hA, ls, nn, hW, hS, _⟩ := id wr
    obtain ⟨sh, hsh⟩ := V6 hy
    have k1 := kk.at hsh
    obtain ⟨o2, kvs2, h1, h2, h3⟩ := hS
    obtain ⟨v, hv, hvd⟩ := h3 y sh hsh
    refine ⟨_, rfl, wA, _, rfl, Wr.shapes hW, _, rfl, sA, v, rfl, .inl ⟨kvs2, Sum.inr y, .inr ⟨o2, h1⟩, rfl, hv.symm⟩, ?_⟩
    cases sh with
    | tags ts =>
      obtain ⟨t1, t2, t3, t4, t5⟩ := k1
      obtain ⟨ps, l, rfl, hp, hl⟩ := Vc hvd
      have ll : (ts.map V.str).length = ts.length := List.length_map _
      refine ⟨_, rfl, ps, _, 0, _, rfl, rfl, SqT.of hp, rfl, rfl, _, rfl, YQ (by decide +kernel) ?_⟩
      refine ⟨_, rfl, ps, _, 1, _, rfl, rfl, SqT.of hp, rfl, _, rfl, _, rfl, ps, _, 1, _, rfl, rfl, SqT.of hp, rfl, l, _, rfl, .inr (SqT.of hl), p, _, rfl, st, by omega, by omega, fun r H3 r0 r1' b3 s3 => ?_⟩
      obtain ⟨m, v, hv1, hv2⟩ := VS r0 r1'
      obtain ⟨z, hz, rfl⟩ := Vo hv1
      have gb3 : GB p wA H2 H3 := b3.sb.gb
      refine ⟨l, _, r, _, rfl, rfl, SqT.of (gb3.tk st wr _ _ hl), hv2, by show 2 <= sizeLine; decide, fun t ht => ?_⟩
      have s4 := ZE ht (.tup [.str "tag", .str z])
      exact q _ _ (.tag z) lA ((gb.trans gb3).trans s4.gb) (s3.sm s4) ((wr.sb b3.sb st).mono s4) (.inl rfl) (by unfold Bd.dat; exact Jm ZD) (by unfold Bd.ok; trivial) (by unfold Bd.dep; exact Nat.zero_le _)
    | pair e g =>
      obtain ⟨t1, t2, t3, t4, t5, t6⟩ := k1
      obtain ⟨ps, rfl, hp⟩ := VP hvd
      refine ⟨_, rfl, ps, _, 0, _, rfl, rfl, SqT.of hp, rfl, rfl, _, rfl, Zo (by decide +kernel) ?_⟩
      refine ⟨_, rfl, _, rfl, _, rfl, _, rfl, ps, _, 1, _, rfl, rfl, SqT.of hp, rfl, p, wA, a, lA, e, ks, c, d, rfl, st, wr, af, kk, t1, by omega, fun u1 H3 b1 l1 gb1 st1 wr1 ln1 hu1 ok1 dp1 => ?_⟩
      refine ⟨_, rfl, _, rfl, _, rfl, _, rfl, _, rfl, ps, _, 2, _, rfl, rfl, SqT.of (gb1.tk st wr _ _ hp), rfl, p, wA, a, l1, g, ks, c, d, rfl, st1, wr1, af.gb gb1 st wr, kk, t2, by omega, fun u2 H4 b2 l2 gb2 st2 wr2 ln2 hu2 ok2 dp2 => ?_⟩
      refine ⟨by show 3 <= sizeLine; decide, fun t ht => ?_⟩
      have s5 := ZE ht (.tup [.str "pair", u1, u2])
      refine q _ _ (.pair b1 b2) l2 (((gb.trans gb1).trans gb2).trans s5.gb) (st2.sm s5) (wr2.mono s5) (LN.trans (.inl rfl) (ln1.trans ln2 gb1 st2 wr2) gb st2 wr2) ?_ (by unfold Bd.ok; exact ⟨ok1, ok2⟩) (by unfold Bd.dep; omega)
      unfold Bd.dat
      exact ZZ ZD (HasL.cons Zk (HasL.cons ((Z3 (gb2.tk st1 wr1) _ (Bd.st _) hu1).mono s5) (HasL.one (hu2.mono s5))))
  · intro N key
    refine ⟨_, rfl, by show 0 <= sizeLine; decide, fun e1 he1 => ?_⟩
    have s2 := ZE he1 (.lst [])
    have g2 := s2 _ _ g1
    have ge : upd H1 e1 (.lst []) e1 = some (.lst []) := ZD
    generalize upd H1 e1 (.lst []) = H2 at s2 g2 ge ⊢
    have s02 := s1.trans s2
    refine ⟨.lst (ns.map Dat.str), .lst [], lstE g2, YG ge HasL.nil, strs_dep _, _, rfl, ?_⟩
    rw [pq_nil]
    cases ns with
    | nil => exact Zo (by simp) (Zo (by simp) (key _ _ ⟨s02.gb, hs.sm s02, hw.mono s02, ha.mono s02 (Nat.le_refl _), rfl⟩))
    | cons n1 ns =>
      have ll : ((n1 :: ns).map V.str).length = ns.length + 1 := by simp
      have lk : ns.length + 1 <= 100 := by rw [ll] at z2; omega
      refine YQ (by simp) ?_
      refine ⟨_, rfl, p, 3, rfl, hs.sm s02, by decide, by decide, fun r H3 r0 r1' b3 s3 => ?_⟩
      have st2 := hs.sm s02
      have wr2 := hw.mono s02
      have gb3 : GB p wA H2 H3 := b3.sb.gb
      refine ⟨_, _, rfl, rfl, _, rfl, ?_⟩
      have g3 := b3.sb _ _ (Z9 st2 g2) g2
      refine YI (fun c1 => ?_) (fun c1 => key _ _ ⟨s02.gb.trans gb3, s3, wr2.sb b3.sb st2, (ha.mono s02 (Nat.le_refl _)).gb gb3 st2 wr2, rfl⟩)
      refine ⟨_, rfl, _, rfl, _, rfl, r1, _, rfl, .inl (SqL.of g3), p, _, rfl, s3, by omega, by omega, fun r' H4 r4 r5 b4 s4 => ?_⟩
      obtain ⟨m, v, hv1, hv2⟩ := VS r4 r5
      obtain ⟨z, hz, rfl⟩ := Vo hv1
      have wr3' := wr2.sb b3.sb st2
      refine ⟨r1, _, r', _, rfl, rfl, SqL.of (b4.sb _ _ (Z9 s3 g3) g3), hv2, by show 2 <= sizeLine; decide, fun t ht => ?_⟩
      have s5 := ZE ht (.tup [.str "name", .str z])
      exact q _ _ (.name z) lA (((s02.gb.trans gb3).trans b4.sb.gb).trans s5.gb) (s4.sm s5) ((wr3'.sb b4.sb s3).mono s5) (.inl rfl) (by unfold Bd.dat; exact Jm ZD) (by unfold Bd.ok; trivial) (by unfold Bd.dep; exact Nat.zero_le _)
end
end K4
namespace L2
open PySem
theorem GQ.le {p w lA : Addr} {ks : List (Str × Shp)} {H : Hp} {Q : VK} {m m' : Nat} (q : GQ p w ks lA H Q m) (h : m' <= m) : GQ p w ks lA H Q m' := fun u H' b l h1 h2 h3 h4 h5 h6 h7 => q u H' b l h1 h2 h3 h4 h5 h6 (Nat.le_trans h7 h)
theorem GQ.go {p w lA l1 : Addr} {ks : List (Str × Shp)} {H H1 : Hp} {Q : VK} {m : Nat} (q : GQ p w ks lA H Q m) (g : GB p w H H1) (ln : LN H lA l1) : GQ p w ks l1 H1 Q m := fun u H' b l h1 h2 h3 h4 h5 h6 h7 => q u H' b l (g.trans h1) h2 h3 (ln.trans h4 g h2 h3) h5 h6 h7
theorem brs_snoc : ∀ {bs : List Bd} {ts : List Str} {b : Bd} {t : Str}, bs.length = ts.length -> Bd.brs (bs ++ [b]) (ts ++ [t]) = Bd.brs bs ts ++ [.tup [.str t, b.dat]]
  | [], [], b, t, _ => by simp [Bd.brs]
  | [], _ :: _, _, _, h => by simp at h
  | _ :: _, [], _, _, h => by simp at h
  | c :: bs, s :: ts, b, t, h => by
    have ih := brs_snoc (bs := bs) (ts := ts) (b := b) (t := t) (by simpa using h)
    simp only [List.cons_append, Bd.brs, ih]
theorem oks_snoc : ∀ {bs : List Bd} {b : Bd}, Bd.oks bs -> b.ok -> Bd.oks (bs ++ [b])
  | [], b, _, h => by simp [Bd.oks, h]
  | c :: bs, b, h, hb => by
    unfold Bd.oks at h
    simp only [List.cons_append, Bd.oks]
    exact ⟨h.1, oks_snoc h.2 hb⟩
theorem JP : ∀ {bs : List Bd} {b : Bd} {m : Nat}, Bd.deps bs <= m -> b.dep <= m -> Bd.deps (bs ++ [b]) <= m
  | [], b, m, _, h => by simp [Bd.deps, h]
  | c :: bs, b, m, h, hb => by
    unfold Bd.deps at h
    simp only [List.cons_append, Bd.deps]
    have := JP (bs := bs) (b := b) (m := m) (by omega) hb
    omega
theorem dats_snoc : ∀ {bs : List Bd} {b : Bd}, Bd.dats (bs ++ [b]) = Bd.dats bs ++ [b.dat]
  | [], b => by simp [Bd.dats]
  | c :: bs, b => by simp only [List.cons_append, Bd.dats, dats_snoc (bs := bs)]
theorem Wr.put {H : Hp} {w lA bl : Addr} {ks : List (Str × Shp)} {xs ys : List V} (g : Wr H w ks lA) (n1 : lA ≠ bl) (n2 : w ≠ bl) (h : H bl = some (.lst xs)) : Wr (upd H bl (.lst ys)) w ks lA := by
  obtain ⟨sA, hA, ls, n, h1, h2, h3, h4, h5⟩ := g
  have tk : TK H (upd H bl (.lst ys)) := fun b zs e => by rw [ZJ (fun z => by rw [z, h] at e; cases e)]; exact e
  obtain ⟨o, kvs, a1, a2, a3⟩ := h2
  obtain ⟨o', kvs', c1, c2, c3⟩ := h3
  refine ⟨sA, hA, ls, n, by rw [ZJ n2]; exact h1, ⟨o, kvs, ?_, a2, fun y s e => let ⟨v, e1, e2⟩ := a3 y s e; ⟨v, e1, Z3 tk _ (Shp.st _) e2⟩⟩, ⟨o', kvs', ?_, c2, fun kv hk => let ⟨f, ps, k, e1, e2, e3⟩ := c3 kv hk; ⟨f, ps, k, e1, Z3 tk _ (VO _ _) e2, e3⟩⟩, by rw [ZJ n1]; exact h4, h5⟩
  · rw [ZJ (fun z => by rw [z, h] at a1; cases a1)]; exact a1
  · rw [ZJ (fun z => by rw [z, h] at c1; cases c1)]; exact c1
theorem AF.put {H : Hp} {a bl : Addr} {ns : List Str} {m : Nat} {xs ys : List V} (g : AF H a ns m) (h : H bl = some (.lst xs)) : AF (upd H bl (.lst ys)) a ns m := by
  obtain ⟨o, kvs, a1, a2⟩ := g
  exact ⟨o, kvs, by rw [ZJ (fun z => by rw [z, h] at a1; cases a1)]; exact a1, a2⟩
end L2
namespace K4
open PySem L2
section
variable {P : Program} {w : World} {K : PySem.W.Frag} {mg : Str -> Option Value} {base : Heap} {f : Addr} {fd : FuncData}
def spG (n : Nat) : Sp := fun vs H Q _ => ∃ (p w a lA : Addr) (y : Str) (ks : List (Str × Shp)) (c d : Str -> Nat) (m : Nat), vs = [.ref p, .ref w, .ref a, .str y, .int (n : Nat)] /\ Zu H p /\ Wr H w ks lA /\ AF H a (ks.map (·.1)) m /\ m + n <= 12 /\ KK 30 c d ks /\ ks.length <= 6 /\ y ∈ ks.map (·.1) /\ GQ p w ks lA H Q (n + 2)
abbrev gps : List Str := ["stream", "world", "around", "kind", "deep"]
theorem scSome : FnScope ["stream", "world", "around", "kind", "deep"] ["stream", "world", "around", "kind", "deep"] (ZN sSome) := ⟨rfl, rfl, rfl, by decide +kernel, rfl, by decide +kernel, by decide +kernel⟩
theorem ok_some {n L : Nat} (F : Fun K "_law_some" "_law_some" sSome f fd) (DT : Df P w K mg base L "_law_take" ["stream", "many"] YK) (DP : Df P w K mg base L "_law_plain" ["stream", "world", "around", "kind"] (YZ 3)) (DB : Df P w K mg base L "_law_body" gps (spG n)) :
    FnOk P w K mg base CX0 (L + 1) f fd gps (spG n) := by
  obtain ⟨gt, td', mT, kT, bT, GT⟩ := DT
  obtain ⟨gp, pd', mP, kP, bP, GP⟩ := DP
  obtain ⟨gb, bd', mB, kB, bB, GB'⟩ := DB
  refine F.ok scSome (fun vs H Q E h => ?_) (fun cdv A outer s H vs Q E hr h => ?_)
  · obtain ⟨p, w, a, lA, y, ks, c, d, m, rfl, _⟩ := h
    rfl
  obtain ⟨p, wA, a, lA, y, ks, c, d, m, rfl, hs, hw, ha, hm, kk, k6, hy, q⟩ := h
  refine ⟨_, ZG (Zt (ZY JZ (ZK GT hr rfl mT kT bT .nil ZU (ZA (pv 0) (ZA ZH ZF))) ZH (Zd _))
      (ZL (ZW (ZK GP hr rfl mP kP bP .nil ZU (ZA (pv 0) (ZA (pv 1) (ZA (pv 2) (ZA (pv 3) ZF))))))) Zb)
    (ZL (ZW (ZK GB' hr rfl mB kB bB .nil ZU (ZA (pv 0) (ZA (pv 1) (ZA (pv 2) (ZA (pv 3) (ZA (pv 4) ZF)))))))), ?_⟩
  refine ⟨_, rfl, p, 3, rfl, hs, by decide, by decide, fun r H1 r0 r1 b1 s1 => ?_⟩
  have gb1 : GB p wA H H1 := b1.sb.gb
  have w1 := hw.sb b1.sb hs
  have a1 := ha.gb gb1 hs hw
  have dy := kk.small hy
  refine ⟨_, _, rfl, rfl, _, rfl, ?_⟩
  refine YI (fun c1 => ?_) (fun c1 => ?_)
  · exact ⟨_, rfl, _, rfl, _, rfl, _, rfl, p, wA, a, lA, y, ks, c, d, rfl, s1, w1, a1.mono (Same.refl _) (by omega), kk, hy, by omega, (q.go gb1 (.inl rfl)).le (by omega)⟩
  · exact ⟨_, rfl, _, rfl, _, rfl, _, rfl, _, rfl, p, wA, a, lA, y, ks, c, d, m, rfl, s1, w1, a1, hm, kk, k6, hy, q.go gb1 (.inl rfl)⟩
theorem VD : FnScope ["stream", "world", "around", "kind", "deep", "flat", "own", "first", "branches", "tag"] ["stream", "world", "around", "kind", "deep"] (ZN VL) := ⟨rfl, rfl, rfl, by decide +kernel, rfl, by decide +kernel, by decide +kernel⟩
theorem nd_nw : List.Nodup [("name" : Str), "world"] := by decide +kernel
theorem first_tags {top : Nat} {c d : Str -> Nat} {ks : List (Str × Shp)} (kk : KK top c d ks) (h : 0 < ks.length) : ∃ y ts, ks[0]? = some (y, .tags ts) := by
  cases ks with
  | nil => simp at h
  | cons k ks =>
    obtain ⟨y, s⟩ := k
    have k1 := kk 0 y s rfl
    cases s with
    | tags ts => exact ⟨y, ts, rfl⟩
    | pair a b => exact absurd k1.1 (by simp)
theorem ok_choose {n L : Nat} (B : Blt mg) (F : Fun K "_law_choose" "_law_choose" VL f fd) (DT : Df P w K mg base L "_law_take" ["stream", "many"] YK) (DS : Df P w K mg base L "_law_some" gps (spG n)) (DB : Df P w K mg base L "_law_body" gps (spG n)) :
    FnOk P w K mg base CX0 (L + 1) f fd gps (spG (n + 1)) := by
  obtain ⟨gt, td', mT, kT, bT, GT⟩ := DT
  obtain ⟨gs, sd', mS, kS, bS, GS⟩ := DS
  obtain ⟨gb, bd', mB, kB, bB, GB'⟩ := DB
  refine F.ok VD (fun vs H Q E h => ?_) (fun cdv A outer s H vs Q E hr h => ?_)
  · obtain ⟨p, w, a, lA, y, ks, c, d, m, rfl, _⟩ := h
    rfl
  obtain ⟨p, wA, a, lA, y, ks, c, d, m, rfl, hs, hw, ha, hm, kk, k6, hy, q⟩ := h
  have hu := Vb hr
  refine ⟨_, ZG (Jp (i0 := 5) ["name"] [1] VD.nd rfl (Or.inl rfl) (VY (Zg hu (pv 1) ZX (fun _ _ => rfl))) (YR (i := 0) (by decide)) (fun cl C fp s H => Za (i := 0) nd_nw rfl (Or.inl rfl) (Or.inr rfl))
      (fun cl C fp s H => ZY YA (ZV (r := rIxT K) Ze (Zg hu (Zg hu (pv 1) ZX (fun _ _ => rfl)) (pv 0) (fun _ _ => rfl)) ZH (fun _ _ => rfl)) ZX (Zd _)) (fun cl C fp s H => pv 0))
    (ZG (ZT (i := 6) VD.nd rfl (Or.inl rfl) (ZV Zj (pv 5) (ZK GT hr rfl mT kT bT .nil ZU (ZA (pv 0) (ZA (Zi Zf rfl B.len PySem.boot_len (ZA (pv 5) ZF)) ZF))) (fun _ _ => rfl)))
    (ZG (ZT (i := 7) VD.nd rfl (Or.inl rfl) (ZK GS hr rfl mS kS bS .nil ZU (ZA (pv 0) (ZA (pv 1) (ZA (pv 2) (ZA (pv 6) (ZA (Zc Yi (pv 4) ZH) ZF)))))))
    (ZG (ZT (i := 8) VD.nd rfl (Or.inl rfl) (YF ZF))
    (ZG (YS PassesOwn.never rfl (VX (ZV Ze (Zg hu (Zg hu (pv 1) ZX (fun _ _ => rfl)) (pv 6) (fun _ _ => rfl)) ZH (fun _ _ => rfl))) (Za (i := 9) VD.nd rfl (Or.inl rfl))
      (ZL (Yn (VT PySem.F.plainAttrs_list PySem.F.slot_list_append PySem.F.type_list_append YW (pv 8) (ZA (Zn (ZA (pv 9) (ZA (ZK GB' hr rfl mB kB bB .nil ZU (ZA (pv 0) (ZA (pv 1) (ZA (pv 2) (ZA (pv 3) (ZA (Zc Yi (pv 4) ZH) ZF)))))) ZF))) ZF)))))
    (ZL (ZW (Zn (ZA ZX (ZA (pv 7) (ZA (Zs Zq rfl B.tuple Zp (ZA (pv 8) ZF)) ZF)))))))))), ?_⟩
  dsimp only [Y9, Cx.nox, Cx.wish]
  obtain ⟨sA, hA, ls, nn, hW, hS, _⟩ := id hw
  obtain ⟨o, kvs, h1, h2, h3⟩ := id hS
  have kl := key_len h2
  have en : (((n + 1 : Nat) : Int) - 1) = ((n : Nat) : Int) := by omega
  refine ⟨_, rfl, wA, _, rfl, Wr.shapes hW, sA, o, kvs, rfl, h1, ?_⟩
  refine Y3 kvs.length (ZP (by omega)) (fun i vs H' => H' = H /\ vs.length <= i /\ (0 < i -> 0 < vs.length) /\ ∃ ns : List Str, vs = ns.map V.str /\ ∀ z ∈ ns, ∃ ts, Jg ks z = some (.tags ts)) ⟨rfl, Nat.le_refl _, fun z => absurd z (by decide), [], rfl, fun z hz => nomatch hz⟩ (fun i vs H' z => z.2.1) ?_ ?_ ?_ ?_
  · rintro i vs H' hi ⟨rfl, _⟩
    exact ⟨h1, hi⟩
  · rintro vs H' ⟨rfl, _⟩
    exact ⟨h1, rfl⟩
  · rintro i vs H' x H'' R hi ⟨rfl, z2, z3, ns, rfl, z4⟩ yl rT rF
    obtain ⟨rfl, kv, hkv, rfl⟩ := yl
    obtain ⟨x, s, hx, ek⟩ := key_at h2 hkv
    rw [ek]
    have hxm : x ∈ ks.map (·.1) := List.mem_map.mpr ⟨(x, s), List.mem_of_getElem? hx, rfl⟩
    obtain ⟨sh, hsh⟩ := V6 hxm
    obtain ⟨v, hv, hvd⟩ := h3 x sh hsh
    refine ⟨_, rfl, wA, _, rfl, Wr.shapes hW, _, rfl, sA, v, rfl, .inl ⟨kvs, Sum.inr x, .inr ⟨o, h1⟩, rfl, hv.symm⟩, ?_⟩
    cases sh with
    | tags ts =>
      obtain ⟨ps, l, rfl, hp, hl⟩ := Vc hvd
      refine ⟨ps, _, 0, _, rfl, rfl, SqT.of hp, rfl, rfl, _, rfl, YQ (by decide +kernel) ⟨_, rfl, rT _ _ ⟨rfl, by simp at z2 ⊢; omega, fun _ => by simp, ns ++ [x], by rw [List.map_append]; rfl, fun z hz => ?_⟩⟩⟩
      rcases List.mem_append.mp hz with hz | hz
      · exact z4 z hz
      · cases List.mem_singleton.mp hz
        exact ⟨ts, hsh⟩
    | pair e g =>
      obtain ⟨ps, rfl, hp⟩ := VP hvd
      refine ⟨ps, _, 0, _, rfl, rfl, SqT.of hp, rfl, rfl, _, rfl, Zo (by decide +kernel) (rF _ ⟨rfl, by omega, fun _ => ?_, ns, rfl, z4⟩)⟩
      cases i with
      | zero =>
        obtain ⟨y0, ts, h0⟩ := first_tags kk (by omega)
        have hx2 := Option.some.inj (h0.symm.trans hx)
        injection hx2 with e1 e2
        have e0 : Jg ks y0 = some (.tags ts) := by
          cases ks with
          | nil => simp at h0
          | cons k ks =>
            have h0' : k = (y0, Shp.tags ts) := Option.some.inj h0
            subst h0'
            unfold Jg
            rw [List.find?_cons]
            simp
        rw [<- e1, e0] at hsh
        cases hsh
      | succ i => exact z3 (Nat.succ_pos _)
  rintro vs H' r1 ⟨rfl, z2, z3, ns, rfl, z4⟩ hr1
  have ll : (ns.map V.str).length = ns.length := List.length_map _
  have l0 := z3 (by rw [kl]; obtain ⟨k, hk, _⟩ := List.mem_map.mp hy; exact List.length_pos_of_mem hk)
  have s1 := ZE hr1 (.lst (ns.map V.str))
  have g1 : upd H' r1 (.lst (ns.map V.str)) r1 = some (.lst (ns.map V.str)) := ZD
  generalize upd H' r1 (.lst (ns.map V.str)) = H1 at s1 g1 ⊢
  have st1 := hs.sm s1
  have wr1 := hw.mono s1
  have af1 := ha.mono s1 (Nat.le_refl _)
  refine ⟨_, rfl, _, rfl, _, rfl, r1, _, rfl, .inl (SqL.of g1), p, _, rfl, st1, by omega, by omega, fun r H2 r0 r1' b2 s2 => ?_⟩
  obtain ⟨mm, v, hv1, hv2⟩ := VS r0 r1'
  obtain ⟨own, hown, rfl⟩ := Vo hv1
  obtain ⟨ts, hts⟩ := z4 own hown
  have k1 := kk.at hts
  obtain ⟨t1, t2, _⟩ := k1
  have ho : own ∈ ks.map (·.1) := List.mem_map.mpr ⟨_, shOf_mem hts, rfl⟩
  refine ⟨r1, _, r, _, rfl, rfl, SqL.of (b2.sb _ _ (Z9 st1 g1) g1), hv2, ?_⟩
  have gb2 : GB p wA H1 H2 := b2.sb.gb
  have wr2 := wr1.sb b2.sb st1
  have af2 := af1.gb gb2 st1 wr1
  refine ⟨_, rfl, _, rfl, _, rfl, _, rfl, _, rfl, _, _, rfl, rfl, p, wA, a, lA, own, ks, c, d, m, by dsimp only; rw [en]; rfl, s2, wr2, af2, by omega, kk, k6, ho, fun u1 H3 b1 l3 gb3 st3 wr3 ln3 hu3 ok3 dp3 => ?_⟩
  refine ⟨by show 0 <= sizeLine; decide, fun bl hbl => ?_⟩
  have s4 := ZE hbl (.lst [])
  have g4 : upd H3 bl (.lst []) bl = some (.lst []) := ZD
  have nbp := st3.ne hbl
  have nbw : bl ≠ wA := fun e => by
    obtain ⟨_, _, _, _, h, _⟩ := id wr3
    rw [e, h] at hbl; cases hbl
  have nbl : bl ≠ l3 := fun e => by
    obtain ⟨ls, h⟩ := wr3.la
    rw [e, h] at hbl; cases hbl
  have g03 : GB p wA H' H3 := (s1.gb.trans gb2).trans gb3
  have hn : H' bl = none := g03.free nbp nbw hbl
  have ln4 : LN H' lA l3 := LN.trans (.inl rfl) ln3 (s1.gb.trans gb2) st3 wr3
  generalize upd H3 bl (.lst []) = H4 at s4 g4 ⊢
  have st4 := st3.sm s4
  have wr4 := wr3.mono s4
  have gb4 : GB p wA H' H4 := ((s1.gb.trans gb2).trans gb3).trans s4.gb
  have af4 := (af2.gb gb3 s2 wr2).mono s4 (Nat.le_refl _)
  obtain ⟨sA4, hA4, ls4, nn4, hW4, hS4, _⟩ := id wr4
  obtain ⟨o4, kvs4, q1, q2, q3⟩ := id hS4
  obtain ⟨v4, hv4, hvd4⟩ := q3 own _ hts
  obtain ⟨ps, l, rfl, hp, hl⟩ := Vc hvd4
  refine ⟨_, rfl, wA, _, rfl, Wr.shapes hW4, _, rfl, sA4, _, rfl, .inl ⟨kvs4, Sum.inr own, .inr ⟨o4, q1⟩, rfl, hv4.symm⟩, ps, _, 1, _, rfl, rfl, SqT.of hp, rfl, l, rfl, ⟨_, SqT.of hl⟩, ?_⟩
  refine fl_tup (xs := ts.map V.str) (fun i σ Hi => ∃ li, li ≠ bl /\ LN H' lA li /\ GB p wA H' Hi /\ Zu Hi p /\ Wr Hi wA ks li /\ AF Hi a (ks.map (·.1)) m /\ Hi l = some (.tup (ts.map V.str)) /\ Has Hi u1 b1.dat /\ ∃ zs bs, Hi bl = some (.lst zs) /\ zs.length = i /\ HasL Hi zs (Bd.brs bs (ts.take i)) /\ bs.length = i /\ Bd.oks bs /\ Bd.deps bs <= n + 2 /\ ∃ z9,
    σ = [some (.ref p), some (.ref wA), some (.ref a), some (.str y), some (.int ((n + 1 : Nat) : Int)), some (.ref r1), some (.str own), some u1, some (.ref bl), z9]) ⟨l3, Ne.symm nbl, ln4, gb4, st4, wr4, af4, hl, hu3.mono s4, [], [], g4, rfl, by simp [Bd.brs, HasL.nil], rfl, by unfold Bd.oks; trivial, by unfold Bd.deps; exact Nat.zero_le _, _, rfl⟩ (fun i σ Hi _ z => let ⟨_, _, _, _, _, _, _, h, _⟩ := z; SqT.of h) ?_ ?_
  · rintro BB RR i x σ Hi hx ⟨li, nli, lni, gi, si, wi, ai, hli, hui, zs, bs, hbl, lz, hzs, lb, okb, db, z9, rfl⟩
    rw [List.getElem?_map] at hx
    cases ht : ts[i]? with
    | none => rw [ht] at hx; cases hx
    | some tg =>
      rw [ht] at hx
      cases hx
      have it : i < ts.length := (List.getElem?_eq_some_iff.mp ht).1
      refine ⟨_, rfl, .inl ⟨rfl, _, SqL.of hbl⟩, _, rfl, _, rfl, _, rfl, _, rfl, _, rfl, _, rfl, _, _, rfl, rfl, p, wA, a, li, y, ks, c, d, m, by dsimp only; rw [en]; rfl, si, wi, ai, by omega, kk, k6, hy, fun u2 H5 b2 l5 gb5 st5 wr5 ln5 hu5 ok5 dp5 => ?_⟩
      refine ⟨by show 2 <= sizeLine; decide, fun tt htt => ?_⟩
      have s6 := ZE htt (.tup [.str tg, u2])
      have g6 : upd H5 tt (.tup [.str tg, u2]) tt = some (.tup [.str tg, u2]) := ZD
      generalize upd H5 tt (.tup [.str tg, u2]) = H6 at s6 g6 ⊢
      have hb6 := s6 _ _ (gb5 _ _ nbp nbw hbl)
      refine ⟨bl, zs, _, rfl, rfl, hb6, ZP (by omega), ?_⟩
      have tk6 : TK Hi H6 := fun b xs h => s6 _ _ (gb5.tk si wi b xs h)
      have nl5 : l5 ≠ bl := fun e => by
        rcases ln5 with z | z
        · exact nli (z.symm.trans e)
        · rw [e, hbl] at z; cases z
      have gb7 : GB p wA H' (upd H6 bl (.lst (zs ++ [.ref tt]))) := fun b o n1 n2 e => by
        rw [ZJ (ZO e hn)]
        exact ((gi.trans gb5).trans s6.gb) b o n1 n2 e
      have tk7 : TK H6 (upd H6 bl (.lst (zs ++ [.ref tt]))) := fun b xs h => by rw [ZJ (fun e => by rw [e, hb6] at h; cases h)]; exact h
      have wr6 := wr5.mono s6
      have st6 := st5.sm s6
      have wr7 : Wr (upd H6 bl (.lst (zs ++ [.ref tt]))) wA ks l5 := wr6.put nl5 (Ne.symm nbw) hb6
      have af7 : AF (upd H6 bl (.lst (zs ++ [.ref tt]))) a (ks.map (·.1)) m := ((ai.gb gb5 si wi).mono s6 (Nat.le_refl _)).put hb6
      have tk8 : TK Hi (upd H6 bl (.lst (zs ++ [.ref tt]))) := fun b xs h => tk7 _ _ (tk6 _ _ h)
      refine ⟨l5, nl5, lni.trans ln5 gi st5 wr5, gb7, st6.keep (ZJ (Ne.symm nbp)), wr7, af7, tk8 _ _ hli, Z3 tk8 _ (Bd.st _) hui, zs ++ [.ref tt], bs ++ [b2], ZD, by simp [lz], ?_, by simp [lb], oks_snoc okb ok5, JP db dp5, _, rfl⟩
      rw [show ts.take (i + 1) = ts.take i ++ [tg] from take_snoc ht, brs_snoc (by rw [lb, List.length_take]; omega)]
      refine HasL.append (Z5 tk8 _ (brs_sts (Bd.sts bs)) hzs) (HasL.one (ZZ (tk7 _ _ g6) (HasL.cons Zk (HasL.one (Z3 (fun b xs h => tk7 _ _ (s6 _ _ h)) _ (Bd.st _) hu5)))))
  · rintro σ Hi ⟨li, nli, lni, gi, si, wi, ai, hli, hui, zs, bs, hbl, lz, hzs, lb, okb, db, z9, rfl⟩
    rw [List.length_map] at lz lb hzs
    rw [List.take_length] at hzs
    refine ⟨_, rfl, _, rfl, bl, zs, rfl, .inl ⟨SqL.of hbl, fun t2 ht2 => ?_⟩⟩
    have s6 := ZE ht2 (.tup zs)
    have g6 : upd Hi t2 (.tup zs) t2 = some (.tup zs) := ZD
    generalize upd Hi t2 (.tup zs) = H6 at s6 g6 ⊢
    refine ⟨by show 3 <= sizeLine; decide, fun t3 ht3 => ?_⟩
    have s7 := ZE ht3 (.tup [.str "choose", u1, .ref t2])
    refine q _ _ (.choose b1 ts bs) li ((gi.trans s6.gb).trans s7.gb) ((si.sm s6).sm s7) ((wi.mono s6).mono s7) lni ?_ (by unfold Bd.ok; exact ⟨ok3, by omega, by omega, okb⟩) (by unfold Bd.dep; omega)
    unfold Bd.dat
    exact ZZ ZD (HasL.cons Zk (HasL.cons ((hui.mono s6).mono s7) (HasL.one (ZZ (s7 _ _ g6) ((hzs.mono s6).mono s7)))))
end
end K4
namespace L2
open PySem
theorem has_hd {H : Hp} {v : V} {ps : List (Str × Str)} {k : Str} (h : Has H v (hdD ps k)) : ∃ t l xs, v = .ref t /\ H t = some (.tup [.ref l, .str k]) /\ H l = some (.tup xs) /\ HasL H xs (ps.map fun p => .tup [.str p.1, .str p.2]) := by
  unfold hdD at h
  obtain ⟨t, ys, rfl, ht, hl⟩ := Zh h
  obtain ⟨x1, r1, rfl, h1, hlA⟩ := ZM hl
  obtain ⟨x2, r2, rfl, h2, hlB⟩ := ZM hlA
  obtain rfl := YD hlB
  obtain ⟨l, xs, rfl, h3, h4⟩ := Zh h1
  obtain rfl := has_str h2
  exact ⟨t, l, xs, rfl, ht, h3, h4⟩
theorem has_two {H : Hp} {v : V} {a b : Str} (h : Has H v (.tup [.str a, .str b])) : ∃ t, v = .ref t /\ H t = some (.tup [.str a, .str b]) := by
  obtain ⟨t, ys, rfl, ht, hl⟩ := Zh h
  obtain ⟨x1, r1, rfl, h1, hlA⟩ := ZM hl
  obtain ⟨x2, r2, rfl, h2, hlB⟩ := ZM hlA
  obtain rfl := YD hlB
  obtain rfl := has_str h1
  obtain rfl := has_str h2
  exact ⟨t, rfl, ht⟩
end L2
namespace K4
open PySem L2
section
variable {P : Program} {w : World} {K : PySem.W.Frag} {mg : Str -> Option Value} {base : Heap} {f : Addr} {fd : FuncData}
theorem scAsk : FnScope ["stream", "world", "around", "kind", "deep", "some", "f", "given", "name", "own"] ["stream", "world", "around", "kind", "deep"] (ZN sAsk) := ⟨rfl, rfl, rfl, by decide +kernel, rfl, by decide +kernel, by decide +kernel⟩
theorem nd_fwk : List.Nodup [("f" : Str), "world", "kind"] := by decide +kernel
theorem ok_ask {n L : Nat} (B : Blt mg) (F : Fun K "_law_ask" "_law_ask" sAsk f fd) (DT : Df P w K mg base (L + 2) "_law_take" ["stream", "many"] YK) (DP : Df P w K mg base (L + 2) "_law_plain" ["stream", "world", "around", "kind"] (YZ 3)) (DS : Df P w K mg base (L + 2) "_law_some" gps (spG n)) :
    FnOk P w K mg base CX0 (L + 2 + 1) f fd gps (spG (n + 1)) := by
  obtain ⟨gt, td', mT, kT, bT, GT⟩ := DT
  obtain ⟨gp, pd', mP, kP, bP, GP⟩ := DP
  obtain ⟨gs, sd', mS, kS, bS, GS⟩ := DS
  refine F.ok scAsk (fun vs H Q E h => ?_) (fun cdv A outer s H vs Q E hr h => ?_)
  · obtain ⟨p, w, a, lA, y, ks, c, d, m, rfl, _⟩ := h
    rfl
  obtain ⟨p, wA, a, lA, y, ks, c, d, m, rfl, hs, hw, ha, hm, kk, k6, hy, q⟩ := h
  have hu := Vb hr
  have hr2 := hr.mono (show 2 <= L + 2 by omega)
  refine ⟨_, ZG (Jp (i0 := 5) ["f"] [1, 3] scAsk.nd rfl (Or.inl rfl) (VY (Zg hu (pv 1) ZX (fun _ _ => rfl))) (YR (i := 0) (by decide)) (fun cl C fp s H => Za (i := 0) nd_fwk rfl (Or.inl rfl) (Or.inr rfl))
      (fun cl C fp s H => ZY YA (ZV (r := rIxT K) Ze (Zg hu (Zg hu (pv 1) ZX (fun _ _ => rfl)) (pv 0) (fun _ _ => rfl)) ZH (fun _ _ => rfl)) (pv 2) (Zd _)) (fun cl C fp s H => pv 0))
    (ZG (Zt (ZY (op_eqD hr2) (pv 5) (YF ZF) (Zd _)) (ZL (ZW (ZK GP hr rfl mP kP bP .nil ZU (ZA (pv 0) (ZA (pv 1) (ZA (pv 2) (ZA (pv 3) ZF))))))) Zb)
    (ZG (ZT (i := 6) scAsk.nd rfl (Or.inl rfl) (ZV Zj (pv 5) (ZK GT hr rfl mT kT bT .nil ZU (ZA (pv 0) (ZA (Zi Zf rfl B.len PySem.boot_len (ZA (pv 5) ZF)) ZF))) (fun _ _ => rfl)))
    (ZG (ZT (i := 7) scAsk.nd rfl (Or.inl rfl) (YF ZF))
    (ZG (YS PassesOwn.never rfl (VX (ZV Ze (Zg hu (Zg hu (pv 1) ZX (fun _ _ => rfl)) (pv 6) (fun _ _ => rfl)) ZH (fun _ _ => rfl))) (Y0 (n := 2) rfl (Zr (Za (i := 8) scAsk.nd rfl (Or.inl rfl)) (Zr (Za (i := 9) scAsk.nd rfl (Or.inl rfl)) Yc)))
      (ZL (Yn (VT PySem.F.plainAttrs_list PySem.F.slot_list_append PySem.F.type_list_append YW (pv 7) (ZA (ZK GS hr rfl mS kS bS .nil ZU (ZA (pv 0) (ZA (pv 1) (ZA (pv 2) (ZA (pv 9) (ZA (Zc Yi (pv 4) ZH) ZF)))))) ZF)))))
    (ZL (ZW (Zn (ZA ZX (ZA (pv 6) (ZA (Zs Zq rfl B.tuple Zp (ZA (pv 7) ZF)) ZF)))))))))), ?_⟩
  dsimp only [Y9, Cx.nox, Cx.wish]
  obtain ⟨sA, hA, ls, nn, hW, hS, hH, hL, l3⟩ := id hw
  obtain ⟨o, kvs, h1, h2, h3⟩ := id hH
  have en : (((n + 1 : Nat) : Int) - 1) = ((n : Nat) : Int) := by omega
  refine ⟨_, rfl, wA, _, rfl, Wr.heads hW, hA, o, kvs, rfl, h1, ?_⟩
  refine Y3 kvs.length (ZP (by omega)) (fun i vs H' => H' = H /\ vs.length <= i /\ ∃ ns : List Str, vs = ns.map V.str /\ ∀ z ∈ ns, ∃ v, YE kvs (Sum.inr z) = some v) ⟨rfl, Nat.le_refl _, [], rfl, fun z hz => nomatch hz⟩ (fun i vs H' z => z.2.1) ?_ ?_ ?_ ?_
  · rintro i vs H' hi ⟨rfl, _⟩
    exact ⟨h1, hi⟩
  · rintro vs H' ⟨rfl, _⟩
    exact ⟨h1, rfl⟩
  · rintro i vs H' x H'' R hi ⟨rfl, z2, ns, rfl, z4⟩ yl rT rF
    obtain ⟨rfl, kv, hkv, rfl⟩ := yl
    have hkm := List.mem_of_getElem? hkv
    obtain ⟨x, _, _, ek, _⟩ := h3 kv hkm
    obtain ⟨v, hv⟩ := mem_valV hkm
    rw [ek] at hv ⊢
    obtain ⟨kv2, m2, _, e3⟩ := V2 hv
    obtain ⟨_, ps, k, _, hh, _⟩ := h3 kv2 m2
    rw [e3] at hh
    obtain ⟨t, l, xs, rfl, ht, hl, hxs⟩ := has_hd hh
    refine ⟨_, rfl, wA, _, rfl, Wr.heads hW, _, rfl, hA, _, rfl, .inl ⟨kvs, Sum.inr x, .inr ⟨o, h1⟩, rfl, hv.symm⟩, t, _, 1, _, rfl, rfl, SqT.of ht, rfl, _, rfl, rfl, _, rfl, ?_⟩
    refine YI (fun c1 => ⟨_, rfl, rT _ _ ⟨rfl, by simp at z2 ⊢; omega, ns ++ [x], by rw [List.map_append]; rfl, fun z hz => ?_⟩⟩) (fun c1 => rF _ ⟨rfl, by omega, ns, rfl, z4⟩)
    rcases List.mem_append.mp hz with hz | hz
    · exact z4 z hz
    · cases List.mem_singleton.mp hz
      exact ⟨_, hv⟩
  rintro vs H' r1 ⟨rfl, z2, ns, rfl, z4⟩ hr1
  have ll : (ns.map V.str).length = ns.length := List.length_map _
  have s1 := ZE hr1 (.lst (ns.map V.str))
  have g1 : upd H' r1 (.lst (ns.map V.str)) r1 = some (.lst (ns.map V.str)) := ZD
  generalize upd H' r1 (.lst (ns.map V.str)) = H1 at s1 g1 ⊢
  refine ⟨_, rfl, by show 0 <= sizeLine; decide, fun e1 he1 => ?_⟩
  have s2 := ZE he1 (.lst [])
  have g2 := s2 _ _ g1
  have ge : upd H1 e1 (.lst []) e1 = some (.lst []) := ZD
  generalize upd H1 e1 (.lst []) = H2 at s2 g2 ge ⊢
  have s02 := s1.trans s2
  have st2 := hs.sm s02
  have wr2 := hw.mono s02
  have af2 := ha.mono s02 (Nat.le_refl _)
  have dy := kk.small hy
  refine ⟨.lst (ns.map Dat.str), .lst [], lstE g2, YG ge HasL.nil, strs_dep _, _, rfl, ?_⟩
  rw [pq_nil]
  cases ns with
  | nil =>
    refine YQ (by simp) ?_
    exact ⟨_, rfl, _, rfl, _, rfl, _, rfl, p, wA, a, lA, y, ks, c, d, rfl, st2, wr2, af2.mono (Same.refl _) (by omega), kk, hy, by omega, (q.go s02.gb (.inl rfl)).le (by omega)⟩
  | cons n1 ns =>
    have l1 : ((n1 :: ns).map V.str).length = ns.length + 1 := by simp
    rw [l1] at z2
    refine Zo (by simp) ?_
    refine ⟨_, rfl, _, rfl, _, rfl, r1, _, rfl, .inl (SqL.of g2), p, _, rfl, st2, by omega, by omega, fun r H3 r0 r1' b3 s3 => ?_⟩
    obtain ⟨mm, v, hv1, hv2⟩ := VS r0 r1'
    obtain ⟨fn, hfn, rfl⟩ := Vo hv1
    obtain ⟨v, hv⟩ := z4 fn hfn
    obtain ⟨kv2, m2, _, e3⟩ := V2 hv
    obtain ⟨_, ps, k, _, hh, p3, pk, _⟩ := h3 kv2 m2
    rw [e3] at hh
    have gb3 : GB p wA H2 H3 := b3.sb.gb
    have wr3 := wr2.sb b3.sb st2
    have af3 := af2.gb gb3 st2 wr2
    refine ⟨r1, _, r, _, rfl, rfl, SqL.of (b3.sb _ _ (Z9 st2 g2) g2), hv2, ?_⟩
    refine ⟨by show 0 <= sizeLine; decide, fun bl hbl => ?_⟩
    have s4 := ZE hbl (.lst [])
    have g4 : upd H3 bl (.lst []) bl = some (.lst []) := ZD
    have nbp := s3.ne hbl
    have nbw : bl ≠ wA := fun e => by
      obtain ⟨_, _, _, _, h, _⟩ := id wr3
      rw [e, h] at hbl; cases hbl
    have nbl : bl ≠ lA := fun e => by
      obtain ⟨ls, h⟩ := wr3.la
      rw [e, h] at hbl; cases hbl
    have g03 : GB p wA H' H3 := s02.gb.trans gb3
    have hn : H' bl = none := g03.free nbp nbw hbl
    generalize upd H3 bl (.lst []) = H4 at s4 g4 ⊢
    have tk4 : TK H' H4 := fun b xs h => s4 _ _ (g03.tk hs hw _ _ h)
    have hW4 := s4 _ _ (b3.sb _ _ (hw.ne hs) (s02 _ _ hW))
    have h14 := s4 _ _ (b3.sb _ _ (YO hs h1) (s02 _ _ h1))
    obtain ⟨t, l, xs, rfl, ht, hl, hxs⟩ := has_hd (Z3 tk4 _ (VO _ _) hh)
    have lx := hxs.length
    rw [List.length_map] at lx
    refine ⟨_, rfl, wA, _, rfl, Wr.heads hW4, _, rfl, hA, _, rfl, .inl ⟨kvs, Sum.inr fn, .inr ⟨o, h14⟩, rfl, hv.symm⟩, t, _, 0, _, rfl, rfl, SqT.of ht, rfl, l, rfl, ⟨_, SqT.of hl⟩, ?_⟩
    refine fl_tup (xs := xs) (fun i σ Hi => ∃ li, li ≠ bl /\ LN H' lA li /\ GB p wA H' Hi /\ Zu Hi p /\ Wr Hi wA ks li /\ AF Hi a (ks.map (·.1)) m /\ Hi l = some (.tup xs) /\ HasL Hi xs (ps.map fun p => .tup [.str p.1, .str p.2]) /\ ∃ zs bs, Hi bl = some (.lst zs) /\ zs.length = i /\ HasL Hi zs (Bd.dats bs) /\ bs.length = i /\ Bd.oks bs /\ Bd.deps bs <= n + 2 /\ ∃ z8 z9,
      σ = [some (.ref p), some (.ref wA), some (.ref a), some (.str y), some (.int ((n + 1 : Nat) : Int)), some (.ref r1), some (.str fn), some (.ref bl), z8, z9]) ⟨lA, Ne.symm nbl, .inl rfl, g03.trans s4.gb, s3.sm s4, wr3.mono s4, af3.mono s4 (Nat.le_refl _), hl, hxs, [], [], g4, rfl, by simp [Bd.dats, HasL.nil], rfl, by unfold Bd.oks; trivial, by unfold Bd.deps; exact Nat.zero_le _, _, _, rfl⟩ (fun i σ Hi _ z => let ⟨_, _, _, _, _, _, _, h, _⟩ := z; SqT.of h) ?_ ?_
    · rintro BB RR i x σ Hi hx ⟨li, nli, lni, gi, si, wi, ai, hli, hxi, zs, bs, hbl, lz, hzs, lb, okb, db, z8, z9, rfl⟩
      obtain ⟨dd, hd1, hd2⟩ := hxi.get hx
      rw [List.getElem?_map] at hd1
      cases hp : ps[i]? with
      | none => rw [hp] at hd1; cases hd1
      | some pr =>
        rw [hp] at hd1
        cases hd1
        have ip : i < ps.length := (List.getElem?_eq_some_iff.mp hp).1
        obtain ⟨t2, rfl, ht2⟩ := has_two hd2
        have ho := pk pr (List.mem_of_getElem? hp)
        refine ⟨t2, _, rfl, SqT.of ht2, rfl, _, _, rfl, _, _, rfl, rfl, ?_⟩
        refine ⟨_, rfl, .inl ⟨rfl, _, SqL.of hbl⟩, _, rfl, _, rfl, _, rfl, _, rfl, _, rfl, _, _, rfl, rfl, p, wA, a, li, pr.2, ks, c, d, m, by dsimp only; rw [en]; rfl, si, wi, ai, by omega, kk, k6, ho, fun u2 H5 b2 l5 gb5 st5 wr5 ln5 hu5 ok5 dp5 => ?_⟩
        have hb5 := gb5 _ _ nbp nbw hbl
        refine ⟨bl, zs, _, rfl, rfl, hb5, ZP (by omega), ?_⟩
        have nl5 : l5 ≠ bl := fun e => by
          rcases ln5 with z | z
          · exact nli (z.symm.trans e)
          · rw [e, hbl] at z; cases z
        have gb7 : GB p wA H' (upd H5 bl (.lst (zs ++ [u2]))) := fun b o n1 n2 e => by
          rw [ZJ (ZO e hn)]
          exact (gi.trans gb5) b o n1 n2 e
        have tk7 : TK H5 (upd H5 bl (.lst (zs ++ [u2]))) := fun b xs h => by rw [ZJ (fun e => by rw [e, hb5] at h; cases h)]; exact h
        have tk8 : TK Hi (upd H5 bl (.lst (zs ++ [u2]))) := fun b xs h => tk7 _ _ (gb5.tk si wi _ _ h)
        refine ⟨l5, nl5, lni.trans ln5 gi st5 wr5, gb7, st5.keep (ZJ (Ne.symm nbp)), wr5.put nl5 (Ne.symm nbw) hb5, (ai.gb gb5 si wi).put hb5, tk8 _ _ hli, ?_, zs ++ [u2], bs ++ [b2], ZD, by simp [lz], ?_, by simp [lb], oks_snoc okb ok5, JP db dp5, _, _, rfl⟩
        · have := VO ps k
          unfold hdD Dat.st Dat.sts at this
          rw [Bool.and_eq_true] at this
          refine Z5 tk8 _ ?_ hxi
          have t1 := this.1
          unfold Dat.st at t1
          exact t1
        · rw [dats_snoc]
          exact HasL.append (Z5 tk8 _ (Bd.sts bs) hzs) (HasL.one (Z3 tk7 _ (Bd.st _) hu5))
    · rintro σ Hi ⟨li, nli, lni, gi, si, wi, ai, hli, hxi, zs, bs, hbl, lz, hzs, lb, okb, db, z8, z9, rfl⟩
      refine ⟨_, rfl, _, rfl, bl, zs, rfl, .inl ⟨SqL.of hbl, fun t2 ht2 => ?_⟩⟩
      have s6 := ZE ht2 (.tup zs)
      have g6 : upd Hi t2 (.tup zs) t2 = some (.tup zs) := ZD
      generalize upd Hi t2 (.tup zs) = H6 at s6 g6 ⊢
      refine ⟨by show 3 <= sizeLine; decide, fun t3 ht3 => ?_⟩
      have s7 := ZE ht3 (.tup [.str "ask", .str fn, .ref t2])
      refine q _ _ (.ask fn bs) li ((gi.trans s6.gb).trans s7.gb) ((si.sm s6).sm s7) ((wi.mono s6).mono s7) lni ?_ (by unfold Bd.ok; exact ⟨by omega, okb⟩) (by unfold Bd.dep; omega)
      unfold Bd.dat
      exact ZZ ZD (HasL.cons Zk (HasL.cons Zk (HasL.one (ZZ (s7 _ _ g6) ((hzs.mono s6).mono s7)))))
end
end K4
namespace L2
open PySem
theorem Same.putN {H0 H : Hp} {p : Addr} {o : HO} (s : Same H0 H) (h : H0 p = none) : Same H0 (upd H p o) := fun b u e => by
  rw [ZJ (ZO e h)]; exact s b u e
def sgD (q : Str × Str) : Dat := .tup [.str q.1, .str q.2]
theorem sg_sts : ∀ qs : List (Str × Str), Dat.sts (qs.map sgD) = true
  | [] => by unfold List.map Dat.sts; rfl
  | q :: qs => by rw [List.map_cons]; unfold Dat.sts; rw [sg_sts qs]; simp [sgD, Dat.st, Dat.sts]
theorem sg_dep (qs : List (Str × Str)) : (Dat.lst (qs.map sgD)).dep <= 2 := by
  have : ∀ qs : List (Str × Str), Dat.deps (qs.map sgD) <= 1 := by
    intro qs
    induction qs with
    | nil => unfold List.map Dat.deps; exact Nat.zero_le _
    | cons q qs ih =>
      rw [List.map_cons]; unfold Dat.deps
      have e : (sgD q).dep = 1 := by simp [sgD, Dat.dep, Dat.deps]
      omega
  have := this qs
  unfold Dat.dep; omega
def SM (H : Hp) (bl : Addr) (ns : List Str) (k : Nat) (Hi : Hp) : Prop := Same H Hi /\ ∃ (zs : List V) (qs : List (Str × Str)), Hi bl = some (.lst zs) /\ zs.length = qs.length /\ zs.length <= k /\ HasL Hi zs (qs.map sgD) /\ ∀ q ∈ qs, (q.1 = "one" ∨ q.1 = "other") /\ q.2 ∈ ns
theorem SM.app {H Hi : Hp} {bl : Addr} {ns : List Str} {k : Nat} {sg nm : Str} (s : SM H bl ns k Hi) (hn : H bl = none) (h1 : sg = "one" ∨ sg = "other") (h2 : nm ∈ ns) {tt : Addr} (ht : Hi tt = none) {zs : List V} (hz : Hi bl = some (.lst zs)) :
    SM H bl ns (k + 1) (upd (upd Hi tt (.tup [.str sg, .str nm])) bl (.lst (zs ++ [.ref tt]))) := by
  obtain ⟨sm, zs', qs, a1, a2, a3, a4, a5⟩ := s
  rw [hz] at a1
  have a1' := Option.some.inj a1
  injection a1' with e
  subst e
  have s1 := ZE ht (.tup [.str sg, .str nm])
  have g1 : upd Hi tt (.tup [.str sg, .str nm]) tt = some (.tup [.str sg, .str nm]) := ZD
  have hb := s1 _ _ hz
  generalize upd Hi tt (.tup [.str sg, .str nm]) = H6 at s1 g1 hb ⊢
  have tk7 : TK H6 (upd H6 bl (.lst (zs ++ [.ref tt]))) := fun b xs h => by rw [ZJ (fun e => by rw [e, hb] at h; cases h)]; exact h
  refine ⟨(sm.trans s1).putN hn, zs ++ [.ref tt], qs ++ [(sg, nm)], ZD, by simp [a2], by simp; omega, ?_, fun q hq => ?_⟩
  · rw [List.map_append]
    exact HasL.append (Z5 (fun b xs h => tk7 _ _ (s1 _ _ h)) _ (sg_sts qs) a4) (HasL.one (Jm (tk7 _ _ g1)))
  · rcases (List.mem_append.mp hq) with hq | hq
    · exact a5 q hq
    · cases List.mem_singleton.mp hq
      exact ⟨h1, h2⟩
theorem SM.up {H Hi : Hp} {bl : Addr} {ns : List Str} {k k' : Nat} (s : SM H bl ns k Hi) (h : k <= k') : SM H bl ns k' Hi := let ⟨a, zs, qs, b, c, d, e⟩ := s; ⟨a, zs, qs, b, c, Nat.le_trans d h, e⟩
end L2
namespace K4
open PySem L2
section
variable {P : Program} {w : World} {K : PySem.W.Frag} {mg : Str -> Option Value} {base : Heap} {f : Addr} {fd : FuncData}
theorem Vh : FnScope ["stream", "world", "around", "kind", "deep", "some", "name", "shape", "sign", "own"] ["stream", "world", "around", "kind", "deep"] (ZN Vs) := ⟨rfl, rfl, rfl, by decide +kernel, rfl, by decide +kernel, by decide +kernel⟩
theorem ok_partL {n L : Nat} (B : Blt mg) (F : Fun K "_law_part" "_law_part" Vs f fd) (DT : Df P w K mg base (L + 3) "_law_take" ["stream", "many"] YK) (DC : Df P w K mg base (L + 3) "_law_choose" gps (spG (n + 1))) (DB : Df P w K mg base (L + 3) "_law_body" gps (spG n)) :
    FnOk P w K mg base CX0 (L + 3 + 1) f fd gps (spG (n + 1)) := by
  obtain ⟨gt, td', mT, kT, bT, GT⟩ := DT
  obtain ⟨gc, cd', mC, kC, bC, GC⟩ := DC
  obtain ⟨gb, bd', mB, kB, bB, GB'⟩ := DB
  refine F.ok Vh (fun vs H Q E h => ?_) (fun cdv A outer s H vs Q E hr h => ?_)
  · obtain ⟨p, w, a, lA, y, ks, c, d, m, rfl, _⟩ := h
    rfl
  obtain ⟨p, wA, a, lA, y, ks, c, d, m, rfl, hs, hw, ha, hm, kk, k6, hy, q⟩ := h
  have hu := Vb hr
  have hr3 := hr.mono (show 3 <= L + 3 by omega)
  refine ⟨_, ZG (ZT (i := 5) Vh.nd rfl (Or.inl rfl) (YF ZF))
    (ZG (YS PassesOwn.never rfl (VY (Zg hu (pv 1) ZX (fun _ _ => rfl))) (Za (i := 6) Vh.nd rfl (Or.inl rfl))
      (ZG (ZT (i := 7) Vh.nd rfl (Or.inl rfl) (Zg hu (Zg hu (pv 1) ZX (fun _ _ => rfl)) (pv 6) (fun _ _ => rfl)))
      (ZG (Zt (PW.pt (Vu (ZY YA (ZV Ze (pv 7) ZH (fun _ _ => rfl)) ZX (Zd _)) (VM (ZY YA (ZV Ze (pv 7) ZH (fun _ _ => rfl)) (pv 3) (Zd _)))))
        (ZL (Yn (VT PySem.F.plainAttrs_list PySem.F.slot_list_append PySem.F.type_list_append YW (pv 5) (ZA (Zn (ZA ZX (ZA (pv 6) ZF))) ZF)))) Zb)
      (ZL (Zt (PW.pt (Vu (ZY YA (ZV Ze (pv 7) ZH (fun _ _ => rfl)) ZX (Zd _)) (VM (ZY YA (ZV Ze (pv 7) ZH (fun _ _ => rfl)) (pv 3) (Zd _)))))
        (ZL (Yn (VT PySem.F.plainAttrs_list PySem.F.slot_list_append PySem.F.type_list_append YW (pv 5) (ZA (Zn (ZA ZX (ZA (pv 6) ZF))) ZF)))) Zb)))))
    (ZG (Zt (ZY (op_eqD hr3) (pv 5) (YF ZF) (Zd _)) (ZL (ZW (ZK GC hr rfl mC kC bC .nil ZU (ZA (pv 0) (ZA (pv 1) (ZA (pv 2) (ZA (pv 3) (ZA (pv 4) ZF)))))))) Zb)
    (ZG (Y8 (ZV Zj (pv 5) (ZK GT hr rfl mT kT bT .nil ZU (ZA (pv 0) (ZA (Zi Zf rfl B.len PySem.boot_len (ZA (pv 5) ZF)) ZF))) (fun _ _ => rfl)) (Y0 (n := 2) rfl (Zr (Za (i := 8) Vh.nd rfl (Or.inl rfl)) (Zr (Za (i := 9) Vh.nd rfl (Or.inl rfl)) Yc))))
    (ZL (ZW (Zn (ZA (pv 8) (ZA (ZK GB' hr rfl mB kB bB .nil ZU (ZA (pv 0) (ZA (pv 1) (ZA (pv 2) (ZA (pv 9) (ZA (Zc Yi (pv 4) ZH) ZF)))))) ZF)))))))), ?_⟩
  dsimp only [Y9, Cx.nox, Cx.wish]
  have en : (((n + 1 : Nat) : Int) - 1) = ((n : Nat) : Int) := by omega
  refine ⟨by show 0 <= sizeLine; decide, fun bl hbl => ?_⟩
  have s1 := ZE hbl (.lst [])
  have g1 : upd H bl (.lst []) bl = some (.lst []) := ZD
  generalize upd H bl (.lst []) = H1 at s1 g1 ⊢
  obtain ⟨sA, hA, ls, nn, hW, hS, hH, hL, l3⟩ := id hw
  obtain ⟨o, kvs, h1, h2, h3⟩ := id hS
  have kl := key_len h2
  refine ⟨_, rfl, wA, _, rfl, Wr.shapes (s1 _ _ hW), sA, o, kvs, rfl, s1 _ _ h1, ?_⟩
  refine fl_dict (fun i σ Hi => SM H bl (ks.map (·.1)) (2 * i) Hi /\ ∃ z6 z7, σ = [some (.ref p), some (.ref wA), some (.ref a), some (.str y), some (.int ((n + 1 : Nat) : Int)), some (.ref bl), z6, z7, none, none]) ⟨⟨s1, [], [], g1, rfl, Nat.le_refl _, HasL.nil, fun q hq => nomatch hq⟩, _, _, rfl⟩ (fun i σ Hi _ z => z.1.1 _ _ h1) ?_ ?_
  · rintro BB RR i kv σ Hi hkv ⟨sm, z6, z7, rfl⟩
    have si := sm.1
    obtain ⟨x, s, hx, ek⟩ := key_at h2 hkv
    rw [ek]
    have hxm : x ∈ ks.map (·.1) := List.mem_map.mpr ⟨(x, s), List.mem_of_getElem? hx, rfl⟩
    obtain ⟨sh, hsh⟩ := V6 hxm
    obtain ⟨v, hv, hvd⟩ := h3 x sh hsh
    have hvi := hvd.mono si
    have i6 : i < 6 := by have := (List.getElem?_eq_some_iff.mp hkv).1; omega
    refine ⟨_, rfl, wA, _, rfl, Wr.shapes (si _ _ hW), _, rfl, sA, v, rfl, .inl ⟨kvs, Sum.inr x, .inr ⟨o, si _ _ h1⟩, rfl, hv.symm⟩, ?_⟩
    cases sh with
    | tags ts =>
      obtain ⟨ps, l, rfl, hp, hl⟩ := Vc hvi
      refine ⟨_, rfl, ps, _, 0, _, rfl, rfl, SqT.of hp, rfl, rfl, _, rfl, Zo (by decide +kernel) (Zo (by decide) ?_)⟩
      refine ⟨_, rfl, ps, _, 0, _, rfl, rfl, SqT.of hp, rfl, rfl, _, rfl, Zo (by decide +kernel) (Zo (by decide) ?_)⟩
      exact ⟨sm.up (by omega), _, _, rfl⟩
    | pair e g =>
      obtain ⟨ps, rfl, hp⟩ := VP hvi
      dsimp only [Y2]
      refine VB (fun σ' H2 => SM H bl (ks.map (·.1)) (2 * i + 1) H2 /\ H2 ps = some (.tup [.str "pair", .str e, .str g]) /\ σ' = [some (.ref p), some (.ref wA), some (.ref a), some (.str y), some (.int ((n + 1 : Nat) : Int)), some (.ref bl), some (.str x), some (.ref ps), none, none]) ?_ ?_
      · rintro σ' H2 ⟨sm2, hp2, rfl⟩
        refine ⟨_, rfl, ps, _, 0, _, rfl, rfl, SqT.of hp2, rfl, rfl, _, rfl, YQ (by decide +kernel) ?_⟩
        refine ⟨_, rfl, ps, _, 2, _, rfl, rfl, SqT.of hp2, rfl, _, rfl, rfl, _, rfl, ?_⟩
        refine YI (fun c1 => ?_) (fun c1 => ⟨sm2.up (by omega), _, _, rfl⟩)
        obtain ⟨_, zs, qs, a1, a2, a3, _⟩ := id sm2
        refine ⟨_, rfl, .inl ⟨rfl, _, SqL.of a1⟩, _, rfl, by show 2 <= sizeLine; decide, fun tt htt => ?_⟩
        refine ⟨bl, zs, _, rfl, rfl, ZE htt _ _ _ a1, ZP (by omega), ?_⟩
        exact ⟨(sm2.app hbl (.inr rfl) hxm htt a1).up (by omega), _, _, rfl⟩
      · intro N key
        refine ⟨_, rfl, ps, _, 0, _, rfl, rfl, SqT.of hp, rfl, rfl, _, rfl, YQ (by decide +kernel) ?_⟩
        refine ⟨_, rfl, ps, _, 1, _, rfl, rfl, SqT.of hp, rfl, _, rfl, rfl, _, rfl, ?_⟩
        refine YI (fun c1 => ?_) (fun c1 => key _ _ ⟨sm.up (by omega), hp, rfl⟩)
        obtain ⟨_, zs, qs, a1, a2, a3, _⟩ := id sm
        refine ⟨_, rfl, .inl ⟨rfl, _, SqL.of a1⟩, _, rfl, by show 2 <= sizeLine; decide, fun tt htt => ?_⟩
        refine ⟨bl, zs, _, rfl, rfl, ZE htt _ _ _ a1, ZP (by omega), ?_⟩
        refine key _ _ ⟨(sm.app hbl (.inl rfl) hxm htt a1).up (by omega), ?_, rfl⟩
        have hp6 := ZE htt (.tup [.str "one", .str x]) _ _ hp
        have a6 := ZE htt (.tup [.str "one", .str x]) _ _ a1
        rw [ZJ (fun z => by rw [z, a6] at hp6; cases hp6)]
        exact hp6
  · rintro σ Hi ⟨sm, z6, z7, rfl⟩
    obtain ⟨si, zs, qs, a1, a2, a3, a4, a5⟩ := id sm
    refine ⟨_, rfl, by show 0 <= sizeLine; decide, fun e1 he1 => ?_⟩
    have s2 := ZE he1 (.lst [])
    have ge : upd Hi e1 (.lst []) e1 = some (.lst []) := ZD
    generalize upd Hi e1 (.lst []) = H2 at s2 ge ⊢
    have s02 := si.trans s2
    have st2 := hs.sm s02
    have wr2 := hw.mono s02
    have af2 := ha.mono s02 (Nat.le_refl _)
    refine ⟨.lst (qs.map sgD), .lst [], YG (s2 _ _ a1) (a4.mono s2), YG ge HasL.nil, sg_dep _, _, rfl, ?_⟩
    rw [pq_nil]
    cases qs with
    | nil =>
      refine YQ (by simp) ?_
      exact ⟨_, rfl, _, rfl, _, rfl, _, rfl, _, rfl, p, wA, a, lA, y, ks, c, d, m, rfl, st2, wr2, af2, hm, kk, k6, hy, q.go s02.gb (.inl rfl)⟩
    | cons q1 qs =>
      have l1 : (q1 :: qs).length = qs.length + 1 := rfl
      refine Zo (by simp) ?_
      refine ⟨_, rfl, _, rfl, _, rfl, bl, _, rfl, .inl (SqL.of (s2 _ _ a1)), p, _, rfl, st2, by omega, by omega, fun r H3 r0 r1' b3 s3 => ?_⟩
      obtain ⟨mm, v, hv1, hv2⟩ := VS r0 r1'
      have gb3 : GB p wA H2 H3 := b3.sb.gb
      have nbp : bl ≠ p := fun e => by
        obtain ⟨_, _, _, _, h⟩ := hs
        rw [e, h] at hbl; cases hbl
      obtain ⟨dd, hd1, hd2⟩ := (a4.mono s2).get hv1
      rw [List.getElem?_map] at hd1
      cases hq : (q1 :: qs)[mm]? with
      | none => rw [hq] at hd1; cases hd1
      | some pr =>
        rw [hq] at hd1
        cases hd1
        obtain ⟨so, ho⟩ := a5 pr (List.mem_of_getElem? hq)
        obtain ⟨t2, rfl, ht2⟩ := has_two hd2
        have tk3 := gb3.tk st2 wr2
        refine ⟨bl, _, r, _, rfl, rfl, SqL.of (b3.sb _ _ nbp (s2 _ _ a1)), hv2, ?_⟩
        refine ⟨t2, _, rfl, SqT.of (tk3 _ _ ht2), rfl, _, _, rfl, _, _, rfl, rfl, ?_⟩
        refine ⟨_, rfl, _, rfl, _, rfl, _, rfl, _, rfl, _, rfl, _, _, rfl, rfl, p, wA, a, lA, pr.2, ks, c, d, m, by dsimp only; rw [en]; rfl, s3, wr2.sb b3.sb st2, af2.gb gb3 st2 wr2, by omega, kk, k6, ho, fun u5 H5 b5 l5 gb5 st5 wr5 ln5 hu5 ok5 dp5 => ?_⟩
        refine ⟨by show 2 <= sizeLine; decide, fun t3 ht3 => ?_⟩
        have s7 := ZE ht3 (.tup [.str pr.1, u5])
        have ln : LN H lA l5 := LN.trans (.inl rfl) ln5 (s02.gb.trans gb3) st5 wr5
        have gb : GB p wA H (upd H5 t3 (.tup [.str pr.1, u5])) := ((s02.gb.trans gb3).trans gb5).trans s7.gb
        rcases so with so | so
        · refine q _ _ (.one b5) l5 gb (st5.sm s7) (wr5.mono s7) ln ?_ (by unfold Bd.ok; exact ok5) (by unfold Bd.dep; omega)
          unfold Bd.dat
          rw [so]
          exact ZZ ZD (HasL.cons Zk (HasL.one (by rw [so] at s7; exact hu5.mono s7)))
        · refine q _ _ (.other b5) l5 gb (st5.sm s7) (wr5.mono s7) ln ?_ (by unfold Bd.ok; exact ok5) (by unfold Bd.dep; omega)
          unfold Bd.dat
          rw [so]
          exact ZZ ZD (HasL.cons Zk (HasL.one (by rw [so] at s7; exact hu5.mono s7)))
end
end K4
namespace L2
open PySem PySem.Spec PyProof.Rows
section
variable {X : Cx}
theorem call_lenR : Yq X (.builtin "len") (fun xs H Q => ∃ a kvs, xs = [V.ref a] /\ Rd H a (.dK kvs) /\ Q (.int kvs.length) H) := by
  intro pins s σ H xs us Q I r h
  obtain ⟨a, kvs, rfl, ha, q⟩ := h
  obtain ⟨u, rfl, ru⟩ := vals1 r
  cases ru
  exact d_len I ha fun t s' I' => ⟨.int kvs.length, H, I', ⟨t, rfl⟩, q⟩
theorem Ji (hc : X.calm = true) : Yq X (.type "list") (fun xs H Q => ∃ a kvs, xs = [.ref a] /\ Rd H a (.dK kvs) /\ ∀ l, H l = none -> Q (.ref l) (upd H l (.lst (kvs.map fun kv => kV kv.1)))) := by
  intro pins s σ H xs us Q I r h
  obtain ⟨a, kvs, rfl, ha, q⟩ := h
  obtain ⟨u, rfl, ru⟩ := vals1 r
  cases ru
  obtain ⟨hz, lo, vs, rv, hd⟩ := dk_rd I.hok ha
  obtain ⟨ep, hat⟩ := hd.dictAt
  have hlen := rv.length
  refine PySem.W.kdl_call (PySem.W.kdl_dict (knd := Zx X.prog X.w) (kvs := vs) (ep := ep) lo) (I.ok.hd hc) hat (by rw [<- hlen]; exact hz) fun h' tk acc c hk hl hacc => ?_
  refine ⟨.ref s.heap.objs.size, _, I.laid (o := .lst (kvs.map fun kv => kV kv.1)) hk (Nat.le_refl _) ⟨by rw [List.length_map]; exact hz, acc.toList, c, ?_, by rw [Array.toArray_toList]; exact hl⟩, rfl, q _ (I.hok.fresh (Nat.le_refl _))⟩
  obtain ⟨hn, hp⟩ := hacc
  refine JV (by simp [hn, hlen]) fun j x u e1 e2 => ?_
  obtain ⟨k, y, hy, hk'⟩ := hp j u (by rw [<- Array.getElem?_toList]; exact e2)
  rw [List.getElem?_map] at e1
  cases hkv : kvs[j]? with
  | none => rw [hkv] at e1; cases e1
  | some kv =>
    rw [hkv] at e1
    cases e1
    have hkeys := rv.keys
    have e3 : (kvs.map (·.1))[j]? = (vs.map (·.1))[j]? := by rw [hkeys]
    rw [List.getElem?_map, List.getElem?_map, hkv, hy] at e3
    have e4 : kv.1 = k := Option.some.inj e3
    have hk2 : JB kv.1 u = true := by rw [e4]; exact hk'
    rcases Z1 hk2 with ⟨i, t, e5, e6⟩ | ⟨z, t, e5, e6⟩
    · show RelV (kV kv.1) u
      rw [e5, e6]; exact ⟨t, rfl⟩
    · show RelV (kV kv.1) u
      rw [e5, e6]; exact ⟨t, rfl⟩
theorem call_dictR : Yq X (.type "dict") (fun xs H Q => ∃ a kvs, xs = [.ref a] /\ Rd H a (.dK kvs) /\ ∀ l, H l = none -> Q (.ref l) (upd H l (.dK kvs))) := by
  intro pins s σ H xs us Q I r h
  obtain ⟨a, kvs, rfl, ha, q⟩ := h
  obtain ⟨u, rfl, ru⟩ := vals1 r
  cases ru
  obtain ⟨hz, lo, vs, rv, hd⟩ := dk_rd I.hok ha
  have hlen := rv.length
  refine kt_call_dict (knd := Zx X.prog X.w) lo hd (by rw [<- hlen]; exact hz) fun h' hd' sb => ?_
  refine ⟨.ref s.heap.objs.size, _, I.laid (a := s.heap.objs.size) (o := .dK kvs) (fun b o e => ?_) (Nat.le_refl _) (dk_new hz (beq_eq_false_iff_ne.mpr (Ne.symm (Nat.ne_of_lt I.big))) rv hd'), rfl, q _ (I.hok.fresh (Nat.le_refl _))⟩
  exact (sb.2 b (Nat.ne_of_lt (Heap.lt_size e))).trans (Heap.get?_push_of_some _ e)
end
theorem first_at {nm : Str} : ∀ {ls : List Str}, nm ∈ ls -> ∃ j : Nat, ls[j]? = some nm /\ ∀ m : Nat, m < j -> ls[m]? ≠ some nm
  | [], h => nomatch h
  | l :: ls, h => by
    by_cases e : l = nm
    · exact ⟨0, by rw [e]; rfl, fun m hm => absurd hm (by omega)⟩
    · obtain ⟨j, h1, h2⟩ := first_at (ls := ls) ((List.mem_cons.mp h).resolve_left fun z => e z.symm)
      refine ⟨j + 1, h1, fun m hm => ?_⟩
      cases m with
      | zero => exact fun z => e (Option.some.inj z)
      | succ m => exact h2 m (by omega)
theorem wr_put3 {a b c d v : V} : putK [((Sum.inr "shapes" : Key), a), (Sum.inr "heads", b), (Sum.inr "lets", c), (Sum.inr "left", d)] (Sum.inr "lets") v = [((Sum.inr "shapes" : Key), a), (Sum.inr "heads", b), (Sum.inr "lets", v), (Sum.inr "left", d)] := rfl
theorem wr_put4 {a b c d v : V} : putK [((Sum.inr "shapes" : Key), a), (Sum.inr "heads", b), (Sum.inr "lets", c), (Sum.inr "left", d)] (Sum.inr "left") v = [((Sum.inr "shapes" : Key), a), (Sum.inr "heads", b), (Sum.inr "lets", c), (Sum.inr "left", v)] := rfl
theorem Wr.set {H : Hp} {w lA sA hA : Addr} {n : Int} {ks : List (Str × Shp)} (g : Wr H w ks lA) (e : H w = some (wrD sA hA lA n)) {l' : Addr} {ls : List Str} (n' : Int) (h : H l' = some (.lst (ls.map V.str))) (h3 : ls.length <= 3) : Wr (upd H w (wrD sA hA l' n')) w ks l' := by
  obtain ⟨sA', hA', ls', m, a1, a2, a3, a4, a5⟩ := g
  rw [e] at a1
  have z := Option.some.inj a1
  unfold wrD at z
  injection z with z1
  injection z1 with z2 z3
  injection z2 with _ z4
  injection z4 with z5
  injection z3 with z6 _
  injection z6 with _ z7
  injection z7 with z8
  subst z5 z8
  have tk : TK H (upd H w (wrD sA hA l' n')) := fun b zs q => by rw [ZJ (fun z => by rw [z, e] at q; cases q)]; exact q
  obtain ⟨o, kvs, b1, b2, b3⟩ := a2
  obtain ⟨o', kvs', c1, c2, c3⟩ := a3
  refine ⟨sA, hA, ls, n', ZD, ⟨o, kvs, ?_, b2, fun y s q => let ⟨v, e1, e2⟩ := b3 y s q; ⟨v, e1, Z3 tk _ (Shp.st _) e2⟩⟩, ⟨o', kvs', ?_, c2, fun kv hk => let ⟨f, ps, k, e1, e2, e3⟩ := c3 kv hk; ⟨f, ps, k, e1, Z3 tk _ (VO _ _) e2, e3⟩⟩, ?_, h3⟩
  · rw [ZJ (fun z => by rw [z, e] at b1; cases b1)]; exact b1
  · rw [ZJ (fun z => by rw [z, e] at c1; cases c1)]; exact c1
  · rw [ZJ (fun z => by rw [z, e] at h; cases h)]; exact h
theorem gb_w {p w : Addr} {H : Hp} {o : HO} : GB p w H (upd H w o) := fun b u _ n2 e => by rw [ZJ n2]; exact e
theorem putK_mem {kvs : List (Key × V)} {k : Key} {v : V} {kv : Key × V} (h : kv ∈ putK kvs k v) : kv ∈ kvs ∨ kv = (k, v) := by
  unfold putK at h
  split at h
  · obtain ⟨q, hq, e⟩ := (List.mem_map.mp h)
    by_cases z : q.1 = k
    · rw [if_pos z] at e; exact .inr (by rw [<- e, z])
    · rw [if_neg z] at e; exact .inl (by rw [<- e]; exact hq)
  · rcases (List.mem_append.mp h) with h | h
    · exact .inl h
    · exact (.inr (List.mem_singleton.mp h))
theorem putK_len (kvs : List (Key × V)) (k : Key) (v : V) : (putK kvs k v).length <= kvs.length + 1 := by
  unfold putK
  split
  · rw [List.length_map]; omega
  · rw [List.length_append]; exact Nat.le_refl _
end L2
namespace K4
open PySem L2
section
variable {P : Program} {w : World} {K : PySem.W.Frag} {mg : Str -> Option Value} {base : Heap} {f : Addr} {fd : FuncData}
theorem scLet : FnScope ["stream", "world", "around", "kind", "deep", "names", "name", "lets", "own", "inner", "first"] ["stream", "world", "around", "kind", "deep"] (ZN sLet) := ⟨rfl, rfl, rfl, by decide +kernel, rfl, by decide +kernel, by decide +kernel⟩
theorem nd_oa : List.Nodup [("one" : Str), "around"] := by decide +kernel
theorem ok_let {n L : Nat} (B : Blt mg) (F : Fun K "_law_let" "_law_let" sLet f fd) (DT : Df P w K mg base (L + 3) "_law_take" ["stream", "many"] YK) (DC : Df P w K mg base (L + 3) "_law_choose" gps (spG (n + 1))) (DB : Df P w K mg base (L + 3) "_law_body" gps (spG n)) :
    FnOk P w K mg base CX0 (L + 3 + 1) f fd gps (spG (n + 1)) := by
  obtain ⟨gt, td', mT, kT, bT, GT⟩ := DT
  obtain ⟨gc, cd', mC, kC, bC, GC⟩ := DC
  obtain ⟨gb, bd', mB, kB, bB, GB'⟩ := DB
  refine F.ok scLet (fun vs H Q E h => ?_) (fun cdv A outer s H vs Q E hr h => ?_)
  · obtain ⟨p, w, a, lA, y, ks, c, d, m, rfl, _⟩ := h
    rfl
  obtain ⟨p, wA, a, lA, y, ks, c, d, m, rfl, hs, hw, ha, hm, kk, k6, hy, q⟩ := h
  have hu := Vb hr
  have hr3 := hr.mono (show 2 <= L + 3 by omega)
  refine ⟨_, ZG (Jp (i0 := 5) ["one"] [2] scLet.nd rfl (Or.inl rfl) (Y6 (Zg hu (pv 1) ZX (fun _ _ => rfl))) (YR (i := 0) (by decide)) (fun cl C fp s H => Za (i := 0) nd_oa rfl (Or.inl rfl) (Or.inr rfl))
      (fun cl C fp s H => pt_cmp (pc_dnotin hu (pv 0) (pv 1))) (fun cl C fp s H => pv 0))
    (ZG (Zt (ZY (op_eqD hr3) (pv 5) (YF ZF) (Zd _)) (ZL (ZW (ZK GC hr rfl mC kC bC .nil ZU (ZA (pv 0) (ZA (pv 1) (ZA (pv 2) (ZA (pv 3) (ZA (pv 4) ZF)))))))) Zb)
    (ZG (ZT (i := 6) scLet.nd rfl (Or.inl rfl) (ZV Zj (pv 5) (ZK GT hr rfl mT kT bT .nil ZU (ZA (pv 0) (ZA (Zi Zf rfl B.len PySem.boot_len (ZA (pv 5) ZF)) ZF))) (fun _ _ => rfl)))
    (ZG (ZT (i := 7) scLet.nd rfl (Or.inl rfl) (Zs VR rfl B.list Yk (ZA (Zg hu (pv 1) ZX (fun _ _ => rfl)) ZF)))
    (ZG (Yn (VT PySem.F.plainAttrs_list PySem.F.slot_list_remove PySem.F.type_list_remove mt_remove (pv 7) (ZA (pv 6) ZF)))
    (ZG (Yu hu (pv 1) ZX (pv 7) rfl)
    (ZG (ZT (i := 8) scLet.nd rfl (Or.inl rfl) (ZV Zj (Zs (Ji rfl) rfl B.list Yk (ZA (Zg hu (pv 1) ZX (fun _ _ => rfl)) ZF)) (ZK GT hr rfl mT kT bT .nil ZU (ZA (pv 0) (ZA (Zi call_lenR rfl B.len PySem.boot_len (ZA (Zg hu (pv 1) ZX (fun _ _ => rfl)) ZF)) ZF))) (fun _ _ => rfl)))
    (ZG (ZT (i := 9) scLet.nd rfl (Or.inl rfl) (Zs call_dictR rfl B.dict Vz (ZA (pv 2) ZF)))
    (ZG (ps_frz (Yu hu (pv 9) (pv 6) (pv 8) rfl))
    (ZG (ZT (i := 10) scLet.nd rfl (Or.inl rfl) (ZK GB' hr rfl mB kB bB .nil ZU (ZA (pv 0) (ZA (pv 1) (ZA (pv 9) (ZA (pv 8) (ZA (Zc Yi (pv 4) ZH) ZF)))))))
    (ZL (ZW (Zn (ZA ZX (ZA (pv 6) (ZA (pv 8) (ZA (pv 10) (ZA (ZK GB' hr rfl mB kB bB .nil ZU (ZA (pv 0) (ZA (pv 1) (ZA (pv 9) (ZA (pv 3) (ZA (Zc Yi (pv 4) ZH) ZF)))))) ZF))))))))))))))))), ?_⟩
  dsimp only [Y9, Cx.nox, Cx.wish]
  have en : (((n + 1 : Nat) : Int) - 1) = ((n : Nat) : Int) := by omega
  obtain ⟨sA, hA, ls, nn, hW, hS, hH, hL, l3⟩ := id hw
  obtain ⟨o, kvs, h1, h2, h3⟩ := id hS
  obtain ⟨oA, kvA, ha1, ha2, ha3⟩ := id ha
  have kl := key_len h2
  have lls : (ls.map V.str).length = ls.length := List.length_map _
  refine ⟨_, rfl, wA, _, rfl, Wr.lets hW, lA, rfl, ⟨_, SqL.of hL⟩, ?_⟩
  refine Y3 ls.length (ZP (by omega)) (fun i vs H' => H' = H /\ vs.length <= i /\ ∃ ns : List Str, vs = ns.map V.str /\ ∀ z ∈ ns, z ∈ ls) ⟨rfl, Nat.le_refl _, [], rfl, fun z hz => nomatch hz⟩ (fun i vs H' z => z.2.1) ?_ ?_ ?_ ?_
  · rintro i vs H' hi ⟨rfl, _⟩
    exact ⟨_, .str ls[i], SqL.of hL, by rw [List.getElem?_map, List.getElem?_eq_getElem hi]; rfl⟩
  · rintro vs H' ⟨rfl, _⟩
    exact ⟨_, SqL.of hL, by omega⟩
  · rintro i vs H' x H'' R hi ⟨rfl, z2, ns, rfl, z4⟩ yl rT rF
    obtain ⟨rfl, yy⟩ := yl
    obtain ⟨x, hxm, rfl⟩ := Vo (yy _ (SqL.of hL))
    refine ⟨_, rfl, _, rfl, a, _, rfl, .inl ⟨kvA, Sum.inr x, .inr ⟨oA, ha1⟩, rfl, rfl⟩, _, rfl, ?_⟩
    refine YI (fun c1 => ⟨_, rfl, rT _ _ ⟨rfl, by simp at z2 ⊢; omega, ns ++ [x], by rw [List.map_append]; rfl, fun z hz => ?_⟩⟩) (fun c1 => rF _ ⟨rfl, by omega, ns, rfl, z4⟩)
    rcases List.mem_append.mp hz with hz | hz
    · exact z4 z hz
    · cases List.mem_singleton.mp hz
      exact hxm
  rintro vs H' r1 ⟨rfl, z2, ns, rfl, z4⟩ hr1
  have ll : (ns.map V.str).length = ns.length := List.length_map _
  have s1 := ZE hr1 (.lst (ns.map V.str))
  have g1 : upd H' r1 (.lst (ns.map V.str)) r1 = some (.lst (ns.map V.str)) := ZD
  generalize upd H' r1 (.lst (ns.map V.str)) = H1 at s1 g1 ⊢
  refine ⟨_, rfl, by show 0 <= sizeLine; decide, fun e1 he1 => ?_⟩
  have s2 := ZE he1 (.lst [])
  have g2 := s2 _ _ g1
  have ge : upd H1 e1 (.lst []) e1 = some (.lst []) := ZD
  generalize upd H1 e1 (.lst []) = H2 at s2 g2 ge ⊢
  have s02 := s1.trans s2
  have st2 := hs.sm s02
  have wr2 := hw.mono s02
  refine ⟨.lst (ns.map Dat.str), .lst [], lstE g2, YG ge HasL.nil, strs_dep _, _, rfl, ?_⟩
  rw [pq_nil]
  cases ns with
  | nil =>
    refine YQ (by simp) ?_
    exact ⟨_, rfl, _, rfl, _, rfl, _, rfl, _, rfl, p, wA, a, lA, y, ks, c, d, m, rfl, st2, wr2, ha.mono s02 (Nat.le_refl _), hm, kk, k6, hy, q.go s02.gb (.inl rfl)⟩
  | cons n1 ns =>
    have l1 : ((n1 :: ns).map V.str).length = ns.length + 1 := by simp
    rw [l1] at z2
    refine Zo (by simp) ?_
    refine ⟨_, rfl, _, rfl, _, rfl, r1, _, rfl, .inl (SqL.of g2), p, _, rfl, st2, by omega, by omega, fun r H3 r0 r1' b3 s3 => ?_⟩
    obtain ⟨mm, v, hv1, hv2⟩ := VS r0 r1'
    obtain ⟨nm, hnm, rfl⟩ := Vo hv1
    have gb3 : GB p wA H2 H3 := b3.sb.gb
    have g03 : GB p wA H' H3 := s02.gb.trans gb3
    have wr3 := wr2.sb b3.sb st2
    have hW3 := b3.sb _ _ (hw.ne hs) (s02 _ _ hW)
    have hL3 := b3.sb _ _ (Z9 hs hL) (s02 _ _ hL)
    refine ⟨r1, _, r, _, rfl, rfl, SqL.of (b3.sb _ _ (Z9 st2 g2) g2), hv2, ?_⟩
    refine ⟨_, rfl, wA, _, rfl, Wr.lets hW3, lA, _, rfl, .inl (SqL.of hL3), fun l4 hl4 => ?_⟩
    have s4 := ZE hl4 (.lst (ls.map V.str))
    have g4 : upd H3 l4 (.lst (ls.map V.str)) l4 = some (.lst (ls.map V.str)) := ZD
    generalize upd H3 l4 (.lst (ls.map V.str)) = H4 at s4 g4 ⊢
    obtain ⟨j, hj, hno⟩ := first_at (z4 nm hnm)
    refine ⟨_, rfl, .inl ⟨rfl, _, SqL.of g4⟩, _, rfl, l4, ls, nm, j, rfl, rfl, g4, hj, hno, ?_⟩
    have s5 : Same H3 (upd H4 l4 (.lst ((ls.eraseIdx j).map V.str))) := s4.putN hl4
    have g5 : upd H4 l4 (.lst ((ls.eraseIdx j).map V.str)) l4 = some (.lst ((ls.eraseIdx j).map V.str)) := ZD
    generalize upd H4 l4 (.lst ((ls.eraseIdx j).map V.str)) = H5 at s5 g5 ⊢
    have wr5 := wr3.mono s5
    have hW5 := s5 _ _ hW3
    refine ⟨_, rfl, _, rfl, wA, _, rfl, JU.k (k := Sum.inr "lets") hW5 (ZP (by show 4 <= 1000; decide)), ?_⟩
    rw [wr_put3]
    have wr6 : Wr (upd H5 wA (wrD sA hA l4 nn)) wA ks l4 := wr5.set hW5 nn g5 (by have := List.length_eraseIdx_le ls j; omega)
    have hW6 : upd H5 wA (wrD sA hA l4 nn) wA = some (wrD sA hA l4 nn) := ZD
    have gb6 : GB p wA H5 (upd H5 wA (wrD sA hA l4 nn)) := gb_w
    have st6 : Zu (upd H5 wA (wrD sA hA l4 nn)) p := (s3.sm s5).keep (ZJ (Ne.symm (hw.ne hs)))
    show Jf _ _ _ _ (upd H5 wA (wrD sA hA l4 nn))
    generalize upd H5 wA (wrD sA hA l4 nn) = H6 at wr6 hW6 gb6 st6 ⊢
    have g06 : GB p wA H' H6 := (g03.trans s5.gb).trans gb6
    have np4 : l4 ≠ p := s3.ne hl4
    have nw4 : l4 ≠ wA := fun e => by rw [e, hW3] at hl4; cases hl4
    have ln6 : LN H' lA l4 := .inr (g03.free np4 nw4 hl4)
    have h16 := g06 _ _ (YO hs h1) (hw.ne_frz h1) h1
    have ha6 := g06 _ _ (YO hs ha1) (hw.ne_frz ha1) ha1
    refine ⟨_, rfl, wA, _, rfl, Wr.shapes hW6, sA, kvs, rfl, .inr ⟨o, h16⟩, fun l7 hl7 => ?_⟩
    have s7 := ZE hl7 (.lst (kvs.map fun kv => kV kv.1))
    have g7 : upd H6 l7 (.lst (kvs.map fun kv => kV kv.1)) l7 = some (.lst (kvs.map fun kv => kV kv.1)) := ZD
    have np7 : l7 ≠ p := st6.ne hl7
    generalize upd H6 l7 (.lst (kvs.map fun kv => kV kv.1)) = H7 at s7 g7 ⊢
    have kpos : 0 < ks.length := by obtain ⟨k, hk, _⟩ := List.mem_map.mp hy; exact List.length_pos_of_mem hk
    refine ⟨_, rfl, _, rfl, wA, _, rfl, Wr.shapes (s7 _ _ hW6), sA, kvs, rfl, .inr ⟨o, s7 _ _ h16⟩, p, _, rfl, st6.sm s7, by omega, by omega, fun r8 H8 r80 r81 b8 s8 => ?_⟩
    obtain ⟨m8, v8, hv3, hv4⟩ := VS (xs := kvs.map fun kv => kV kv.1) r80 (by rw [List.length_map]; exact r81)
    obtain ⟨own, ho, rfl⟩ : ∃ own, own ∈ ks.map (·.1) /\ v8 = .str own := by
      rw [List.getElem?_map] at hv3
      cases ek : kvs[m8]? with
      | none => rw [ek] at hv3; cases hv3
      | some kv =>
        rw [ek] at hv3
        obtain ⟨x, s, hx, e2⟩ := key_at h2 ek
        refine ⟨x, List.mem_map.mpr ⟨(x, s), List.mem_of_getElem? hx, rfl⟩, ?_⟩
        have := (Option.some.inj hv3).symm
        rw [this]; show kV kv.1 = _; rw [e2]; rfl
    refine ⟨l7, _, r8, _, rfl, rfl, SqL.of (b8.sb _ _ np7 g7), hv4, ?_⟩
    have gb8 : GB p wA H7 H8 := b8.sb.gb
    have wr8 := (wr6.mono s7).sb b8.sb (st6.sm s7)
    have ha8 := gb8 _ _ (YO (st6.sm s7) (s7 _ _ ha6)) ((wr6.mono s7).ne_frz (s7 _ _ ha6)) (s7 _ _ ha6)
    refine ⟨_, rfl, a, kvA, rfl, .inr ⟨oA, ha8⟩, fun i9 hi9 => ?_⟩
    have s9 := ZE hi9 (.dK kvA)
    have g9 : upd H8 i9 (.dK kvA) i9 = some (.dK kvA) := ZD
    generalize upd H8 i9 (.dK kvA) = H9 at s9 g9 ⊢
    refine ⟨_, rfl, _, rfl, _, rfl, i9, _, rfl, JU.k (k := Sum.inr nm) g9 (ZP (by omega)), i9, _, ZD, fun o10 => ?_⟩
    have s10 : Same H8 (upd (upd H9 i9 (.dK (putK kvA (Sum.inr nm) (.str own)))) i9 (.frz o10 (.dK (putK kvA (Sum.inr nm) (.str own))))) := (s9.putN hi9).putN hi9
    have g10 : upd (upd H9 i9 (.dK (putK kvA (Sum.inr nm) (.str own)))) i9 (.frz o10 (.dK (putK kvA (Sum.inr nm) (.str own)))) i9 = some (.frz o10 (.dK (putK kvA (Sum.inr nm) (.str own)))) := ZD
    generalize upd (upd H9 i9 (.dK (putK kvA (Sum.inr nm) (.str own)))) i9 (.frz o10 (.dK (putK kvA (Sum.inr nm) (.str own)))) = H10 at s10 g10 ⊢
    have af10 : AF H10 i9 (ks.map (·.1)) (m + 1) := ⟨o10, _, g10, by have := putK_len kvA (Sum.inr nm) (.str own); omega, fun kv hk => by
      rcases putK_mem hk with z | z
      · exact ha3 kv z
      · exact ⟨nm, own, z, ho⟩⟩
    have st10 := s8.sm s10
    have wr10 := wr8.mono s10
    have g10b : GB p wA H' H10 := ((g06.trans s7.gb).trans gb8).trans s10.gb
    have lnA : LN H' lA l4 := ln6
    refine ⟨_, rfl, _, rfl, _, rfl, _, rfl, _, rfl, _, _, rfl, rfl, p, wA, i9, l4, own, ks, c, d, m + 1, by dsimp only; rw [en]; rfl, st10, wr10, af10, by omega, kk, k6, ho, fun u1 H11 b1 l11 gb11 st11 wr11 ln11 hu11 ok11 dp11 => ?_⟩
    refine ⟨_, rfl, _, rfl, _, rfl, _, rfl, _, rfl, _, rfl, _, rfl, _, rfl, _, _, rfl, rfl, p, wA, i9, l11, y, ks, c, d, m + 1, by dsimp only; rw [en]; rfl, st11, wr11, af10.gb gb11 st10 wr10, by omega, kk, k6, hy, fun u2 H12 b2 l12 gb12 st12 wr12 ln12 hu12 ok12 dp12 => ?_⟩
    refine ⟨by show 5 <= sizeLine; decide, fun t3 ht3 => ?_⟩
    have s13 := ZE ht3 (.tup [.str "let", .str nm, .str own, u1, u2])
    refine q _ _ (.letb nm own b1 b2) l12 (((g10b.trans gb11).trans gb12).trans s13.gb) (st12.sm s13) (wr12.mono s13) (lnA.trans (ln11.trans ln12 gb11 st12 wr12) g10b st12 wr12) ?_ (by unfold Bd.ok; exact ⟨ok11, ok12⟩) (by unfold Bd.dep; omega)
    unfold Bd.dat
    exact ZZ ZD (HasL.cons Zk (HasL.cons Zk (HasL.cons Zk (HasL.cons ((Z3 (gb12.tk st11 wr11) _ (Bd.st _) hu11).mono s13) (HasL.one (hu12.mono s13))))))
end
section
variable {P : Program} {w : World} {K : PySem.W.Frag} {mg : Str -> Option Value} {base : Heap} {f : Addr} {fd : FuncData}
theorem scBody : FnScope ["stream", "world", "around", "kind", "deep", "way", "shape", "one"] ["stream", "world", "around", "kind", "deep"] (ZN JW) := ⟨rfl, rfl, rfl, by decide +kernel, rfl, by decide +kernel, by decide +kernel⟩
theorem ok_body0 {L : Nat} (F : Fun K "_law_body" "_law_body" JW f fd) (DP : Df P w K mg base L "_law_plain" ["stream", "world", "around", "kind"] (YZ 3)) : FnOk P w K mg base CX0 (L + 1) f fd gps (spG 0) := by
  obtain ⟨gp, pd', mP, kP, bP, GP⟩ := DP
  refine F.ok scBody (fun vs H Q E h => ?_) (fun cdv A outer s H vs Q E hr h => ?_)
  · obtain ⟨p, w, a, lA, y, ks, c, d, m, rfl, _⟩ := h
    rfl
  obtain ⟨p, wA, a, lA, y, ks, c, d, m, rfl, hs, hw, ha, hm, kk, k6, hy, q⟩ := h
  have hu := Vb hr
  refine ⟨_, ZG (Yu hu (pv 1) ZX (Zc Yi (Zg hu (pv 1) ZX (fun _ _ => rfl)) ZH) rfl)
    (ZG (Zt (PW.pt (V9 (ZY YA (pv 4) ZH (Zd _)) (Vt (ZY op_lt (Zg hu (pv 1) ZX (fun _ _ => rfl)) ZH (Zd _))))) (ZL (ZW (ZK GP hr rfl mP kP bP .nil ZU (ZA (pv 0) (ZA (pv 1) (ZA (pv 2) (ZA (pv 3) ZF))))))) Zb)
    (ZG JX (ZG JX (ZG JX (ZG JX (ZG JX (ZG JX (ZG JX (ZL JX))))))))), ?_⟩
  obtain ⟨sA, hA, ls, nn, hW, hS, hH, hL, l3⟩ := id hw
  have dy := kk.small hy
  refine ⟨_, rfl, wA, _, rfl, Wr.left hW, _, _, rfl, rfl, _, rfl, wA, _, rfl, JU.k (k := Sum.inr "left") hW (ZP (by show 4 <= 1000; decide)), ?_⟩
  rw [wr_put4]
  have wr1 : Wr (upd H wA (wrD sA hA lA (nn - 1))) wA ks lA := hw.set hW (nn - 1) hL l3
  have gb1 : GB p wA H (upd H wA (wrD sA hA lA (nn - 1))) := gb_w
  have st1 : Zu (upd H wA (wrD sA hA lA (nn - 1))) p := hs.keep (ZJ (Ne.symm (hw.ne hs)))
  show Jf _ _ _ _ (upd H wA (wrD sA hA lA (nn - 1)))
  generalize upd H wA (wrD sA hA lA (nn - 1)) = H1 at wr1 gb1 st1 ⊢
  refine ⟨_, rfl, rfl, _, rfl, YQ (by decide) (YQ rfl ?_)⟩
  exact ⟨_, rfl, _, rfl, _, rfl, _, rfl, p, wA, a, lA, y, ks, c, d, rfl, st1, wr1, (ha.gb gb1 hs hw).mono (Same.refl _) (by omega), kk, hy, by omega, (q.go gb1 (.inl rfl)).le (by omega)⟩
theorem ok_body {n L : Nat} (F : Fun K "_law_body" "_law_body" JW f fd) (DT : Df P w K mg base L "_law_take" ["stream", "many"] YK) (DP : Df P w K mg base L "_law_plain" ["stream", "world", "around", "kind"] (YZ 3))
    (DC : Df P w K mg base L "_law_choose" gps (spG (n + 1))) (DR : Df P w K mg base L "_law_part" gps (spG (n + 1))) (DL : Df P w K mg base L "_law_let" gps (spG (n + 1))) (DA : Df P w K mg base L "_law_ask" gps (spG (n + 1))) (DB : Df P w K mg base L "_law_body" gps (spG n)) :
    FnOk P w K mg base CX0 (L + 1) f fd gps (spG (n + 1)) := by
  obtain ⟨gt, td', mT, kT, bT, GT⟩ := DT
  obtain ⟨gp, pd', mP, kP, bP, GP⟩ := DP
  obtain ⟨gc, cd', mC, kC, bC, GC⟩ := DC
  obtain ⟨gr, rd', mR, kR, bR, GR⟩ := DR
  obtain ⟨gl, ld', mL, kL, bL, GL⟩ := DL
  obtain ⟨ga, ad', mA, kA, bA, GA⟩ := DA
  obtain ⟨gb, bd', mB, kB, bB, GB'⟩ := DB
  refine F.ok scBody (fun vs H Q E h => ?_) (fun cdv A outer s H vs Q E hr h => ?_)
  · obtain ⟨p, w, a, lA, y, ks, c, d, m, rfl, _⟩ := h
    rfl
  obtain ⟨p, wA, a, lA, y, ks, c, d, m, rfl, hs, hw, ha, hm, kk, k6, hy, q⟩ := h
  have hu := Vb hr
  refine ⟨_, ZG (Yu hu (pv 1) ZX (Zc Yi (Zg hu (pv 1) ZX (fun _ _ => rfl)) ZH) rfl)
    (ZG (Zt (PW.pt (V9 (ZY YA (pv 4) ZH (Zd _)) (Vt (ZY op_lt (Zg hu (pv 1) ZX (fun _ _ => rfl)) ZH (Zd _))))) (ZL (ZW (ZK GP hr rfl mP kP bP .nil ZU (ZA (pv 0) (ZA (pv 1) (ZA (pv 2) (ZA (pv 3) ZF))))))) Zb)
    (ZG (ZT (i := 5) scBody.nd rfl (Or.inl rfl) (ZK GT hr rfl mT kT bT .nil ZU (ZA (pv 0) (ZA ZH ZF))))
    (ZG (Zt (ZY YA (pv 5) ZH (Zd _)) (ZL (ZW (ZK GP hr rfl mP kP bP .nil ZU (ZA (pv 0) (ZA (pv 1) (ZA (pv 2) (ZA (pv 3) ZF))))))) Zb)
    (ZG (Zt (ZY op_lt (pv 5) ZH (Zd _)) (ZL (ZW (ZK GC hr rfl mC kC bC .nil ZU (ZA (pv 0) (ZA (pv 1) (ZA (pv 2) (ZA (pv 3) (ZA (pv 4) ZF)))))))) Zb)
    (ZG (Zt (ZY op_lt (pv 5) ZH (Zd _)) (ZL (ZW (ZK GR hr rfl mR kR bR .nil ZU (ZA (pv 0) (ZA (pv 1) (ZA (pv 2) (ZA (pv 3) (ZA (pv 4) ZF)))))))) Zb)
    (ZG (Zt (ZY YA (pv 5) ZH (Zd _)) (ZL (ZW (ZK GL hr rfl mL kL bL .nil ZU (ZA (pv 0) (ZA (pv 1) (ZA (pv 2) (ZA (pv 3) (ZA (pv 4) ZF)))))))) Zb)
    (ZG (ZT (i := 6) scBody.nd rfl (Or.inl rfl) (Zg hu (Zg hu (pv 1) ZX (fun _ _ => rfl)) (pv 3) (fun _ _ => rfl)))
    (ZG (Zt (PW.pt (Vu (ZY YA (ZV Ze (pv 6) ZH (fun _ _ => rfl)) ZX (Zd _)) (VM (ZY YA (pv 5) ZH (Zd _)))))
      (ZG (ZT (i := 7) scBody.nd rfl (Or.inl rfl) (ZK GB' hr rfl mB kB bB .nil ZU (ZA (pv 0) (ZA (pv 1) (ZA (pv 2) (ZA (ZV Ze (pv 6) ZH (fun _ _ => rfl)) (ZA (Zc Yi (pv 4) ZH) ZF)))))))
      (ZL (ZW (Zn (ZA ZX (ZA (pv 7) (ZA (ZK GB' hr rfl mB kB bB .nil ZU (ZA (pv 0) (ZA (pv 1) (ZA (pv 2) (ZA (ZV Ze (pv 6) ZH (fun _ _ => rfl)) (ZA (Zc Yi (pv 4) ZH) ZF)))))) ZF))))))) Zb)
    (ZL (ZW (ZK GA hr rfl mA kA bA .nil ZU (ZA (pv 0) (ZA (pv 1) (ZA (pv 2) (ZA (pv 3) (ZA (pv 4) ZF)))))))))))))))), ?_⟩
  dsimp only [Y9, Cx.nox, Cx.wish]
  obtain ⟨sA, hA, ls, nn, hW, hS, hH, hL, l3⟩ := id hw
  have en : (((n + 1 : Nat) : Int) - 1) = ((n : Nat) : Int) := by omega
  have dy := kk.small hy
  refine ⟨_, rfl, wA, _, rfl, Wr.left hW, _, _, rfl, rfl, _, rfl, wA, _, rfl, JU.k (k := Sum.inr "left") hW (ZP (by show 4 <= 1000; decide)), ?_⟩
  rw [wr_put4]
  have wr1 : Wr (upd H wA (wrD sA hA lA (nn - 1))) wA ks lA := hw.set hW (nn - 1) hL l3
  have gb1 : GB p wA H (upd H wA (wrD sA hA lA (nn - 1))) := gb_w
  have st1 : Zu (upd H wA (wrD sA hA lA (nn - 1))) p := hs.keep (ZJ (Ne.symm (hw.ne hs)))
  have hW1 : upd H wA (wrD sA hA lA (nn - 1)) wA = some (wrD sA hA lA (nn - 1)) := ZD
  show Jf _ _ _ _ (upd H wA (wrD sA hA lA (nn - 1)))
  generalize upd H wA (wrD sA hA lA (nn - 1)) = H1 at wr1 gb1 st1 hW1 ⊢
  have af1 := ha.gb gb1 hs hw
  refine ⟨_, rfl, rfl, _, rfl, Zo (fun z => by have := of_decide_eq_true z; injection this; omega) ?_⟩
  refine ⟨_, rfl, wA, _, rfl, Wr.left hW1, _, _, rfl, rfl, _, rfl, ?_⟩
  refine YI (fun c0 => ?_) (fun c0 => ?_)
  · exact ⟨_, rfl, _, rfl, _, rfl, _, rfl, p, wA, a, lA, y, ks, c, d, rfl, st1, wr1, af1.mono (Same.refl _) (by omega), kk, hy, by omega, (q.go gb1 (.inl rfl)).le (by omega)⟩
  refine ⟨_, rfl, p, 12, rfl, st1, by decide, by decide, fun r H2 r0 r1 b2 s2 => ?_⟩
  have gb2 : GB p wA H1 H2 := b2.sb.gb
  have wr2 := wr1.sb b2.sb st1
  have af2 := af1.gb gb2 st1 wr1
  have q2 := q.go (gb1.trans gb2) (.inl rfl)
  refine ⟨_, rfl, rfl, _, rfl, ?_⟩
  refine YI (fun c1 => ?_) (fun c1 => ?_)
  · exact ⟨_, rfl, _, rfl, _, rfl, _, rfl, p, wA, a, lA, y, ks, c, d, rfl, s2, wr2, af2.mono (Same.refl _) (by omega), kk, hy, by omega, q2.le (by omega)⟩
  refine ⟨_, rfl, _, _, rfl, rfl, _, rfl, ?_⟩
  refine YI (fun c2 => ?_) (fun c2 => ?_)
  · exact ⟨_, rfl, _, rfl, _, rfl, _, rfl, _, rfl, p, wA, a, lA, y, ks, c, d, m, rfl, s2, wr2, af2, hm, kk, k6, hy, q2⟩
  refine ⟨_, rfl, _, _, rfl, rfl, _, rfl, ?_⟩
  refine YI (fun c3 => ?_) (fun c3 => ?_)
  · exact ⟨_, rfl, _, rfl, _, rfl, _, rfl, _, rfl, p, wA, a, lA, y, ks, c, d, m, rfl, s2, wr2, af2, hm, kk, k6, hy, q2⟩
  refine ⟨_, rfl, rfl, _, rfl, ?_⟩
  refine YI (fun c4 => ?_) (fun c4 => ?_)
  · exact ⟨_, rfl, _, rfl, _, rfl, _, rfl, _, rfl, p, wA, a, lA, y, ks, c, d, m, rfl, s2, wr2, af2, hm, kk, k6, hy, q2⟩
  have ask : spG (n + 1) [.ref p, .ref wA, .ref a, .str y, .int ((n + 1 : Nat) : Int)] H2 Q E0 := ⟨p, wA, a, lA, y, ks, c, d, m, rfl, s2, wr2, af2, hm, kk, k6, hy, q2⟩
  obtain ⟨sh, hsh⟩ := V6 hy
  obtain ⟨sA2, hA2, ls2, nn2, hW2, hS2, _⟩ := id wr2
  obtain ⟨o, kvs, h1, h2, h3⟩ := id hS2
  obtain ⟨v, hv, hvd⟩ := h3 y sh hsh
  have k1 := kk.at hsh
  refine ⟨_, rfl, wA, _, rfl, Wr.shapes hW2, _, rfl, sA2, v, rfl, .inl ⟨kvs, Sum.inr y, .inr ⟨o, h1⟩, rfl, hv.symm⟩, ?_⟩
  cases sh with
  | tags ts =>
    obtain ⟨ps, l, rfl, hp, hl⟩ := Vc hvd
    refine ⟨_, rfl, ps, _, 0, _, rfl, rfl, SqT.of hp, rfl, rfl, _, rfl, Zo (by decide +kernel) (Zo (by decide) ?_)⟩
    exact ⟨_, rfl, _, rfl, _, rfl, _, rfl, _, rfl, ask⟩
  | pair e g =>
    obtain ⟨t1, t2, t3, t4, t5, t6⟩ := k1
    obtain ⟨ps, rfl, hp⟩ := VP hvd
    refine ⟨_, rfl, ps, _, 0, _, rfl, rfl, SqT.of hp, rfl, rfl, _, rfl, YQ (by decide +kernel) ?_⟩
    refine ⟨_, rfl, rfl, _, rfl, ?_⟩
    refine YI (fun c5 => ?_) (fun c5 => ⟨_, rfl, _, rfl, _, rfl, _, rfl, _, rfl, ask⟩)
    refine ⟨_, rfl, _, rfl, _, rfl, _, rfl, ps, _, 1, _, rfl, rfl, SqT.of hp, rfl, _, rfl, _, _, rfl, rfl, p, wA, a, lA, e, ks, c, d, m, by dsimp only; rw [en]; rfl, s2, wr2, af2, by omega, kk, k6, t1, fun u1 H3 b1 l3' gb3 st3 wr3 ln3 hu3 ok3 dp3 => ?_⟩
    refine ⟨_, rfl, _, rfl, _, rfl, _, rfl, _, rfl, ps, _, 2, _, rfl, rfl, SqT.of (gb3.tk s2 wr2 _ _ hp), rfl, _, rfl, _, _, rfl, rfl, p, wA, a, l3', g, ks, c, d, m, by dsimp only; rw [en]; rfl, st3, wr3, af2.gb gb3 s2 wr2, by omega, kk, k6, t2, fun u2 H4 b2' l4' gb4 st4 wr4 ln4 hu4 ok4 dp4 => ?_⟩
    refine ⟨by show 3 <= sizeLine; decide, fun t ht => ?_⟩
    have s5 := ZE ht (.tup [.str "pair", u1, u2])
    refine q2 _ _ (.pair b1 b2') l4' ((gb3.trans gb4).trans s5.gb) (st4.sm s5) (wr4.mono s5) (ln3.trans ln4 gb3 st4 wr4) ?_ (by unfold Bd.ok; exact ⟨ok3, ok4⟩) (by unfold Bd.dep; omega)
    unfold Bd.dat
    exact ZZ ZD (HasL.cons Zk (HasL.cons ((Z3 (gb4.tk st3 wr3) _ (Bd.st _) hu3).mono s5) (HasL.one (hu4.mono s5))))
end
section
variable {P : Program} {w : World} {K : PySem.W.Frag} {mg : Str -> Option Value} {base : Heap}
theorem plain_zero {L : Nat} {f : Addr} {fd : FuncData} : FnOk P w K mg base CX0 L f fd ["stream", "world", "around", "kind"] (YZ 0) :=
  ⟨fun vs H Q E h => let ⟨_, _, _, _, _, _, _, _, _, _, _, _, _, _, hd, _⟩ := h; absurd hd (Nat.not_lt_zero _), fun A outer s H args us vs Q E _ _ _ _ h => let ⟨_, _, _, _, _, _, _, _, _, _, _, _, _, _, hd, _⟩ := h; absurd hd (Nat.not_lt_zero _)⟩
theorem plain_fn {f : Addr} {fd : FuncData} (B : Blt mg) (DT : ∀ n, Df P w K mg base (n + 2) "_law_take" ["stream", "many"] YK) (F : Fun K "_law_plain" "_law_plain" VU f fd) (bG : Binds K fd ["stream", "world", "around", "kind"] []) (mG : mg "_law_plain" = some (.ref f)) :
    ∀ n, FnOk P w K mg base CX0 (0 + 3 + n) f fd ["stream", "world", "around", "kind"] (YZ n)
  | 0 => plain_zero
  | n + 1 => ok_plain (L := 0) B F ((DT (1 + n)).up (by omega)) (plain_fn B DT F bG mG n) bG mG
theorem draw_fn {fP fS fC fA fR fL fB : Addr} {dP dS dC dA dR dL dB : FuncData} (B : Blt mg) (DT : ∀ n, Df P w K mg base (n + 2) "_law_take" ["stream", "many"] YK)
    (FP : Fun K "_law_plain" "_law_plain" VU fP dP) (bP : Binds K dP ["stream", "world", "around", "kind"] []) (mP : mg "_law_plain" = some (.ref fP))
    (FS : Fun K "_law_some" "_law_some" sSome fS dS) (bS : Binds K dS gps []) (mS : mg "_law_some" = some (.ref fS))
    (FC : Fun K "_law_choose" "_law_choose" VL fC dC) (bC : Binds K dC gps []) (mC : mg "_law_choose" = some (.ref fC))
    (FA : Fun K "_law_ask" "_law_ask" sAsk fA dA) (bA : Binds K dA gps []) (mA : mg "_law_ask" = some (.ref fA))
    (FR : Fun K "_law_part" "_law_part" Vs fR dR) (bR : Binds K dR gps []) (mR : mg "_law_part" = some (.ref fR))
    (FL : Fun K "_law_let" "_law_let" sLet fL dL) (bL : Binds K dL gps []) (mL : mg "_law_let" = some (.ref fL))
    (FB : Fun K "_law_body" "_law_body" JW fB dB) (bB : Binds K dB gps []) (mB : mg "_law_body" = some (.ref fB)) :
    ∀ n, Df P w K mg base (8 + 4 * n) "_law_some" gps (spG n) /\ Df P w K mg base (8 + 4 * n) "_law_body" gps (spG n) := by
  have DP : Df P w K mg base 6 "_law_plain" ["stream", "world", "around", "kind"] (YZ 3) := ⟨fP, dP, mP, FP.kp, bP, plain_fn B DT FP bP mP 3⟩
  intro n
  induction n with
  | zero =>
    have DB : Df P w K mg base 7 "_law_body" gps (spG 0) := ⟨fB, dB, mB, FB.kp, bB, ok_body0 FB DP⟩
    exact ⟨⟨fS, dS, mS, FS.kp, bS, ok_some FS (DT 5) (DP.up (by decide)) DB⟩, DB.up (by decide)⟩
  | succ n ih =>
    obtain ⟨iS, iB⟩ := ih
    have DC : Df P w K mg base (8 + 4 * n + 1) "_law_choose" gps (spG (n + 1)) := ⟨fC, dC, mC, FC.kp, bC, ok_choose B FC ((DT (6 + 4 * n)).up (by omega)) iS iB⟩
    have DA : Df P w K mg base (6 + 4 * n + 2 + 1) "_law_ask" gps (spG (n + 1)) := ⟨fA, dA, mA, FA.kp, bA, ok_ask (L := 6 + 4 * n) B FA ((DT (6 + 4 * n)).up (by omega)) (DP.up (by omega)) (iS.up (by omega))⟩
    have DR : Df P w K mg base (6 + 4 * n + 3 + 1) "_law_part" gps (spG (n + 1)) := ⟨fR, dR, mR, FR.kp, bR, ok_partL (L := 6 + 4 * n) B FR ((DT (7 + 4 * n)).up (by omega)) (DC.up (by omega)) (iB.up (by omega))⟩
    have DL : Df P w K mg base (6 + 4 * n + 3 + 1) "_law_let" gps (spG (n + 1)) := ⟨fL, dL, mL, FL.kp, bL, ok_let (L := 6 + 4 * n) B FL ((DT (7 + 4 * n)).up (by omega)) (DC.up (by omega)) (iB.up (by omega))⟩
    have DB : Df P w K mg base (10 + 4 * n + 1) "_law_body" gps (spG (n + 1)) := ⟨fB, dB, mB, FB.kp, bB, ok_body (L := 10 + 4 * n) FB ((DT (8 + 4 * n)).up (by omega)) (DP.up (by omega)) (DC.up (by omega)) (DR.up (by omega)) (DL.up (by omega)) (DA.up (by omega)) (iB.up (by omega))⟩
    exact ⟨⟨fS, dS, mS, FS.kp, bS, (ok_some (L := 11 + 4 * n) FS ((DT (9 + 4 * n)).up (by omega)) (DP.up (by omega)) (DB.up (by omega))).mono (by omega)⟩, DB.up (by omega)⟩
end
end K4
namespace L2
open PySem
def HP (H : Hp) (kvs : List (Key × V)) (ns : List Str) : Prop := ∀ kv ∈ kvs, ∃ (f : Str) (ps : List (Str × Str)) (k : Str), kv.1 = Sum.inr f /\ Has H kv.2 (hdD ps k) /\ ps.length <= 3 /\ (∀ p ∈ ps, p.2 ∈ ns) /\ k ∈ ns /\ (ps.map (·.1)).Nodup
theorem HP.tk {H H' : Hp} {kvs : List (Key × V)} {ns : List Str} (h : HP H kvs ns) (t : TK H H') : HP H' kvs ns := fun kv hk => let ⟨f, ps, k, e1, e2, e3⟩ := h kv hk; ⟨f, ps, k, e1, Z3 t _ (VO _ _) e2, e3⟩
theorem gb_tk {p q : Addr} {H H' : Hp} {u v : HO} (g : GB p q H H') (hp : H p = some u) (hq : H q = some v) (nu : ∀ xs, u ≠ .tup xs) (nv : ∀ xs, v ≠ .tup xs) : TK H H' := fun b xs h => g b _ (fun e => by rw [e, hp] at h; exact nu xs (Option.some.inj h)) (fun e => by rw [e, hq] at h; exact nv xs (Option.some.inj h)) h
theorem Zu.at {H : Hp} {p : Addr} (s : Zu H p) : ∃ xs, H p = some (.lst xs) := let ⟨_, _, _, _, h⟩ := s; ⟨_, h⟩
theorem JO {p q : Addr} {H H' : Hp} {v : HO} (g : GB p q H H') (s : Zu H p) (hq : H q = some v) (nv : ∀ xs, v ≠ .tup xs) : TK H H' := by
  obtain ⟨xs, h⟩ := s.at
  exact gb_tk g h hq (fun _ z => by cases z) nv
theorem six_at {r : Int} (h0 : 0 <= r) (h1 : r < 6) : ∃ k : Nat, k <= 3 /\ atI [V.int 0, .int 1, .int 1, .int 2, .int 2, .int 3] r = some (.int (k : Nat)) := by
  have : r = 0 ∨ r = 1 ∨ r = 2 ∨ r = 3 ∨ r = 4 ∨ r = 5 := by omega
  rcases this with rfl | rfl | rfl | rfl | rfl | rfl
  · exact ⟨0, by decide, rfl⟩
  · exact ⟨1, by decide, rfl⟩
  · exact ⟨1, by decide, rfl⟩
  · exact ⟨2, by decide, rfl⟩
  · exact ⟨2, by decide, rfl⟩
  · exact ⟨3, by decide, rfl⟩
theorem kind_at {H : Hp} {xs : List V} {ks : List (Str × Shp)} {m : Nat} {v : V} (h : HasL H xs (ks.map VF)) (e : xs[m]? = some v) : ∃ a u y, v = .ref a /\ H a = some (.tup [.str y, u]) /\ y ∈ ks.map (·.1) := by
  obtain ⟨d, hd, hv⟩ := h.get e
  rw [List.getElem?_map] at hd
  cases ek : ks[m]? with
  | none => rw [ek] at hd; cases hd
  | some k =>
    rw [ek] at hd
    cases hd
    obtain ⟨a, u, rfl, h1, h2⟩ := has_kind (y := k.1) (s := k.2) hv
    exact ⟨a, u, k.1, rfl, h1, List.mem_map.mpr ⟨k, List.mem_of_getElem? ek, rfl⟩⟩
end L2
namespace K4
open PySem L2
section
variable {P : Program} {w : World} {K : PySem.W.Frag} {mg : Str -> Option Value} {base : Heap} {f : Addr} {fd : FuncData}
theorem Ym : FnScope ["stream", "kinds", "counts", "most", "top", "names", "asks", "name", "words", "rows", "parameters", "k", "kind"] ["stream", "kinds", "counts", "most", "top"] (ZN JN) := ⟨rfl, rfl, rfl, by decide +kernel, rfl, by decide +kernel, by decide +kernel⟩
def spHeads : Sp := fun vs H Q _ => ∃ (p kl cn : Addr) (most top : Nat) (ks : List (Str × Shp)) (c d : Str -> Nat) (xs : List V), vs = [.ref p, .ref kl, .ref cn, .int most, .int top] /\ Zu H p /\ 0 < most /\ most <= 7 /\ 0 < top /\ top <= 1000 /\ kl ≠ p /\ cn ≠ p /\ H kl = some (.lst xs) /\ HasL H xs (ks.map VF) /\
  KK 30 c d ks /\ 0 < ks.length /\ ks.length <= 6 /\ Ns H cn ks c /\ ∀ (hA : Addr) (kvs : List (Key × V)) (H' : Hp), SameB p H H' -> Zu H' p -> H hA = none -> hA ≠ p -> H' hA = some (.dK kvs) -> kvs.length <= 8 -> HP H' kvs (ks.map (·.1)) -> Q (.ref hA) H'
theorem ok_heads {n : Nat} (B : Blt mg) (F : Fun K "_law_heads" "_law_heads" JN f fd) (DT : Df P w K mg base n "_law_take" ["stream", "many"] YK) (DS : Df P w K mg base n "_law_small" ["stream", "many"] V4) :
    FnOk P w K mg base CX0 (n + 1) f fd ["stream", "kinds", "counts", "most", "top"] spHeads := by
  obtain ⟨gt, td', mT, kT, bT, GT⟩ := DT
  obtain ⟨gs, sd', mS, kS, bS, GS⟩ := DS
  refine F.ok Ym (fun vs H Q E h => ?_) (fun cdv A outer s H vs Q E hr h => ?_)
  · obtain ⟨p, kl, cn, most, top, ks, c, d, xs, rfl, _⟩ := h
    rfl
  obtain ⟨p, kl, cn, most, top, ks, c, d, xs, rfl, hs, m0, m7, t0, t3, nkp, ncp, hkl, hxs, kk, k0, k6, hns, q⟩ := h
  have hu := Vb hr
  refine ⟨_, ZG (ZT (i := 5) Ym.nd rfl (Or.inl rfl) (ZK GS hr rfl mS kS bS .nil ZU (ZA (pv 0) (ZA (Zc YB ZH (ZK GT hr rfl mT kT bT .nil ZU (ZA (pv 0) (ZA (pv 3) ZF)))) ZF))))
    (ZG (ZT (i := 6) Ym.nd rfl (Or.inl rfl) pe_dnewK)
    (ZG (YS PassesOwn.never rfl (Y6 (pv 5)) (Za (i := 7) Ym.nd rfl (Or.inl rfl))
      (ZG (ZT (i := 8) Ym.nd rfl (Or.inl rfl) (ZK GS hr rfl mS kS bS .nil ZU (ZA (pv 0) (ZA ZH ZF))))
      (ZG (ZT (i := 9) Ym.nd rfl (Or.inl rfl) ZH)
      (ZG (ZT (i := 10) Ym.nd rfl (Or.inl rfl) (YF ZF))
      (ZG (YS PassesOwn.never rfl (Yw rfl B.range (ZA (ZV Zj (YF (ZA ZH (ZA ZH (ZA ZH (ZA ZH (ZA ZH (ZA ZH ZF))))))) (ZK GT hr rfl mT kT bT .nil ZU (ZA (pv 0) (ZA ZH ZF))) (fun _ _ => rfl)) ZF)) (Za (i := 11) Ym.nd rfl (Or.inl rfl))
        (ZG (ZT (i := 12) Ym.nd rfl (Or.inl rfl) (ZV Ze (ZV Zj (pv 1) (ZK GT hr rfl mT kT bT .nil ZU (ZA (pv 0) (ZA (Zi Zf rfl B.len PySem.boot_len (ZA (pv 1) ZF)) ZF))) (fun _ _ => rfl)) ZH (fun _ _ => rfl)))
        (ZL (Zt (ZY op_le (Zc YT (pv 9) (Zg hu (pv 2) (pv 12) (fun _ _ => rfl))) (pv 4) (Zd _))
          (ZG (ZT (i := 9) Ym.nd rfl (Or.inl rfl) (Zc YT (pv 9) (Zg hu (pv 2) (pv 12) (fun _ _ => rfl))))
          (ZL (Yn (VT PySem.F.plainAttrs_list PySem.F.slot_list_append PySem.F.type_list_append YW (pv 10) (ZA (Zn (ZA (ZV Zj (pv 8) (pv 11) (fun _ _ => rfl)) (ZA (pv 12) ZF))) ZF))))) Zb))))
      (ZL (Yu hu (pv 6) (pv 7) (Zn (ZA (Zs Zq rfl B.tuple Zp (ZA (pv 10) ZF)) (ZA (ZV Ze (ZV Zj (pv 1) (ZK GT hr rfl mT kT bT .nil ZU (ZA (pv 0) (ZA (Zi Zf rfl B.len PySem.boot_len (ZA (pv 1) ZF)) ZF))) (fun _ _ => rfl)) ZH (fun _ _ => rfl)) ZF))) rfl)))))))
    (ZL (ZW (pv 6))))), ?_⟩
  dsimp only [Y9, Cx.nox, Cx.wish]
  have lx := hxs.length
  rw [List.length_map] at lx
  refine ⟨_, rfl, _, rfl, _, rfl, p, most, rfl, hs, by omega, by omega, fun r H1 r0 r1 b1 s1 => ?_⟩
  obtain ⟨rn, rfl⟩ : ∃ m : Nat, r = m := ⟨r.toNat, by omega⟩
  refine ⟨_, _, rfl, rfl, p, 1 + rn, (by show [V.ref p, V.int (1 + (rn : Int))] = [V.ref p, V.int ((1 + rn : Nat) : Int)]; push_cast; rfl), s1, by omega, fun nm ys H2 b2 s2 f2 np2 hnm hly wds => ?_⟩
  intro aA haA
  have sb2 : SameB p H H2 := b1.sb.trans b2
  have s3 := ZE haA (.dK [])
  have g3 : upd H2 aA (.dK []) aA = some (.dK []) := ZD
  have nap : aA ≠ p := s2.ne haA
  have fa : H aA = none := sb2.free nap haA
  generalize upd H2 aA (.dK []) = H3 at s3 g3 ⊢
  have sb3 : SameB p H H3 := sb2.trans s3.sb
  have hnm3 := s3 _ _ hnm
  have nma : nm ≠ aA := ZO hnm haA
  have kla : kl ≠ aA := ZO hkl fa
  obtain ⟨kc, hkc, hcv⟩ := id hns
  have cna : cn ≠ aA := ZO hkc fa
  have ly : (ys.map V.str).length = ys.length := List.length_map _
  refine ⟨_, rfl, nm, rfl, ⟨_, SqL.of hnm3⟩, ?_⟩
  refine fl_list (xs := ys.map V.str) (fun i σ Hi => GB p aA H3 Hi /\ Zu Hi p /\ ∃ kvs, Hi aA = some (.dK kvs) /\ kvs.length <= i /\ HP Hi kvs (ks.map fun k : Str × Shp => k.1) /\ ∃ z7 z8 z9 z10 z11 z12, σ = [some (.ref p), some (.ref kl), some (.ref cn), some (.int most), some (.int top), some (.ref nm), some (.ref aA), z7, z8, z9, z10, z11, z12])
    ⟨GB.refl _ _ _, s2.sm s3, [], g3, Nat.le_refl _, (fun kv hk => nomatch hk), _, _, _, _, _, _, rfl⟩ (fun i σ Hi _ z => SqL.of (z.1 _ _ np2 nma hnm3)) ?_ ?_
  · rintro BB RR i x σ Hi hx ⟨gi, si, kvs, hai, lki, hpi, z7, z8, z9, z10, z11, z12, rfl⟩
    obtain ⟨name, hname, rfl⟩ := Vo hx
    have ilt : i < 8 := by have := (List.getElem?_eq_some_iff.mp hx).1; omega
    refine ⟨_, rfl, p, 3, rfl, si, by decide, fun wl wy H4 b4 s4 f4 np4 hwl lwy wdy => ?_⟩
    refine ⟨by show 0 <= sizeLine; decide, fun pl hpl => ?_⟩
    have s5 := ZE hpl (.lst [])
    have g5 : upd H4 pl (.lst []) pl = some (.lst []) := ZD
    have npp : pl ≠ p := s4.ne hpl
    have ha4 := b4 _ _ nap hai
    have npa : pl ≠ aA := (ZO ha4 hpl).symm
    have nwl : wl ≠ pl := ZO hwl hpl
    have kl4 := b4 _ _ nkp (gi _ _ nkp kla (sb3 _ _ nkp hkl))
    have cn4 := b4 _ _ ncp (gi _ _ ncp cna (sb3 _ _ ncp hkc))
    have nklp : kl ≠ pl := ZO kl4 hpl
    have ncnp : cn ≠ pl := ZO cn4 hpl
    generalize upd H4 pl (.lst []) = H5 at s5 g5 ⊢
    refine ⟨by show 6 <= sizeLine; decide, fun sx hsx => ?_⟩
    have s6 := ZE hsx (.lst [.int 0, .int 1, .int 1, .int 2, .int 2, .int 3])
    have g6 : upd H5 sx (.lst [.int 0, .int 1, .int 1, .int 2, .int 2, .int 3]) sx = some (.lst [.int 0, .int 1, .int 1, .int 2, .int 2, .int 3]) := ZD
    have nsp : sx ≠ p := (s4.sm s5).ne hsx
    generalize upd H5 sx (.lst [.int 0, .int 1, .int 1, .int 2, .int 2, .int 3]) = H6 at s6 g6 ⊢
    refine ⟨_, rfl, p, 6, rfl, (s4.sm s5).sm s6, by decide, by decide, fun r7 H7 r70 r71 b7 s7 => ?_⟩
    obtain ⟨kN, hkN, hat⟩ := six_at r70 r71
    refine ⟨sx, _, r7, _, rfl, rfl, SqL.of (b7.sb _ _ nsp g6), hat, _, rfl, by omega, by omega, ?_⟩
    have s47 : SameB p H4 H7 := (s5.sb.trans s6.sb).trans b7.sb
    have pl7 := b7.sb _ _ npp (s6 _ _ g5)
    have wl7 := s47 _ _ np4 hwl
    have kl7 := s47 _ _ nkp kl4
    have cn7 := s47 _ _ ncp cn4
    have sb7 : GB p aA H3 H7 := (gi.trans b4.gb).trans s47.gb
    have hx7 : HasL H7 xs (ks.map VF) := by
      refine Z5 (fun b zs h => ?_) _ (YX ks) hxs
      have h3 := sb3 b _ (Zw hs h) h
      exact sb7 b _ (Zw hs h) (fun e => by rw [e, fa] at h; cases h) h3
    refine Vd (n := ((kN : Nat) : Int).toNat) (fun j σ Hj => GB p pl H7 Hj /\ Zu Hj p /\ ∃ (zs : List V) (ps : List (Str × Str)) (rw' : Nat), Hj pl = some (.lst zs) /\ zs.length = ps.length /\ ps.length <= j /\ HasL Hj zs (ps.map fun p => .tup [.str p.1, .str p.2]) /\ (∀ p ∈ ps, p.2 ∈ ks.map fun k : Str × Shp => k.1) /\ (ps.map fun p : Str × Str => p.1).Sublist (wy.take j) /\ rw' <= 1000 /\ ∃ z11 z12,
      σ = [some (.ref p), some (.ref kl), some (.ref cn), some (.int most), some (.int top), some (.ref nm), some (.ref aA), some (.str name), some (.ref wl), some (.int (rw' : Nat)), some (.ref pl), z11, z12]) ⟨GB.refl _ _ _, s7, [], [], 1, pl7, rfl, Nat.le_refl _, HasL.nil, (fun p hp => nomatch hp), List.nil_sublist _, by decide, _, _, rfl⟩ ?_ ?_
    · rintro BB RR j σ Hj hj ⟨gj, sj, zs, ps, rw', hplj, lz, lp, hzs, hpn, hsub, hrw, z11, z12, rfl⟩
      have hj3 : j < 3 := by omega
      have klj := gj _ _ nkp nklp kl7
      have tkj : TK H7 Hj := JO gj s7 pl7 (fun _ z => by cases z)
      refine ⟨_, rfl, _, rfl, _, rfl, kl, _, rfl, .inl (SqL.of klj), p, _, rfl, sj, by omega, by omega, fun r8 H8 r80 r81 b8 s8 => ?_⟩
      obtain ⟨m8, v8, hv1, hv2⟩ := VS r80 r81
      obtain ⟨ka, ku, y, rfl, hka, hy⟩ := kind_at (Z5 tkj _ (YX ks) hx7) hv1
      have kc := (kk.small hy).2
      have cyv := hcv y hy
      have gb8 : GB p pl Hj H8 := b8.sb.gb
      refine ⟨kl, _, r8, _, rfl, rfl, SqL.of (b8.sb _ _ nkp klj), hv2, ka, _, 0, _, rfl, rfl, SqT.of (b8.sb _ _ (Zw sj hka) hka), rfl, ?_⟩
      have cn8 := b8.sb _ _ ncp (gj _ _ ncp ncnp cn7)
      have dg : YY H8 cn (.str y) (some (.int (c y : Nat))) := by rw [<- cyv]; exact YY.k (k := Sum.inr y) cn8
      have mul : ((rw' : Nat) : Int) * ((c y : Nat) : Int) = ((rw' * c y : Nat) : Int) := by push_cast; rfl
      have mle : rw' * c y <= 1000 * 30 := Nat.mul_le_mul hrw kc
      refine ⟨_, rfl, _, rfl, _, rfl, cn, _, rfl, dg, _, _, rfl, rfl, .inl ⟨by omega, by omega⟩, _, rfl, _, _, rfl, rfl, _, rfl, ?_⟩
      have pl8 := b8.sb _ _ npp hplj
      refine YI (fun c1 => ?_) (fun c1 => ?_)
      · have c1' : ((rw' : Nat) : Int) * ((c y : Nat) : Int) <= (top : Int) := of_decide_eq_true c1
        rw [mul] at c1'
        refine ⟨_, rfl, _, rfl, _, rfl, cn, _, rfl, dg, _, _, rfl, rfl, .inl ⟨by omega, by omega⟩, ?_⟩
        have wl8 := b8.sb _ _ np4 (gj _ _ np4 nwl wl7)
        have hjw : j < wy.length := by omega
        have aw : atI (wy.map V.str) ((0 : Int) + (j : Int)) = some (.str wy[j]) := by
          rw [Int.zero_add]
          exact ZQ (by rw [List.getElem?_map, List.getElem?_eq_getElem hjw]; rfl)
        refine ⟨_, rfl, .inl ⟨rfl, _, SqL.of pl8⟩, _, rfl, _, rfl, wl, _, _, _, rfl, rfl, SqL.of wl8, aw, _, rfl, by show 2 <= sizeLine; decide, fun t9 ht9 => ?_⟩
        have s9 := ZE ht9 (.tup [.str wy[j], .str y])
        have g9 : upd H8 t9 (.tup [.str wy[j], .str y]) t9 = some (.tup [.str wy[j], .str y]) := ZD
        generalize upd H8 t9 (.tup [.str wy[j], .str y]) = H9 at s9 g9 ⊢
        have pl9 := s9 _ _ pl8
        refine ⟨pl, zs, _, rfl, rfl, pl9, ZP (by omega), ?_⟩
        have gbw : GB p pl H9 (upd H9 pl (.lst (zs ++ [.ref t9]))) := gb_w
        have tk9 : TK H9 (upd H9 pl (.lst (zs ++ [.ref t9]))) := JO gbw (s8.sm s9) pl9 (fun _ z => by cases z)
        have tkA : TK Hj (upd H9 pl (.lst (zs ++ [.ref t9]))) := fun b us h => tk9 _ _ (s9 _ _ (b8.sb _ _ (Zw sj h) h))
        refine ⟨((gj.trans gb8).trans s9.gb).trans gbw, (s8.sm s9).keep (ZJ (Ne.symm npp)), zs ++ [.ref t9], ps ++ [(wy[j], y)], rw' * c y, ZD, by simp [lz], by simp; omega, ?_, fun pr hpr => ?_, ?_, by omega, _, _, by rw [<- mul]; rfl⟩
        · rw [List.map_append]
          refine HasL.append (Z5 tkA _ ?_ hzs) (HasL.one (Jm (tk9 _ _ g9)))
          have := VO ps ""
          unfold hdD Dat.st Dat.sts at this
          rw [Bool.and_eq_true] at this
          have t1 := this.1
          unfold Dat.st at t1
          exact t1
        · rcases List.mem_append.mp hpr with z | z
          · exact hpn pr z
          · cases List.mem_singleton.mp z
            exact hy
        · rw [List.map_append, show wy.take (j + 1) = wy.take j ++ [wy[j]] from take_snoc (List.getElem?_eq_getElem hjw)]
          exact List.Sublist.append hsub (List.Sublist.refl _)
      · refine ⟨gj.trans gb8, s8, zs, ps, rw', pl8, lz, by omega, Z5 (fun b us h => b8.sb _ _ (Zw sj h) h) _ ?_ hzs, hpn, hsub.trans (List.take_sublist_take_left (by omega)), hrw, _, _, rfl⟩
        have := VO ps ""
        unfold hdD Dat.st Dat.sts at this
        rw [Bool.and_eq_true] at this
        have t1 := this.1
        unfold Dat.st at t1
        exact t1
    · rintro σ Hj ⟨gj, sj, zs, ps, rw', hplj, lz, lp, hzs, hpn, hsub, hrw, z11, z12, rfl⟩
      have lp3 : ps.length <= 3 := by omega
      refine ⟨_, rfl, pl, zs, rfl, .inl ⟨SqL.of hplj, fun t8 ht8 => ?_⟩⟩
      have s8 := ZE ht8 (.tup zs)
      have g8 : upd Hj t8 (.tup zs) t8 = some (.tup zs) := ZD
      generalize upd Hj t8 (.tup zs) = H8 at s8 g8 ⊢
      have kl8 := s8 _ _ (gj _ _ nkp nklp kl7)
      have tk8 : TK H7 H8 := fun b us h => s8 _ _ (JO gj s7 pl7 (fun _ z => by cases z) _ _ h)
      refine ⟨_, rfl, _, rfl, _, rfl, kl, _, rfl, .inl (SqL.of kl8), p, _, rfl, sj.sm s8, by omega, by omega, fun r9 H9 r90 r91 b9 s9 => ?_⟩
      obtain ⟨m9, v9, hv1, hv2⟩ := VS r90 r91
      obtain ⟨ka, ku, y, rfl, hka, hy⟩ := kind_at (Z5 tk8 _ (YX ks) hx7) hv1
      have tk9 : TK H8 H9 := fun b us h => b9.sb _ _ (Zw (sj.sm s8) h) h
      refine ⟨kl, _, r9, _, rfl, rfl, SqL.of (b9.sb _ _ nkp kl8), hv2, ka, _, 0, _, rfl, rfl, SqT.of (tk9 _ _ hka), rfl, by show 2 <= sizeLine; decide, fun tA htA => ?_⟩
      have sA := ZE htA (.tup [.ref t8, .str y])
      have gA : upd H9 tA (.tup [.ref t8, .str y]) tA = some (.tup [.ref t8, .str y]) := ZD
      generalize upd H9 tA (.tup [.ref t8, .str y]) = HA at sA gA ⊢
      have gAll : GB p pl H7 HA := ((gj.trans s8.gb).trans b9.sb.gb).trans sA.gb
      have aA7 := s47 _ _ nap ha4
      have aAA := gAll _ _ nap (Ne.symm npa) aA7
      refine ⟨_, rfl, _, rfl, aA, _, rfl, JU.k (k := Sum.inr name) aAA (ZP (by omega)), ?_⟩
      have gbw : GB p aA HA (upd HA aA (.dK (putK kvs (Sum.inr name) (.ref tA)))) := gb_w
      have stA : Zu HA p := s9.sm sA
      have tkW : TK HA (upd HA aA (.dK (putK kvs (Sum.inr name) (.ref tA)))) := JO gbw stA aAA (fun _ z => by cases z)
      have frH : ∀ b o, b ≠ p -> b ≠ aA -> H3 b = some o -> HA b = some o := fun b o n1 n2 e => by
        have e4 := b4 b o n1 (gi b o n1 n2 e)
        exact gAll b o n1 (ZO e4 hpl) (s47 b o n1 e4)
      have tkI : TK Hi HA := fun b us h => by
        have e4 := b4 b _ (Zw si h) h
        exact gAll b _ (Zw si h) (ZO e4 hpl) (s47 b _ (Zw si h) e4)
      refine ⟨fun b o n1 n2 e => gbw b o n1 n2 (frH b o n1 n2 e), stA.keep (ZJ (Ne.symm nap)), putK kvs (Sum.inr name) (.ref tA), ZD, by have := putK_len kvs (Sum.inr name) (.ref tA); omega, fun kv hk => ?_, _, _, _, _, _, _, rfl⟩
      rcases putK_mem hk with z | z
      · exact (hpi.tk (fun b us h => tkW _ _ (tkI _ _ h))) kv z
      · subst z
        refine ⟨name, ps, y, rfl, ?_, lp3, hpn, hy, (wdy.nd.sublist (List.take_sublist _ _)).sublist hsub⟩
        unfold hdD
        refine ZZ (tkW _ _ gA) (HasL.cons (ZZ (tkW _ _ (sA _ _ (tk9 _ _ g8))) ?_) (HasL.one Zk))
        have := VO ps ""
        unfold hdD Dat.st Dat.sts at this
        rw [Bool.and_eq_true] at this
        have t1 := this.1
        unfold Dat.st at t1
        exact Z5 (fun b us h => tkW _ _ (sA _ _ (tk9 _ _ (s8 _ _ h)))) _ t1 hzs
  · rintro σ Hi ⟨gi, si, kvs, hai, lki, hpi, z7, z8, z9, z10, z11, z12, rfl⟩
    refine ⟨_, rfl, q aA kvs Hi (fun b o n1 e => gi b o n1 (ZO e fa) (sb3 b o n1 e)) si fa nap hai (by omega) hpi⟩
end
end K4
namespace L2
open PySem
theorem ps_prs {K : PySem.W.Frag} {H : Hp} : ∀ {ps : List (Str × Str)} {xs : List V}, HasL H xs (ps.map fun p => .tup [.str p.1, .str p.2]) -> ∃ (ts : List Addr), xs = ts.map V.ref /\ PrsAt K H ts (ps.map fun p => ((Sum.inr p.1 : Key), V.str p.2))
  | [], xs, h => by
    obtain rfl := YD h
    exact ⟨[], rfl, rfl, fun i a k y e => by simp at e⟩
  | q :: ps, xs, h => by
    rw [List.map_cons] at h
    obtain ⟨x, r, rfl, h1, h2⟩ := ZM h
    obtain ⟨t, rfl, ht⟩ := has_two h1
    obtain ⟨ts, rfl, tl, tp⟩ := ps_prs (K := K) h2
    refine ⟨t :: ts, rfl, by simp [tl], fun i b k y e1 e2 => ?_⟩
    cases i with
    | zero =>
      have e1' : some t = some b := e1
      have e2' : some ((Sum.inr q.1 : Key), V.str q.2) = some (k, y) := e2
      cases e1'; cases e2'
      exact SqT.of ht
    | succ i => exact tp i b k y e1 e2
def DefOk (H : Hp) (z : V) : Prop := ∃ (t : Addr) (u1 u2 u3 v : V) (b : Bd), z = .ref t /\ H t = some (.tup [u1, u2, u3, v]) /\ Has H v b.dat /\ b.ok /\ b.dep <= 11 /\ b.size <= 40
theorem DefOk.tk {H H' : Hp} {z : V} (d : DefOk H z) (t : TK H H') : DefOk H' z := let ⟨a, u1, u2, u3, v, b, e, h1, h2, h3⟩ := d; ⟨a, u1, u2, u3, v, b, e, t _ _ h1, Z3 t _ (Bd.st _) h2, h3⟩
theorem Zu.tkB {p : Addr} {H H' : Hp} (s : Zu H p) (b : SameB p H H') : TK H H' := fun c xs h => b c _ (Zw s h) h
theorem two_at {r : Int} (h0 : 0 <= r) (h1 : r < 2) : ∃ k : Nat, k <= 2 /\ atI [V.int 0, .int 2] r = some (.int (k : Nat)) := by
  have : r = 0 ∨ r = 1 := by omega
  rcases this with rfl | rfl
  · exact ⟨0, by decide, rfl⟩
  · exact ⟨2, by decide, rfl⟩
end L2
namespace K4
open PySem L2
section
variable {P : Program} {w : World} {K : PySem.W.Frag} {mg : Str -> Option Value} {base : Heap} {f : Addr} {fd : FuncData}
theorem boot_min' : bootBuiltins "min" = some (.builtin "min") := by decide +kernel
theorem Yr : FnScope ["cell", "most", "many", "top", "left", "stream", "kinds", "counts", "asks", "lets", "definitions", "f", "around", "world", "body"] ["cell", "most", "many", "top", "left"] (ZN sBook) := ⟨rfl, rfl, rfl, by decide +kernel, rfl, by decide +kernel, by decide +kernel⟩
def spBook : Sp := fun vs H Q _ => ∃ (cell : Int) (most many top : Nat) (left : Int), vs = [.int cell, .int most, .int many, .int top, .int left] /\ 0 < most /\ most <= 6 /\ 0 < many /\ many <= 7 /\ 30 <= top /\ top <= 1000 /\
  ∀ (r kl dl : Addr) (zs : List V) (H' : Hp), Same H H' -> H' r = some (.tup [.ref kl, .ref dl]) -> H' dl = some (.lst zs) -> zs.length <= 8 -> (∀ z ∈ zs, DefOk H' z) -> Q (.ref r) H'
theorem ok_book {n : Nat} (B : Blt mg) (mm : mg "min" = none) (F : Fun K "_law_book" "_law_book" sBook f fd) (DM : Df P w K mg base n "_law_stream" ["cell"] spStream) (DT : Df P w K mg base n "_law_take" ["stream", "many"] YK) (DS : Df P w K mg base n "_law_small" ["stream", "many"] V4)
    (DK : Df P w K mg base n "_law_kinds" ["stream", "most", "top"] spKinds) (DH : Df P w K mg base n "_law_heads" ["stream", "kinds", "counts", "most", "top"] spHeads) (DB : Df P w K mg base n "_law_body" gps (spG 9)) (DP : Df P w K mg base n "_law_plain" ["stream", "world", "around", "kind"] (YZ 3)) (DZ : Df P w K mg base n "_law_size" ["body"] (Vp 12)) :
    FnOk P w K mg base CX0 (n + 1) f fd ["cell", "most", "many", "top", "left"] spBook := by
  obtain ⟨gm, md', mM, kM, bM, GM⟩ := DM
  obtain ⟨gt, td', mT, kT, bT, GT⟩ := DT
  obtain ⟨gs, sd', mS, kS, bS, GS⟩ := DS
  obtain ⟨gk, kd', mK, kK, bK, GK⟩ := DK
  obtain ⟨gh, hd', mH, kH, bH, GH⟩ := DH
  obtain ⟨gb, bd', mB, kB, bB, GB'⟩ := DB
  obtain ⟨gp, pd', mP, kP, bP, GP⟩ := DP
  obtain ⟨gz, zd', mZ, kZ, bZ, GZ⟩ := DZ
  refine F.ok Yr (fun vs H Q E h => ?_) (fun cdv A outer s H vs Q E hr h => ?_)
  · obtain ⟨cell, most, many, top, left, rfl, _⟩ := h
    rfl
  obtain ⟨cell, most, many, top, left, rfl, m0, m6, n0, n7, t0, t3, q⟩ := h
  have hu := Vb hr
  refine ⟨_, ZG (ZT (i := 5) Yr.nd rfl (Or.inl rfl) (ZK GM hr rfl mM kM bM .nil ZU (ZA (pv 0) ZF)))
    (ZG (Y8 (ZK GK hr rfl mK kK bK .nil ZU (ZA (pv 5) (ZA (pv 1) (ZA (Zi (call_min2 rfl) rfl mm boot_min' (ZA (pv 3) (ZA ZH ZF))) ZF)))) (Y0 (n := 2) rfl (Zr (Za (i := 6) Yr.nd rfl (Or.inl rfl)) (Zr (Za (i := 7) Yr.nd rfl (Or.inl rfl)) Yc))))
    (ZG (ps_frz (ZT (i := 8) Yr.nd rfl (Or.inl rfl) (ZK GH hr rfl mH kH bH .nil ZU (ZA (pv 5) (ZA (pv 6) (ZA (pv 7) (ZA (pv 2) (ZA (pv 3) ZF))))))))
    (ZG (ZT (i := 9) Yr.nd rfl (Or.inl rfl) (ZK GS hr rfl mS kS bS .nil ZU (ZA (pv 5) (ZA ZH ZF))))
    (ZG (Y8 (ZV Zj (pv 9) (ZV Zj (YF (ZA ZH (ZA ZH ZF))) (ZK GT hr rfl mT kT bT .nil ZU (ZA (pv 5) (ZA ZH ZF))) (fun _ _ => rfl)) (fun _ _ => rfl)) (Vv (pv 9) ZH set_list))
    (ZG (ZT (i := 10) Yr.nd rfl (Or.inl rfl) (YF ZF))
    (ZG (YS PassesOwn.never rfl (VY (pv 8)) (Za (i := 11) Yr.nd rfl (Or.inl rfl))
      (ZG (ps_frz (ZT (i := 12) Yr.nd rfl (Or.inl rfl) (Zs (JR rfl) rfl B.dict Vz (ZA (ZV Ze (Zg hu (pv 8) (pv 11) (fun _ _ => rfl)) ZH (fun _ _ => rfl)) ZF))))
      (ZG (ps_frz (ZT (i := 13) Yr.nd rfl (Or.inl rfl) (pe_disp (JA ZX (Zs (r := rDictP K) (call_dictP rfl) rfl B.dict Vz (ZA (pv 6) ZF)) (JA ZX (pv 8) (JA ZX (pv 9) (JA ZX (pv 4) pps_nil)))) rfl rfl (by simp) (by decide))))
      (ZG (ZT (i := 14) Yr.nd rfl (Or.inl rfl) (ZK GB' hr rfl mB kB bB .nil ZU (ZA (pv 5) (ZA (pv 13) (ZA (pv 12) (ZA (ZV Ze (Zg hu (pv 8) (pv 11) (fun _ _ => rfl)) ZH (fun _ _ => rfl)) (ZA ZH ZF)))))))
      (ZG (Zt (ZY JZ (ZK GZ hr rfl mZ kZ bZ .nil ZU (ZA (pv 14) ZF)) ZH (Zd _))
        (ZL (ZT (i := 14) Yr.nd rfl (Or.inl rfl) (ZK GP hr rfl mP kP bP .nil ZU (ZA (pv 5) (ZA (pv 13) (ZA (pv 12) (ZA (ZV Ze (Zg hu (pv 8) (pv 11) (fun _ _ => rfl)) ZH (fun _ _ => rfl)) ZF))))))) Zb)
      (ZL (Yn (VT PySem.F.plainAttrs_list PySem.F.slot_list_append PySem.F.type_list_append YW (pv 10) (ZA (Zn (ZA (pv 11) (ZA (ZV Ze (Zg hu (pv 8) (pv 11) (fun _ _ => rfl)) ZH (fun _ _ => rfl)) (ZA (ZV Ze (Zg hu (pv 8) (pv 11) (fun _ _ => rfl)) ZH (fun _ _ => rfl)) (ZA (pv 14) ZF))))) ZF)))))))))
    (ZL (ZW (Zn (ZA (pv 6) (ZA (pv 10) ZF))))))))))), ?_⟩
  dsimp only [Y9, Cx.nox, Cx.wish]
  have emin : (if (30 : Int) < (top : Int) then (30 : Int) else (top : Int)) = ((30 : Nat) : Int) := by split <;> omega
  refine ⟨_, rfl, cell, rfl, fun p H1 fp b1 s1 => ?_⟩
  refine ⟨_, rfl, _, rfl, _, rfl, _, _, rfl, p, most, 30, by rw [emin]; rfl, s1, m0, m6, by decide, fun r2 kl cn ks c d xs H2 b2 s2 f2 nr2 hr2 fkl nkp hkl hxs kk nd k0 k6 kg fcn ncp hns => ?_⟩
  refine ⟨r2, _, rfl, SqT.of hr2, rfl, _, _, rfl, _, _, rfl, rfl, ?_⟩
  refine ⟨_, rfl, _, rfl, _, rfl, _, rfl, _, rfl, p, kl, cn, many, top, ks, c, d, xs, rfl, s2, n0, n7, by omega, t3, nkp, ncp, hkl, hxs, kk, k0, k6, hns, fun hA kvs H3 b3 s3 fhA nhp hhA lkv hp => ?_⟩
  refine ⟨hA, kvs, hhA, fun oH => ?_⟩
  have b4 : SameB p H2 (upd H3 hA (.frz oH (.dK kvs))) := fun b o n e => by rw [ZJ (ZO e fhA)]; exact b3 b o n e
  have g4 : upd H3 hA (.frz oH (.dK kvs)) hA = some (.frz oH (.dK kvs)) := ZD
  have st4 : Zu (upd H3 hA (.frz oH (.dK kvs))) p := s3.keep (ZJ (Ne.symm nhp))
  have tk4 : TK H3 (upd H3 hA (.frz oH (.dK kvs))) := fun b us h => by rw [ZJ (fun e => by rw [e, hhA] at h; cases h)]; exact h
  have hp4 := hp.tk tk4
  generalize upd H3 hA (.frz oH (.dK kvs)) = H4 at b4 g4 st4 hp4 ⊢
  refine ⟨_, rfl, p, 3, rfl, st4, by decide, fun lA ly H5 b5 s5 flA nlp hlA lly wdl => ?_⟩
  refine ⟨_, rfl, by show 2 <= sizeLine; decide, fun sx hsx => ?_⟩
  have s6 := ZE hsx (.lst [.int 0, .int 2])
  have g6 : upd H5 sx (.lst [.int 0, .int 2]) sx = some (.lst [.int 0, .int 2]) := ZD
  have nsp : sx ≠ p := s5.ne hsx
  generalize upd H5 sx (.lst [.int 0, .int 2]) = H6 at s6 g6 ⊢
  refine ⟨_, rfl, p, 2, rfl, s5.sm s6, by decide, by decide, fun r7 H7 r70 r71 b7 s7 => ?_⟩
  obtain ⟨kN, hkN, hat⟩ := two_at r70 r71
  have lA7 : H7 lA = some (.lst (ly.map V.str)) := b7.sb _ _ nlp (s6 _ _ hlA)
  have kl3 : kN < ly.length := by omega
  have lml : (ly.map V.str).length = ly.length := List.length_map _
  have aw : atI (ly.map V.str) ((kN : Nat) : Int) = some (.str ly[kN]) := ZQ (by rw [List.getElem?_map, List.getElem?_eq_getElem kl3]; rfl)
  have ix2 : ixN (ly.map V.str).length 2 = some 2 := by
    unfold ixN
    rw [if_pos (by decide), if_pos (by omega)]; rfl
  refine ⟨sx, _, r7, _, rfl, rfl, SqL.of (b7.sb _ _ nsp g6), hat, lA, _, _, _, rfl, rfl, SqL.of lA7, aw, _, rfl, lA, _, 2, 2, rfl, rfl, lA7, ix2, ?_⟩
  have emap : (ly.map V.str).set 2 (.str ly[kN]) = (ly.set 2 ly[kN]).map V.str := by rw [List.map_set]
  rw [emap]
  have b8 : SameB p H4 (upd H7 lA (.lst ((ly.set 2 ly[kN]).map V.str))) := fun b o n e => by
    rw [ZJ (ZO e flA)]
    exact b7.sb b o n (s6 b o (b5 b o n e))
  have g8 : upd H7 lA (.lst ((ly.set 2 ly[kN]).map V.str)) lA = some (.lst ((ly.set 2 ly[kN]).map V.str)) := ZD
  have st8 : Zu (upd H7 lA (.lst ((ly.set 2 ly[kN]).map V.str))) p := s7.keep (ZJ (Ne.symm nlp))
  generalize upd H7 lA (.lst ((ly.set 2 ly[kN]).map V.str)) = H8 at b8 g8 st8 ⊢
  refine ⟨by show 0 <= sizeLine; decide, fun dl hdl => ?_⟩
  have s9 := ZE hdl (.lst [])
  have g9 : upd H8 dl (.lst []) dl = some (.lst []) := ZD
  have ndp : dl ≠ p := st8.ne hdl
  have nld : lA ≠ dl := ZO g8 hdl
  have kl8 := b8 _ _ nkp (b4 _ _ nkp hkl)
  have hA8 := b8 _ _ nhp g4
  have nkd : kl ≠ dl := ZO kl8 hdl
  have nhd : hA ≠ dl := ZO hA8 hdl
  generalize upd H8 dl (.lst []) = H9 at s9 g9 ⊢
  have b49 : SameB p H4 H9 := b8.trans s9.sb
  have b29 : SameB p H2 H9 := b4.trans b49
  have st9 := st8.sm s9
  have hx9 : HasL H9 xs (ks.map VF) := Z5 (s2.tkB b29) _ (YX ks) hxs
  have hp9 : HP H9 kvs (ks.map fun k : Str × Shp => k.1) := hp4.tk (st4.tkB b49)
  have kl9 := s9 _ _ kl8
  have hA9 := s9 _ _ hA8
  have lA9 := s9 _ _ g8
  have sH9 : Same H H9 := fun b o e => by
    have n1 := ZO e fp
    exact b29 b o n1 (b2 b o n1 ((b1 b n1).trans e))
  have sH8 : Same H H8 := fun b o e => by
    have n1 := ZO e fp
    exact b8 b o n1 (b4 b o n1 (b2 b o n1 ((b1 b n1).trans e)))
  have fdl : H dl = none := sH8.free hdl
  refine ⟨_, rfl, hA, oH, kvs, rfl, hA9, ?_⟩
  refine fl_dict (fun i σ Hi => GB p dl H9 Hi /\ Zu Hi p /\ ∃ zs : List V, Hi dl = some (.lst zs) /\ zs.length <= i /\ (∀ z ∈ zs, DefOk Hi z) /\ ∃ z11 z12 z13 z14, σ = [some (.int cell), some (.int most), some (.int many), some (.int top), some (.int left), some (.ref p), some (.ref kl), some (.ref cn), some (.ref hA), some (.ref lA), some (.ref dl), z11, z12, z13, z14])
    ⟨GB.refl _ _ _, st9, [], g9, Nat.le_refl _, (fun z hz => nomatch hz), _, _, _, _, rfl⟩ (fun i σ Hi _ z => z.1 _ _ nhp nhd hA9) ?_ ?_
  · rintro BB RR i kv σ Hi hkv ⟨gi, si, zs, hdi, lzi, dfi, z11, z12, z13, z14, rfl⟩
    have hkm := List.mem_of_getElem? hkv
    have i8 : i < 8 := by have := (List.getElem?_eq_some_iff.mp hkv).1; omega
    have tki : TK H9 Hi := JO gi st9 g9 (fun _ z => by cases z)
    have hpi := hp9.tk tki
    obtain ⟨fn, _, _, ek1, _⟩ := hpi kv hkm
    obtain ⟨v, hv⟩ := mem_valV hkm
    rw [ek1] at hv ⊢
    obtain ⟨kv2, m2, _, e3⟩ := V2 hv
    obtain ⟨_, ps, k, _, hh, p3, pk, hk, psn⟩ := hpi kv2 m2
    rw [e3] at hh
    obtain ⟨t, l, xp, rfl, ht, hl, hxs'⟩ := has_hd hh
    have hAi := gi _ _ nhp nhd hA9
    have kli := gi _ _ nkp nkd kl9
    have lAi := gi _ _ nlp nld lA9
    obtain ⟨tp, rfl, prs⟩ := ps_prs (K := K) hxs'
    have lps : (ps.map fun p => ((Sum.inr p.1 : Key), V.str p.2)).length = ps.length := List.length_map _
    have ndk : ((ps.map fun p => ((Sum.inr p.1 : Key), V.str p.2)).map (·.1)).Nodup := by
      rw [List.map_map]
      unfold List.Nodup at psn ⊢
      rw [List.pairwise_map] at psn ⊢
      exact psn.imp fun hab q => hab (Sum.inr.inj q)
    have dg : ∀ {Hx : Hp}, Hx hA = some (.frz oH (.dK kvs)) -> YY Hx hA (.str fn) (some (.ref t)) := fun e => .inl ⟨kvs, Sum.inr fn, .inr ⟨oH, e⟩, rfl, hv.symm⟩
    refine ⟨_, rfl, _, rfl, hA, _, rfl, dg hAi, t, _, 0, _, rfl, rfl, SqT.of ht, rfl, l, tp, _, rfl, hl, prs, ndk, fun aA haA => ⟨aA, _, ZD, fun oA => ?_⟩⟩
    rw [upd_upd]
    have s10 := ZE haA (.frz oA (.dK (ps.map fun p => ((Sum.inr p.1 : Key), V.str p.2))))
    have g10 : upd Hi aA (.frz oA (.dK (ps.map fun p => ((Sum.inr p.1 : Key), V.str p.2)))) aA = some (.frz oA (.dK (ps.map fun p => ((Sum.inr p.1 : Key), V.str p.2)))) := ZD
    generalize upd Hi aA (.frz oA (.dK (ps.map fun p => ((Sum.inr p.1 : Key), V.str p.2)))) = H10 at s10 g10 ⊢
    have af10 : AF H10 aA (ks.map (·.1)) 3 := ⟨oA, _, g10, by omega, fun kv hk' => by
      obtain ⟨pr, hpr, e⟩ := List.mem_map.mp hk'
      exact ⟨pr.1, pr.2, e.symm, pk pr hpr⟩⟩
    intro wA hwA
    have sK : TK H9 (upd H10 wA (.dK [])) := fun b us h => ZE hwA _ _ _ (s10 _ _ (tki _ _ h))
    obtain ⟨ts, kvsK, exs, prK, ek, hshK⟩ := kinds_prs (K := K) (Z5 sK _ (YX ks) hx9)
    refine ⟨_, rfl, kl, ts, kvsK, rfl, SqL.of (by rw [<- exs]; exact ZE hwA _ _ _ (s10 _ _ kli)), prK, keys_nd ek nd, fun shA hshA => ?_⟩
    have nsw : shA ≠ wA := fun e => by rw [e, ZD] at hshA; cases hshA
    have hsh10 : H10 shA = none := by rw [ZJ nsw] at hshA; exact hshA
    refine ⟨_, rfl, _, rfl, _, rfl, ?_⟩
    refine ⟨by rw [ZJ (Ne.symm nsw), ZD], [(Sum.inr "shapes", .ref shA), (Sum.inr "heads", .ref hA), (Sum.inr "lets", .ref lA), (Sum.inr "left", .int left)], rfl, by show 4 <= 15; decide, ?_⟩
    refine ⟨shA, kvsK, by rw [ZJ nsw, ZD], fun oS => ?_⟩
    have tkW0 : TK (upd H10 wA (.dK [])) (upd (upd (upd (upd H10 wA (.dK [])) shA (.dK kvsK)) wA (wrD shA hA lA left)) shA (.frz oS (.dK kvsK))) := fun b us h => by
      have n1 : b ≠ wA := fun e => by rw [e, ZD] at h; cases h
      have n2 : b ≠ shA := fun e => by rw [e, hshA] at h; cases h
      rw [ZJ n2, ZJ n1, ZJ n2]; exact h
    have s12 : Same H10 (upd (upd (upd (upd H10 wA (.dK [])) shA (.dK kvsK)) wA (wrD shA hA lA left)) shA (.frz oS (.dK kvsK))) := ((((Same.refl H10).putN hwA).putN hsh10).putN hwA).putN hsh10
    have g12 : upd (upd (upd (upd H10 wA (.dK [])) shA (.dK kvsK)) wA (wrD shA hA lA left)) shA (.frz oS (.dK kvsK)) shA = some (.frz oS (.dK kvsK)) := ZD
    have w12 : upd (upd (upd (upd H10 wA (.dK [])) shA (.dK kvsK)) wA (wrD shA hA lA left)) shA (.frz oS (.dK kvsK)) wA = some (wrD shA hA lA left) := by rw [ZJ (Ne.symm nsw), ZD]
    show Jf _ _ _ _ (upd (upd (upd (upd H10 wA (.dK [])) shA (.dK kvsK)) wA (wrD shA hA lA left)) shA (.frz oS (.dK kvsK)))
    generalize upd (upd (upd (upd H10 wA (.dK [])) shA (.dK kvsK)) wA (wrD shA hA lA left)) shA (.frz oS (.dK kvsK)) = H12 at s12 g12 w12 tkW0 ⊢
    have tkW := tkW0
    have sI : Same Hi H12 := s10.trans s12
    have st12 := si.sm sI
    have hHF : HF Hi hA (ks.map (·.1)) := ⟨oH, kvs, hAi, lkv, fun kv hk' => let ⟨f, ps, k, e1, e2, e3, e4, e5, _⟩ := hpi kv hk'; ⟨f, ps, k, e1, e2, e3, e4, e5⟩⟩
    have wr12 : Wr H12 wA ks lA := ⟨shA, hA, _, left, w12, ⟨oS, kvsK, g12, ek, fun y s e => let ⟨v, e1, e2⟩ := hshK y s e; ⟨v, e1, Z3 tkW _ (Shp.st _) e2⟩⟩, hHF.mono sI, sI _ _ lAi, by rw [List.length_set]; omega⟩
    have hwi : Hi wA = none := by
      cases e : Hi wA with
      | none => rfl
      | some u => rw [s10 _ _ e] at hwA; cases hwA
    refine ⟨_, rfl, _, rfl, _, rfl, _, rfl, _, rfl, hA, _, rfl, dg (sI _ _ hAi), t, _, 1, _, rfl, rfl, SqT.of (sI _ _ ht), rfl, p, wA, aA, lA, k, ks, c, d, 3, rfl, st12, wr12, af10.mono s12 (Nat.le_refl _), by decide, kk, k6, hk, fun u1 H13 b13 l13 gb13 st13 wr13 ln13 hu13 ok13 dp13 => ?_⟩
    have sb13 : SameB p Hi H13 := fun b o n e => gb13 b o n (ZO e hwi) (sI b o e)
    dsimp only [Y2]
    refine VB (fun σ' H' => ∃ (v : V) (b : Bd), SameB p Hi H' /\ Zu H' p /\ Has H' v b.dat /\ b.ok /\ b.dep <= 11 /\ b.size <= 40 /\ σ' = [some (.int cell), some (.int most), some (.int many), some (.int top), some (.int left), some (.ref p), some (.ref kl), some (.ref cn), some (.ref hA), some (.ref lA), some (.ref dl), some (.str fn), some (.ref aA), some (.ref wA), some v]) ?_ ?_
    · rintro σ' H' ⟨v, b, sb, st, hb, okb, db, szb, rfl⟩
      have tkH := si.tkB sb
      have dl' := sb _ _ ndp hdi
      refine ⟨_, rfl, .inl ⟨rfl, _, SqL.of dl'⟩, _, rfl, _, rfl, _, rfl, hA, _, rfl, dg (sb _ _ nhp hAi), t, _, 0, _, rfl, rfl, SqT.of (tkH _ _ ht), rfl, _, rfl, _, rfl, hA, _, rfl, dg (sb _ _ nhp hAi), t, _, 1, _, rfl, rfl, SqT.of (tkH _ _ ht), rfl, _, rfl, by show 4 <= sizeLine; decide, fun tt htt => ?_⟩
      have sT := ZE htt (.tup [.str fn, .ref l, .str k, v])
      have gT : upd H' tt (.tup [.str fn, .ref l, .str k, v]) tt = some (.tup [.str fn, .ref l, .str k, v]) := ZD
      generalize upd H' tt (.tup [.str fn, .ref l, .str k, v]) = HT at sT gT ⊢
      have dlT := sT _ _ dl'
      refine ⟨dl, zs, _, rfl, rfl, dlT, ZP (by omega), ?_⟩
      have gbw : GB p dl HT (upd HT dl (.lst (zs ++ [.ref tt]))) := gb_w
      have tkw : TK HT (upd HT dl (.lst (zs ++ [.ref tt]))) := JO gbw (st.sm sT) dlT (fun _ z => by cases z)
      refine ⟨fun b o n1 n2 e => gbw b o n1 n2 (sT b o (sb b o n1 (gi b o n1 n2 e))), (st.sm sT).keep (ZJ (Ne.symm ndp)), zs ++ [.ref tt], ZD, by simp; omega, fun z hz => ?_, _, _, _, _, rfl⟩
      rcases List.mem_append.mp hz with hz | hz
      · exact (dfi z hz).tk (fun b us h => tkw _ _ (sT _ _ (tkH _ _ h)))
      · cases List.mem_singleton.mp hz
        exact ⟨tt, _, _, _, v, b, rfl, tkw _ _ gT, Z3 (fun b us h => tkw _ _ (sT _ _ h)) _ (Bd.st _) hb, okb, db, szb⟩
    · intro N key
      refine ⟨_, rfl, u1, b13, rfl, hu13, ok13, by omega, by omega, fun H14 s14 => ?_⟩
      refine ⟨_, _, rfl, rfl, _, rfl, ?_⟩
      have sb14 : SameB p Hi H14 := sb13.trans s14.sb
      refine YI (fun c1 => ?_) (fun c1 => key _ _ ⟨u1, b13, sb14, st13.sm s14, hu13.mono s14, ok13, by omega, ?_, rfl⟩)
      · have wr14 := wr13.mono s14
        have st14 := st13.sm s14
        have dk := kk.small hk
        refine ⟨_, rfl, _, rfl, _, rfl, _, rfl, _, rfl, hA, _, rfl, dg (sb14 _ _ nhp hAi), t, _, 1, _, rfl, rfl, SqT.of (si.tkB sb14 _ _ ht), rfl, p, wA, aA, l13, k, ks, c, d, rfl, st14, wr14, ((af10.mono s12 (Nat.le_refl _)).gb gb13 st12 wr12).mono s14 (by decide), kk, hk, by omega, fun u5 H15 b15 l15 gb15 st15 wr15 ln15 hu15 ok15 dp15 => ?_⟩
        have sz : b15.size <= 6 ^ 2 := Bd.size_le 2 b15 (by omega) ok15
        exact key _ _ ⟨u5, b15, fun b o n e => gb15 b o n (ZO e hwi) (sb14 b o n e), st15, hu15, ok15, by omega, by omega, rfl⟩
      · have c1' : ¬ ((40 : Int) < ((b13.size : Nat) : Int)) := fun z => c1 (decide_eq_true z)
        omega
  · rintro σ Hi ⟨gi, si, zs, hdi, lzi, dfi, z11, z12, z13, z14, rfl⟩
    refine ⟨_, rfl, _, rfl, by show 2 <= sizeLine; decide, fun t ht => ?_⟩
    have sT := ZE ht (.tup [.ref kl, .ref dl])
    refine q t kl dl zs _ (fun b o e => sT _ _ (gi b o (ZO e fp) (ZO e fdl) (sH9 b o e))) ZD (sT _ _ hdi) (by omega) fun z hz => (dfi z hz).tk sT.tk
end
end K4
namespace L2
open PySem
theorem fl_enum {K : PySem.W.Frag} {tp : Bool} {a : Addr} {xs : List V} {g : TG} {tb : TS} {D : Ends} {σ : St} {H : Hp} (Pv : Nat -> St -> Hp -> Prop) (h0 : Pv 0 σ H) (hl : ∀ i σ H, i <= xs.length -> Pv i σ H -> Sq K tp H a xs)
    (hs : ∀ (B : St -> Hp -> Prop) (R : VK) i x σ H r, xs[i]? = some x -> Pv i σ H -> H r = none -> g (.ref r) σ (upd H r (.tup [.int ((i : Nat) : Int), x])) fun σ2 H2 => tb { nx := Pv (i + 1), rt := R, bk := B, ct := Pv (i + 1) } σ2 H2) (hd : ∀ σ H, Pv xs.length σ H -> D.nx σ H) :
    ∃ W : Nat -> Nat -> St -> Hp -> Prop, (∃ m, W 0 m σ H) /\ ∀ i m σ H, W i m σ H ->
      ((Ite K tp a).stop i H /\ D.nx σ H) ∨ ((Ite K tp a).go i H /\ ∃ N : St -> Hp -> Prop, (∀ σ' H', N σ' H' -> ∃ m', m' < m /\ W (i + 1) m' σ' H') /\ ∀ x H', (Ite K tp a).yld i H x H' -> g x σ H' fun σ2 H2 => tb { D with nx := N, ct := N, bk := D.nx } σ2 H2) := by
  refine ⟨fun i m σ H => m = xs.length - i /\ i <= xs.length /\ Pv i σ H, ⟨xs.length, by simp, Nat.zero_le _, h0⟩, fun i m σ H z => ?_⟩
  obtain ⟨rfl, hi, p⟩ := z
  have q := hl i σ H hi p
  rcases Nat.lt_or_ge i xs.length with hlt | hge
  · refine .inr ⟨⟨xs, xs[i], q, List.getElem?_eq_getElem hlt⟩, Pv (i + 1), fun σ' H' p' => ⟨xs.length - (i + 1), by omega, rfl, hlt, p'⟩, fun x H' y => ?_⟩
    obtain ⟨r, x1, rfl, hr, rfl, hx⟩ := y
    exact hs _ _ i x1 σ H r (hx xs q) p hr
  · have e : i = xs.length := by omega
    exact .inl ⟨⟨xs, q, by omega⟩, by subst e; exact hd σ H p⟩
theorem Bd.pls_app : ∀ (xs ys : List Bd) (k : Nat), Bd.pls k (xs ++ ys) = Bd.pls k xs ++ Bd.pls (k + xs.length) ys
  | [], ys, k => by simp [Bd.pls]
  | x :: xs, ys, k => by
    rw [List.cons_append]
    rw [Bd.pls, Bd.pls, Bd.pls_app xs ys (k + 1), List.append_assoc, List.length_cons, show k + 1 + xs.length = k + (xs.length + 1) by omega]
theorem Bd.pls_snoc {bs : List Bd} {i : Nat} {c : Bd} (h : bs[i]? = some c) : Bd.pls 0 (bs.take (i + 1)) = Bd.pls 0 (bs.take i) ++ c.places.map fun w => ((i : Nat) : Int) :: w := by
  have hi := (List.getElem?_eq_some_iff.mp h).1
  rw [show bs.take (i + 1) = bs.take i ++ [c] from take_snoc h, Bd.pls_app]
  rw [List.length_take, Nat.zero_add, Nat.min_eq_left (Nat.le_of_lt hi)]
  simp [Bd.pls]
theorem Bd.pls_le (bs : List Bd) (i : Nat) : (Bd.pls 0 (bs.take i)).length <= (Bd.pls 0 bs).length := by
  have e : bs = bs.take i ++ bs.drop i := (List.take_append_drop i bs).symm
  have e2 : Bd.pls 0 bs = Bd.pls 0 (bs.take i) ++ Bd.pls (0 + (bs.take i).length) (bs.drop i) := by
    conv => lhs; rw [e]
    exact Bd.pls_app _ _ _
  rw [e2, List.length_append]; omega
theorem Bd.part_le {b c : Bd} {i : Nat} (h : b.parts[i]? = some c) : 1 + (Bd.pls 0 (b.parts.take i)).length + c.places.length <= b.places.length := by
  have e := congrArg List.length (Bd.pls_snoc h)
  rw [List.length_append, List.length_map] at e
  have l := Bd.pls_le b.parts (i + 1)
  rw [Bd.places_eq b, List.length_cons]
  omega
theorem Bd.pls_mem : ∀ {bs : List Bd} {k : Nat} {w : List Int}, w ∈ Bd.pls k bs -> ∃ c ∈ bs, ∃ (m : Nat) (r : List Int), r ∈ c.places /\ w = ((m : Nat) : Int) :: r
  | [], _, _, h => by unfold Bd.pls at h; cases h
  | b :: bs, k, w, h => by
    unfold Bd.pls at h
    rcases (List.mem_append.mp h) with h | h
    · obtain ⟨r, hr, e⟩ := List.mem_map.mp h
      exact ⟨b, List.mem_cons_self, k, r, hr, e.symm⟩
    · obtain ⟨c, hc, m, r, h1, h2⟩ := Bd.pls_mem h
      exact ⟨c, List.mem_cons_of_mem _ hc, m, r, h1, h2⟩
theorem Bd.way_len : ∀ (n : Nat) (b : Bd), b.dep <= n -> ∀ w ∈ b.places, w.length <= n
  | n, b, h, w, hw => by
    rw [Bd.places_eq] at hw
    rcases List.mem_cons.mp hw with e | hw
    · rw [e]; exact Nat.zero_le _
    · obtain ⟨c, hc, m, r, h1, rfl⟩ := Bd.pls_mem hw
      have := Bd.dep_mem hc
      cases n with
      | zero => omega
      | succ n =>
        have := Bd.way_len n c (by omega) r h1
        simp; omega
theorem ways_tk {H H' : Hp} (b : TK H H') : ∀ {ws : List (List Int)} {xs : List V}, HasL H xs (ws.map Yt) -> HasL H' xs (ws.map Yt)
  | [], xs, h => by
    obtain rfl := YD h
    exact HasL.nil
  | w :: ws, xs, h => by
    rw [List.map_cons] at h
    obtain ⟨x, r, rfl, h1, h2⟩ := ZM h
    obtain ⟨a, rfl, ha⟩ := Vm h1
    exact HasL.cons (V1 (b _ _ ha)) (ways_tk b h2)
end L2
namespace K4
open PySem L2
section
variable {P : Program} {w : World} {K : PySem.W.Frag} {mg : Str -> Option Value} {base : Heap} {f g : Addr} {fd gd : FuncData}
theorem V7 : FnScope ["body", "found", "number", "part"] ["body"] (ZN VJ) := ⟨rfl, rfl, rfl, by decide +kernel, rfl, by decide +kernel, by decide +kernel⟩
theorem VC : FnScope ["body", "found", "k", "part"] ["body"] (ZN Yy) := ⟨rfl, rfl, rfl, by decide +kernel, rfl, by decide +kernel, by decide +kernel⟩
theorem nd_pn : List.Nodup [("place" : Str), "number"] := by decide +kernel
theorem nd_pk : List.Nodup [("place" : Str), "k"] := by decide +kernel
def YH (n : Nat) : Sp := fun vs H Q _ => ∃ (v : V) (b : Bd), vs = [v] /\ Has H v b.dat /\ b.ok /\ b.dep < n /\ b.dep <= 20 /\ b.places.length <= 500 /\ ∀ (r : Addr) (H' : Hp), Same H H' -> H r = none -> Has H' (.ref r) (.lst (b.places.map Yt)) -> Q (.ref r) H'
theorem comp_ways {te : TE} {s0 : St} {Q : VK} {H : Hp} {r2 : Addr} {os : List V} {ws : List (List Int)} (i : Nat) (h2 : H r2 = some (.lst os)) (h3 : HasL H os (ws.map Yt)) (l20 : ∀ w ∈ ws, w.length <= 20) (l500 : ws.length <= 500)
    (te_ : ∀ (pw : Addr) (w : List Int) (Hx : Hp) (R : VK), Hx pw = some (.tup (w.map V.int)) -> w.length <= 20 -> (∀ t Hy, Same Hx Hy -> Hy t = some (.tup ((((i : Nat) : Int) :: w).map V.int)) -> R (.ref t) Hy) -> te (s0.set 0 (some (.ref pw))) Hx R)
    (hd : ∀ vs H' p, Same H H' -> H' p = none -> vs.length = ws.length -> HasL H' vs ((ws.map fun w => ((i : Nat) : Int) :: w).map Yt) -> Q (.ref p) (upd H' p (.lst vs))) : CompW (Itl K r2) (Y2 0) te s0 Q H := by
  have lo := h3.length
  rw [List.length_map] at lo
  refine YJ os.length (ZP (by omega)) (fun j vs H' => Same H H' /\ vs.length = j /\ HasL H' vs (((ws.take j).map fun w => ((i : Nat) : Int) :: w).map Yt)) ⟨Same.refl _, rfl, HasL.nil⟩ (fun j vs H' z => z.2.1) ?_ ?_ ?_ ?_
  · rintro j vs H' hj ⟨sj, _⟩
    exact ⟨os, os[j], SqL.of (sj _ _ h2), by simp [hj]⟩
  · rintro vs H' ⟨sj, _⟩
    exact ⟨os, SqL.of (sj _ _ h2), Nat.le_refl _⟩
  · rintro j vs H' x H3 R hj ⟨sj, z2, z3⟩ yl hR
    obtain ⟨rfl, y⟩ := yl
    obtain ⟨dd, hd1, hx1⟩ := h3.get (y os (SqL.of (sj _ _ h2)))
    rw [List.getElem?_map] at hd1
    cases hw : ws[j]? with
    | none => rw [hw] at hd1; cases hd1
    | some w0 =>
      rw [hw] at hd1
      cases hd1
      obtain ⟨pw, rfl, hpw⟩ := Vm hx1
      refine te_ pw w0 _ _ (sj _ _ hpw) (l20 w0 (List.mem_of_getElem? hw)) fun t Hy sy ht => hR _ _ ⟨sj.trans sy, by rw [List.length_append, z2]; rfl, ?_⟩
      rw [show ws.take (j + 1) = ws.take j ++ [w0] from take_snoc hw, List.map_append, List.map_append]
      exact HasL.append (z3.mono sy) (HasL.one (V1 ht))
  · rintro vs H' p ⟨sj, z2, z3⟩ hp
    rw [List.take_of_length_le (by omega)] at z3
    exact hd vs H' p sj hp (by omega) z3
theorem ok_places {n m : Nat} (me : mg "enumerate" = none) (F : Fun K "places" "places" VJ f fd) (G : FnOk P w K mg base CX0 m f fd ["body"] (YH n)) (bG : Binds K fd ["body"] []) (mG : mg "places" = some (.ref f))
    (DR : Df P w K mg base m "parts" ["body"] VI) : FnOk P w K mg base CX0 (m + 1) f fd ["body"] (YH (n + 1)) := by
  obtain ⟨gr, rd', mR, kR, bR, GR⟩ := DR
  refine F.ok V7 (fun vs H Q E h => ?_) (fun cdv A outer s H vs Q E hr h => ?_)
  · obtain ⟨v, b, rfl, _⟩ := h
    rfl
  obtain ⟨v, b, rfl, hv, ok, dn, d20, l500, q⟩ := h
  refine ⟨_, ZG (ZT (i := 1) V7.nd rfl (Or.inl rfl) (YF (ZA (Zn ZF) ZF)))
    (ZG (YS PassesOwn.never rfl (pi_enum rfl me (ZA (ZK GR hr rfl mR kR bR .nil ZU (ZA (pv 0) ZF)) ZF)) (Y0 (n := 2) rfl (Zr (Za (i := 2) V7.nd rfl (Or.inr rfl)) (Zr (Za (i := 3) V7.nd rfl (Or.inl rfl)) Yc)))
      (ZL (Yn (VT PySem.F.plainAttrs_list PySem.F.slot_list_extend PySem.F.type_list_extend mt_extend (pv 1) (ZA (Yv ["place"] [2] (Y6 (ZK G hr rfl mG F.kp bG .nil ZU (ZA (pv 3) ZF))) (YR (i := 0) (by decide)) (fun cl C fp s H => Za (i := 0) nd_pn rfl (Or.inl rfl) (Or.inr rfl))
        (fun cl C fp s H => Zc (r := rCatT K) Vl (Zn (ZA (pv 1) ZF)) (pv 0))) ZF)))))
    (ZL (ZW (pv 1)))), ?_⟩
  dsimp only [Y9, Cx.nox, Cx.wish]
  refine ⟨by show 0 <= sizeLine; decide, fun t0 ht0 => ⟨by show 1 <= sizeLine; decide, fun fl hfl => ?_⟩⟩
  have s1 := ZE ht0 (.tup [])
  have g1 : upd H t0 (.tup []) t0 = some (.tup []) := ZD
  have fr : H fl = none := s1.free hfl
  have s2 := ZE hfl (.lst [.ref t0])
  have g2 : upd (upd H t0 (.tup [])) fl (.lst [.ref t0]) fl = some (.lst [.ref t0]) := ZD
  generalize upd (upd H t0 (.tup [])) fl (.lst [.ref t0]) = H2 at s2 g2 ⊢
  refine ⟨_, rfl, v, b, rfl, (hv.mono s1).mono s2, ok, fun u H3 s3 hu3 => ?_⟩
  obtain ⟨a, xs, rfl, ha, hxs⟩ := Zh hu3
  have lx := hxs.length
  rw [Bd.dats_map, List.length_map] at lx
  refine ⟨a, true, xs, rfl, SqT.of ha, ?_⟩
  refine fl_enum (tp := true) (xs := xs) (fun i σ Hi => Same H Hi /\ Hi a = some (.tup xs) /\ HasL Hi xs (Bd.dats b.parts) /\ ∃ zs, Hi fl = some (.lst zs) /\ HasL Hi zs (([] :: Bd.pls 0 (b.parts.take i)).map Yt) /\ ∃ z2 z3, σ = [some v, some (.ref fl), z2, z3]) ⟨(s1.trans s2).trans s3, ha, hxs, _, s3 _ _ g2, HasL.one (V1 (ws := []) (s3 _ _ (s2 _ _ g1))), _, _, rfl⟩ (fun i σ Hi _ z => SqT.of z.2.1) ?_ ?_
  · rintro BB RR i x σ Hi r hx ⟨si, hai, hxi, zs, hfi, hzi, z2, z3, rfl⟩ hr'
    have sR := ZE hr' (.tup [.int ((i : Nat) : Int), x])
    have gR : upd Hi r (.tup [.int ((i : Nat) : Int), x]) r = some (.tup [.int ((i : Nat) : Int), x]) := ZD
    generalize upd Hi r (.tup [.int ((i : Nat) : Int), x]) = HR at sR gR ⊢
    obtain ⟨dd, hd1, hd2⟩ := hxi.get hx
    rw [Bd.dats_map, List.getElem?_map] at hd1
    cases hc : b.parts[i]? with
    | none => rw [hc] at hd1; cases hd1
    | some c =>
      rw [hc] at hd1
      cases hd1
      have hcm := List.mem_of_getElem? hc
      have dc := Bd.dep_mem hcm
      have le := Bd.part_le hc
      refine ⟨r, _, rfl, SqT.of gR, rfl, _, _, rfl, _, _, rfl, rfl, ?_⟩
      refine ⟨_, rfl, .inl ⟨rfl, _, SqL.of (sR _ _ hfi)⟩, _, rfl, x, c, rfl, hd2.mono sR, Bd.ok_parts ok c hcm, by omega, by omega, by omega, fun r2 H4 s4 fr2 h4 => ?_⟩
      obtain ⟨_, os, er, ho, hol⟩ := YU h4
      cases er
      refine ⟨r2, rfl, ⟨_, SqL.of ho⟩, ?_⟩
      refine comp_ways (K := K) i ho hol (fun w hw => Nat.le_trans (Bd.way_len _ c (Nat.le_refl _) w hw) (by omega)) (by omega) ?_ ?_
      · intro pw w0 Hx R hpw lw hR
        refine ⟨_, rfl, by show 1 <= sizeLine; decide, fun t1 ht1 => ?_⟩
        have sT := ZE ht1 (.tup [.int ((i : Nat) : Int)])
        have gT : upd Hx t1 (.tup [.int ((i : Nat) : Int)]) t1 = some (.tup [.int ((i : Nat) : Int)]) := ZD
        generalize upd Hx t1 (.tup [.int ((i : Nat) : Int)]) = HT at sT gT ⊢
        refine ⟨_, rfl, t1, pw, _, _, rfl, rfl, SqT.of gT, SqT.of (sT _ _ hpw), by simp, Nat.le_of_lt (ZP (by simp; omega)), fun e => ?_, fun ne p hp => ?_⟩
        · have e' : w0 = [] := by cases w0 with | nil => rfl | cons _ _ => cases e
          subst e'
          exact hR t1 HT sT gT
        · exact hR p _ (sT.trans (ZE hp _)) ZD
      · intro vs H5 p s5 hp lv hvs
        have s6 := ZE hp (.lst vs)
        have g6 : upd H5 p (.lst vs) p = some (.lst vs) := ZD
        generalize upd H5 p (.lst vs) = H6 at s6 g6 ⊢
        have sA : Same Hi H6 := ((sR.trans s4).trans s5).trans s6
        have lz := hzi.length
        rw [List.length_map, List.length_cons] at lz
        refine ⟨fl, p, zs, vs, rfl, rfl, sA _ _ hfi, g6, Nat.le_of_lt (ZP (by omega)), ?_⟩
        have hf6 := sA _ _ hfi
        have tk7 : TK H6 (upd H6 fl (.lst (zs ++ vs))) := fun b us h => by rw [ZJ (fun e => by rw [e, hf6] at h; cases h)]; exact h
        refine ⟨(si.trans sA).putN fr, tk7 _ _ (sA _ _ hai), Z5 tk7 _ (Bd.sts _) (hxi.mono sA), zs ++ vs, ZD, ?_, _, _, rfl⟩
        rw [Bd.pls_snoc hc, <- List.cons_append, List.map_append]
        exact HasL.append (ways_tk tk7 (hzi.mono sA)) (ways_tk tk7 (hvs.mono s6))
  · rintro σ Hi ⟨si, hai, hxi, zs, hfi, hzi, z2, z3, rfl⟩
    rw [lx, List.take_length, <- Bd.places_eq] at hzi
    exact ⟨_, rfl, q fl Hi si fr (YG hfi hzi)⟩
end
section
variable {P : Program} {w : World} {K : PySem.W.Frag} {mg : Str -> Option Value} {base : Heap} {f g : Addr} {fd gd : FuncData}
theorem ok_placesL {n m : Nat} (me : mg "enumerate" = none) (F : Fun K "_law_places" "_law_places" Yy f fd) (G : FnOk P w K mg base CX0 m f fd ["body"] (YH n)) (bG : Binds K fd ["body"] []) (mG : mg "_law_places" = some (.ref f))
    (DR : Df P w K mg base m "_law_parts" ["body"] Ya) : FnOk P w K mg base CX0 (m + 1) f fd ["body"] (YH (n + 1)) := by
  obtain ⟨gr, rd', mR, kR, bR, GR⟩ := DR
  refine F.ok VC (fun vs H Q E h => ?_) (fun cdv A outer s H vs Q E hr h => ?_)
  · obtain ⟨v, b, rfl, _⟩ := h
    rfl
  obtain ⟨v, b, rfl, hv, ok, dn, d20, l500, q⟩ := h
  refine ⟨_, ZG (ZT (i := 1) VC.nd rfl (Or.inl rfl) (YF (ZA (Zn ZF) ZF)))
    (ZG (YS PassesOwn.never rfl (pi_enum rfl me (ZA (ZK GR hr rfl mR kR bR .nil ZU (ZA (pv 0) ZF)) ZF)) (Y0 (n := 2) rfl (Zr (Za (i := 2) VC.nd rfl (Or.inr rfl)) (Zr (Za (i := 3) VC.nd rfl (Or.inl rfl)) Yc)))
      (ZL (ZT (i := 1) VC.nd rfl (Or.inl rfl) (Zc op_cat (pv 1) (Yv ["place"] [2] (Y6 (ZK G hr rfl mG F.kp bG .nil ZU (ZA (pv 3) ZF))) (YR (i := 0) (by decide)) (fun cl C fp s H => Za (i := 0) nd_pk rfl (Or.inl rfl) (Or.inr rfl))
        (fun cl C fp s H => Zc (r := rCatT K) Vl (Zn (ZA (pv 1) ZF)) (pv 0)))))))
    (ZL (ZW (pv 1)))), ?_⟩
  dsimp only [Y9, Cx.nox, Cx.wish]
  refine ⟨by show 0 <= sizeLine; decide, fun t0 ht0 => ⟨by show 1 <= sizeLine; decide, fun fl hfl => ?_⟩⟩
  have s1 := ZE ht0 (.tup [])
  have g1 : upd H t0 (.tup []) t0 = some (.tup []) := ZD
  have fr : H fl = none := s1.free hfl
  have s2 := ZE hfl (.lst [.ref t0])
  have g2 : upd (upd H t0 (.tup [])) fl (.lst [.ref t0]) fl = some (.lst [.ref t0]) := ZD
  generalize upd (upd H t0 (.tup [])) fl (.lst [.ref t0]) = H2 at s2 g2 ⊢
  refine ⟨_, rfl, v, b, rfl, (hv.mono s1).mono s2, ok, fun a H3 s3 fra hu3 => ?_⟩
  obtain ⟨_, xs, er, ha, hxs⟩ := YU hu3
  cases er
  have lx := hxs.length
  rw [Bd.dats_map, List.length_map] at lx
  refine ⟨a, false, xs, rfl, SqL.of ha, ?_⟩
  have s03 := (s1.trans s2).trans s3
  refine fl_enum (tp := false) (xs := xs) (fun i σ Hi => Same H3 Hi /\ ∃ fl zs, H fl = none /\ Hi fl = some (.lst zs) /\ HasL Hi zs (([] :: Bd.pls 0 (b.parts.take i)).map Yt) /\ ∃ z2 z3, σ = [some v, some (.ref fl), z2, z3]) ⟨Same.refl _, fl, _, fr, s3 _ _ g2, HasL.one (V1 (ws := []) (s3 _ _ (s2 _ _ g1))), _, _, rfl⟩ (fun i σ Hi _ z => SqL.of (z.1 _ _ ha)) ?_ ?_
  · rintro BB RR i x σ Hi r hx ⟨si, fl, zs, ffl, hfi, hzi, z2, z3, rfl⟩ hr'
    have sR := ZE hr' (.tup [.int ((i : Nat) : Int), x])
    have gR : upd Hi r (.tup [.int ((i : Nat) : Int), x]) r = some (.tup [.int ((i : Nat) : Int), x]) := ZD
    generalize upd Hi r (.tup [.int ((i : Nat) : Int), x]) = HR at sR gR ⊢
    obtain ⟨dd, hd1, hd2⟩ := (hxs.mono si).get hx
    rw [Bd.dats_map, List.getElem?_map] at hd1
    cases hc : b.parts[i]? with
    | none => rw [hc] at hd1; cases hd1
    | some c =>
      rw [hc] at hd1
      cases hd1
      have hcm := List.mem_of_getElem? hc
      have dc := Bd.dep_mem hcm
      have le := Bd.part_le hc
      refine ⟨r, _, rfl, SqT.of gR, rfl, _, _, rfl, _, _, rfl, rfl, ?_⟩
      refine ⟨_, rfl, _, rfl, x, c, rfl, hd2.mono sR, Bd.ok_parts ok c hcm, by omega, by omega, by omega, fun r2 H4 s4 fr2 h4 => ?_⟩
      obtain ⟨_, os, er, ho, hol⟩ := YU h4
      cases er
      refine ⟨r2, rfl, ⟨_, SqL.of ho⟩, ?_⟩
      refine comp_ways (K := K) i ho hol (fun w hw => Nat.le_trans (Bd.way_len _ c (Nat.le_refl _) w hw) (by omega)) (by omega) ?_ ?_
      · intro pw w0 Hx R hpw lw hR
        refine ⟨_, rfl, by show 1 <= sizeLine; decide, fun t1 ht1 => ?_⟩
        have sT := ZE ht1 (.tup [.int ((i : Nat) : Int)])
        have gT : upd Hx t1 (.tup [.int ((i : Nat) : Int)]) t1 = some (.tup [.int ((i : Nat) : Int)]) := ZD
        generalize upd Hx t1 (.tup [.int ((i : Nat) : Int)]) = HT at sT gT ⊢
        refine ⟨_, rfl, t1, pw, _, _, rfl, rfl, SqT.of gT, SqT.of (sT _ _ hpw), by simp, Nat.le_of_lt (ZP (by simp; omega)), fun e => ?_, fun ne p hp => ?_⟩
        · have e' : w0 = [] := by cases w0 with | nil => rfl | cons _ _ => cases e
          subst e'
          exact hR t1 HT sT gT
        · exact hR p _ (sT.trans (ZE hp _)) ZD
      · intro vs H5 p s5 hp lv hvs
        have s6 := ZE hp (.lst vs)
        have g6 : upd H5 p (.lst vs) p = some (.lst vs) := ZD
        generalize upd H5 p (.lst vs) = H6 at s6 g6 ⊢
        have sA : Same Hi H6 := ((sR.trans s4).trans s5).trans s6
        have lz := hzi.length
        rw [List.length_map, List.length_cons] at lz
        refine ⟨fl, p, zs, vs, rfl, rfl, sA _ _ hfi, g6, Nat.le_of_lt (ZP (by omega)), fun p7 hp7 => ?_⟩
        have s7 := ZE hp7 (.lst (zs ++ vs))
        have sB := (si.trans sA).trans s7
        refine ⟨sB, p7, zs ++ vs, (s03.trans (si.trans sA)).free hp7, ZD, ?_, _, _, rfl⟩
        rw [Bd.pls_snoc hc, <- List.cons_append, List.map_append]
        exact HasL.append ((hzi.mono sA).mono s7) ((hvs.mono s6).mono s7)
  · rintro σ Hi ⟨si, fl, zs, ffl, hfi, hzi, z2, z3, rfl⟩
    rw [lx, List.take_length, <- Bd.places_eq] at hzi
    exact ⟨_, rfl, q fl Hi (s03.trans si) ffl (YG hfi hzi)⟩
theorem JY {m : Nat} : FnOk P w K mg base CX0 m f fd ["body"] (YH 0) :=
  ⟨fun vs H Q E h => let ⟨_, _, _, _, _, hd, _⟩ := h; absurd hd (Nat.not_lt_zero _), fun A outer s H args us vs Q E _ _ _ _ h => let ⟨_, _, _, _, _, hd, _⟩ := h; absurd hd (Nat.not_lt_zero _)⟩
theorem places_fn (me : mg "enumerate" = none) (F : Fun K "places" "places" VJ f fd) (bG : Binds K fd ["body"] []) (mG : mg "places" = some (.ref f)) (DR : Df P w K mg base 1 "parts" ["body"] VI) : ∀ n, FnOk P w K mg base CX0 (1 + n) f fd ["body"] (YH n)
  | 0 => JY
  | n + 1 => ok_places (m := 1 + n) me F (places_fn me F bG mG DR n) bG mG (DR.up (by omega))
theorem placesL_fn (me : mg "enumerate" = none) (F : Fun K "_law_places" "_law_places" Yy f fd) (bG : Binds K fd ["body"] []) (mG : mg "_law_places" = some (.ref f)) (DR : Df P w K mg base 1 "_law_parts" ["body"] Ya) : ∀ n, FnOk P w K mg base CX0 (1 + n) f fd ["body"] (YH n)
  | 0 => JY
  | n + 1 => ok_placesL (m := 1 + n) me F (placesL_fn me F bG mG DR n) bG mG (DR.up (by omega))
end
end K4
namespace L2
open PySem PySem.Spec PyProof.Rows
def ZI (h : Heap) (z TI TO : Addr) (f0 f1 : Value) : Prop := h.get? z = some { cls := .type "zip", dict := none, data := .fields #[f0, f1, .bool false, .ref TI, .ref TO], slots := #[] }
section
variable {prog : Program} {w : World} {A : Around} {E : Value -> Shared -> Prop} {s : Shared}
theorem alive_go {α : Type} {a : Addr} {o : Obj} {m : Option Obj -> Sem α} {Q : α -> Shared -> Prop} (h : s.heap.get? a = some o) (q : wpAny (model prog w) A (m (some o)) Q E s) : wpAny (model prog w) A (loadIfAlive a >>= m) Q E s := by
  intro Γ p hi
  show Sem.wp _ Γ (Sem.loadIfAlive a fun x => m x) _ _ p s
  rw [Sem.wp_loadIfAlive, h]
  exact q Γ p hi
theorem zc_item {z TI TO i1 i2 l1 l2 T : Addr} {t1 t2 : Bool} {k : Nat} {xs ys : Array Value} {x y f1 : Value} {oT : Obj} {Q : Option Value -> Shared -> Prop} (D : ZipApart z TI TO i1 i2 l1 l2)
    (hz : ZI s.heap z TI TO (rawInt T) f1) (hT : s.heap.get? T = some oT) (hf : f1 = .bool false ∨ f1 = .bool true) (its : IsPair s.heap TI (.ref i1) (.ref i2)) (one : SI t1 s.heap i1 l1 k xs) (two : SI t2 s.heap i2 l2 k ys) (hx : xs[k]? = some x) (hy : ys[k]? = some y)
    (hQ : ∀ g, ZI g z TI TO (rawInt T) (.bool true) -> SJ t1 g i1 l1 (k + 1) -> SJ t2 g i2 l2 (k + 1) -> IsPair g s.heap.objs.size x y -> g.objs.size = s.heap.objs.size + 1 -> (∀ c o, c ≠ z -> c ≠ i1 -> c ≠ i2 -> s.heap.get? c = some o -> g.get? c = some o) -> Q (some (.ref s.heap.objs.size)) { s with heap := g }) :
    (wpAny (model prog w) A (pyNext (.ref z)) Q E s) := by
  have hTy : s.TypeIs (.ref z) "zip" := ⟨_, hz, rfl⟩
  simp only [pyNext]
  refine wpAny_bind (wpAny_attempt (wpAny_callSpecial?_slot (name := Str.ofString "__next__") hTy F.slot_zip_next (wpAny_call_entry F.slot_zip_next hTy F.entry_zip_next ?_ (F.args_zip_next_1 _))))
  refine wpAny_bind (m := field (.ref z) 2) (wpAny_field hz rfl (x := .bool false) rfl (wpAny_bind (m := field (.ref z) 3) (wpAny_field hz rfl (x := .ref TI) rfl (wpAny_bind (wpAny_seqItems its rfl ?_)))))
  refine wpAny_bind (m := Builtin.SmallTypes.ownedTupleIsFree (.ref z)) (wpAny_bind (m := field (.ref z) 0) (wpAny_field hz rfl (x := rawInt T) rfl ?_))
  simp only [rawInt]
  refine alive_go (o := oT) (by simpa using hT) ?_
  rw [if_neg (by simp)]
  refine wpAny_bind (m := field (.ref z) 1) (wpAny_field hz rfl (x := f1) rfl ?_)
  suffices main : ∀ g0, ZI g0 z TI TO (rawInt T) (.bool true) -> Heap.SameBut z s.heap g0 -> wpAny (model prog w) A.in1 _ _ _ { s with heap := g0 } by
    rcases hf with rfl | rfl
    · rw [if_pos (by rfl)]
      refine wpAny_bind (wpAny_setField_rec hz (by simp) fun g0 z0 s0 => wpAny_pure ?_)
      rw [if_neg (by simp)]
      exact main g0 z0 s0
    · rw [if_neg (by decide)]
      refine wpAny_pure ?_
      rw [if_neg (by simp)]
      exact main s.heap hz ⟨rfl, fun _ _ => rfl⟩
  intro g0 z0 s0
  rw [<- Array.forIn_toList]
  simp only [List.forIn_nil, List.forIn_cons]
  have o1 := one.but s0.extBut D.i1z D.l1z
  have o2 := two.but s0.extBut D.i2z D.l2z
  refine wpAny_bind (wpAny_bind (wpAny_bind (wpAny_holding (?_ : wpAny _ _ (Builtin.SmallTypes.nextOf (.ref i1) >>= _) _ _ _))))
  refine wpAny_bind (Vg (s := { s with heap := g0 }) o1 D.l1i1 hx fun g2 a2 s2 => wpAny_pure (wpAny_pure ?_))
  replace s2 : Heap.SameBut i1 g0 g2 := s2
  have o2' : SI t2 g2 i2 l2 k ys := o2.but s2.extBut D.i12.symm D.l2i1
  refine wpAny_bind (wpAny_bind (wpAny_holding (?_ : wpAny _ _ (Builtin.SmallTypes.nextOf (.ref i2) >>= _) _ _ _)))
  refine wpAny_bind (Vg (s := { s with heap := g2 }) o2' D.l2i2 hy fun g3 a3 s3 => wpAny_pure (wpAny_pure (wpAny_pure ?_)))
  replace s3 : Heap.SameBut i2 g2 g3 := s3
  refine wpAny_bind (wpAny_newTuple (hsz := by show 2 <= sizeLine; decide) (wpAny_pure ⟨_, rfl, wpAny_pure ?_⟩))
  have sz : g3.objs.size = s.heap.objs.size := by rw [s3.1, s2.1, s0.1]
  show Q (some (.ref g3.objs.size)) _
  have hq := hQ (g3.push { cls := .type "tuple", data := .seq #[x, y] })
  rw [sz]
  refine hq (Heap.get?_push_of_some _ (s3.extBut _ _ D.i2z.symm (s2.extBut _ _ D.i1z.symm z0))) ?_ ?_ ?_ (by rw [Heap.size_push, sz]) ?_
  · exact (a2.sj.to fun o e => s3.extBut _ _ D.i12 e).to fun o e => Heap.get?_push_of_some _ e
  · exact a3.sj.to fun o e => Heap.get?_push_of_some _ e
  · have := Heap.get?_push_size g3 (o := { cls := .type "tuple", data := .seq #[x, y] }) rfl
    rw [sz] at this; exact this
  · intro c o c1 c2 c3 e
    exact Heap.get?_push_of_some _ (s3.extBut _ _ c3 (s2.extBut _ _ c2 (s0.extBut _ _ c1 e)))
theorem zc_end {z TI TO i1 i2 l1 l2 T : Addr} {t1 t2 : Bool} {k : Nat} {xs : Array Value} {f1 : Value} {oT : Obj} {Q : Option Value -> Shared -> Prop} (hh : A.handled = none) (D : ZipApart z TI TO i1 i2 l1 l2)
    (hz : ZI s.heap z TI TO (rawInt T) f1) (hT : s.heap.get? T = some oT) (hf : f1 = .bool false ∨ f1 = .bool true) (its : IsPair s.heap TI (.ref i1) (.ref i2)) (one : SI t1 s.heap i1 l1 k xs) (hx : xs[k]? = none)
    (hQ : ∀ g, (∀ c o, c ≠ z -> c ≠ i1 -> c ≠ i2 -> s.heap.get? c = some o -> g.get? c = some o) -> Q none { s with heap := g }) : wpAny (model prog w) A (pyNext (.ref z)) Q E s := by
  have hTy : s.TypeIs (.ref z) "zip" := ⟨_, hz, rfl⟩
  simp only [pyNext]
  refine wpAny_bind (wpAny_attempt (wpAny_callSpecial?_slot (name := Str.ofString "__next__") hTy F.slot_zip_next (wpAny_call_entry F.slot_zip_next hTy F.entry_zip_next ?_ (F.args_zip_next_1 _))))
  refine wpAny_bind (m := field (.ref z) 2) (wpAny_field hz rfl (x := .bool false) rfl (wpAny_bind (m := field (.ref z) 3) (wpAny_field hz rfl (x := .ref TI) rfl (wpAny_bind (wpAny_seqItems its rfl ?_)))))
  refine wpAny_bind (m := Builtin.SmallTypes.ownedTupleIsFree (.ref z)) (wpAny_bind (m := field (.ref z) 0) (wpAny_field hz rfl (x := rawInt T) rfl ?_))
  simp only [rawInt]
  refine alive_go (o := oT) (by simpa using hT) ?_
  rw [if_neg (by simp)]
  refine wpAny_bind (m := field (.ref z) 1) (wpAny_field hz rfl (x := f1) rfl ?_)
  suffices main : ∀ g0, ZI g0 z TI TO (rawInt T) (.bool true) -> Heap.SameBut z s.heap g0 -> wpAny (model prog w) A.in1 _ _ _ { s with heap := g0 } by
    rcases hf with rfl | rfl
    · rw [if_pos (by rfl)]
      refine wpAny_bind (wpAny_setField_rec hz (by simp) fun g0 z0 s0 => wpAny_pure ?_)
      rw [if_neg (by simp)]
      exact main g0 z0 s0
    · rw [if_neg (by decide)]
      refine wpAny_pure ?_
      rw [if_neg (by simp)]
      exact main s.heap hz ⟨rfl, fun _ _ => rfl⟩
  intro g0 z0 s0
  rw [<- Array.forIn_toList]
  simp only [List.forIn_nil, List.forIn_cons]
  have o1 := one.but s0.extBut D.i1z D.l1z
  refine wpAny_bind (wpAny_bind (wpAny_bind (wpAny_holding (?_ : wpAny _ _ (Builtin.SmallTypes.nextOf (.ref i1) >>= _) _ _ _))))
  refine wpAny_bind (si_end (s := { s with heap := g0 }) hh o1 hx fun g2 e eg ⟨o, ho, hc⟩ => ?_)
  refine wpAny_bind (wpAny_isInstance (T := "StopIteration") (b := true) ⟨o, ho, hc⟩ isSubtype_stop (wpAny_pure (hQ _ ?_)))
  intro c o c1 c2 c3 e
  exact eg _ _ c2 (s0.extBut _ _ c1 e)
end
end L2
namespace L2
open PySem PySem.Spec PyProof.Rows
def ZC (h : Heap) (z TI TO : Addr) (t1 : Bool) (i1 l1 : Addr) (t2 : Bool) (i2 l2 : Addr) (i : Nat) : Prop :=
  IsPair h TI (.ref i1) (.ref i2) /\ SJ t1 h i1 l1 i /\ SJ t2 h i2 l2 i /\ ((IsZip h z TI TO .none /\ ∃ a b, IsPair h TO a b) ∨ ∃ (T : Addr) (f1 : Value) (oT : Obj), ZI h z TI TO (rawInt T) f1 /\ h.get? T = some oT /\ T ∉ [z, TO, i1, i2] /\ (f1 = .bool false ∨ f1 = .bool true))
def Prs (h : Heap) (ch : List Addr) (N : Nat) (xs ys : List Value) (Ts : List Addr) : Prop := ∀ (j : Nat) (T : Addr), Ts[j]? = some T -> T ∉ ch /\ N <= T /\ ∃ x y, xs[j]? = some x /\ ys[j]? = some y /\ IsPair h T x y
theorem Wk.keep2 {tp : Bool} {h h' : Heap} {l : Addr} {xs : Array Value} (z : Wk tp h l xs) (k : ∀ o, h.get? l = some o -> h'.get? l = some o) : Wk tp h' l xs := by
  cases tp with
  | false => exact let ⟨o, e, r⟩ := z; ⟨o, k _ e, r⟩
  | true => exact let ⟨o, e, r⟩ := z; ⟨o, k _ e, r⟩
section
variable {prog : Program} {w : World} {A : Around} {E : Value -> Shared -> Prop} {R : Result -> Shared -> Prop}
theorem tz_loop {z TI TO i1 i2 l1 l2 S : Addr} {t1 t2 : Bool} {xs ys : List Value} (hh : A.handled = none) (D : ZipApart z TI TO i1 i2 l1 l2) (hlen : xs.length = ys.length) (hn : xs.length <= sizeLine) (hS : S ∉ [z, TO, i1, i2, TI, l1, l2]) (res : Value) (N : Nat) :
    ∀ (k i : Nat) (s : Shared) (Ts : List Addr) (c : Nat), xs.length - i = k -> i <= xs.length -> ZC s.heap z TI TO t1 i1 l1 t2 i2 l2 i -> Wk t1 s.heap l1 xs.toArray -> Wk t2 s.heap l2 ys.toArray ->
    s.heap.get? S = some { cls := .type "list", dict := none, data := .seq (Ts.map Value.ref).toArray c, slots := #[] } -> Ts.length = i -> Prs s.heap [z, TO, i1, i2, S] N xs ys Ts -> TO < s.heap.objs.size -> N <= s.heap.objs.size ->
    (∀ h' Ts' c', (∀ b o, b ∉ [z, TO, i1, i2, S] -> s.heap.get? b = some o -> h'.get? b = some o) -> h'.get? S = some { cls := .type "list", dict := none, data := .seq (Ts'.map Value.ref).toArray c', slots := #[] } -> Ts'.length = xs.length -> Prs h' [z, TO, i1, i2, S] N xs ys Ts' -> R (.ok (.ret res)) { s with heap := h' }) ->
    codeAny (model prog w) A (.builtin "list.extend.loop" ⟨[.ref S, .ref z, res], []⟩) R s := by
  have nS : S ≠ z /\ S ≠ TO /\ S ≠ i1 /\ S ≠ i2 /\ S ≠ TI /\ S ≠ l1 /\ S ≠ l2 := by simpa using hS
  obtain ⟨nz, nTO, n1, n2, nTI, nl1, nl2⟩ := nS
  intro k
  induction k with
  | zero =>
    intro i s Ts c hk hi zc w1 w2 hSs lT pr hTO hN hR
    have e : i = xs.length := by omega
    subst e
    refine (codeAny_builtin F.entry_extend_loop ?_)
    rw [(Around.under_plainId F.plain_extend_loop _)]
    obtain ⟨itp, j1, j2, zz⟩ := zc
    have fin : ∀ g, (∀ b o, b ∉ [z, TO, i1, i2, S] -> s.heap.get? b = some o -> g.get? b = some o) -> g.get? S = some { cls := .type "list", dict := none, data := .seq (Ts.map Value.ref).toArray c, slots := #[] } -> R (.ok (.ret res)) { s with heap := g } := fun g kp hg =>
      hR g Ts c kp hg lT fun j T e => let ⟨a, nn, x, y, b1, b2, b3⟩ := pr j T e; ⟨a, nn, x, y, b1, b2, kp _ _ a b3⟩
    refine wpAny_bind (m := pyNext (.ref z)) ?_
    rcases zz with ⟨hz, ho⟩ | ⟨T, f1, oT, hz, hT, _, hf⟩
    · refine zs_end hh D ⟨hz, itp, ho, j1.si w1, j2.si w2⟩ (.inl (by simp)) fun g kp => wpAny_pure (fin g (fun b o hb e => ?_) ?_)
      · have hb' : b ≠ z /\ b ≠ TO /\ b ≠ i1 /\ b ≠ i2 /\ b ≠ S := by simpa using hb
        exact kp b o hb'.1 hb'.2.1 hb'.2.2.1 hb'.2.2.2.1 e
      · exact kp S _ nz nTO n1 n2 hSs
    · refine zc_end (t2 := t2) hh D hz hT hf itp (j1.si w1) (by simp) fun g kp => wpAny_pure (fin g (fun b o hb e => ?_) ?_)
      · have hb' : b ≠ z /\ b ≠ TO /\ b ≠ i1 /\ b ≠ i2 /\ b ≠ S := by simpa using hb
        exact kp b o hb'.1 hb'.2.2.1 hb'.2.2.2.1 e
      · exact kp S _ nz n1 n2 hSs
  | succ k ih =>
    intro i s Ts c hk hi zc w1 w2 hSs lT pr hTO hN hR
    have hlt : (i < xs.length) := by omega
    have hx : xs.toArray[i]? = some xs[i] := by simp [hlt]
    have hy : ys.toArray[i]? = some ys[i] := by simp
    refine (codeAny_builtin F.entry_extend_loop ?_)
    rw [(Around.under_plainId F.plain_extend_loop _)]
    obtain ⟨itp, j1, j2, zz⟩ := zc
    refine wpAny_bind (m := pyNext (.ref z)) ?_
    suffices step : ∀ g, ZC g z TI TO t1 i1 l1 t2 i2 l2 (i + 1) -> IsPair g s.heap.objs.size xs[i] ys[i] -> g.objs.size = s.heap.objs.size + 1 -> (∀ b o, b ≠ z -> b ≠ TO -> b ≠ i1 -> b ≠ i2 -> s.heap.get? b = some o -> g.get? b = some o) -> wpAny (model prog w) A.in1 _ _ _ { s with heap := g } by
      have lz : ∀ {o : Obj} {b : Addr}, s.heap.get? b = some o -> b < s.heap.objs.size := fun e => Heap.lt_size e
      have l1' : i1 < s.heap.objs.size := let ⟨_, e, _⟩ := j1.obj; lz e
      have l2' : i2 < s.heap.objs.size := let ⟨_, e, _⟩ := j2.obj; lz e
      rcases zz with ⟨hz, a, b, ho⟩ | ⟨T, f1, oT, hz, hT, nT, hf⟩
      · refine zs_item D ⟨hz, itp, ⟨a, b, ho⟩, j1.si w1, j2.si w2⟩ hx hy fun g zs ip sz kp => step g ⟨zs.its, zs.one.sj, zs.two.sj, .inr ⟨s.heap.objs.size, .bool false, _, zs.zip, ip, ?_, .inl rfl⟩⟩ ip sz kp
        have q1 := lz hz
        have q2 := lz ho
        intro hm
        have hm' : s.heap.objs.size = z ∨ s.heap.objs.size = TO ∨ s.heap.objs.size = i1 ∨ s.heap.objs.size = i2 := by simpa using hm
        rcases hm' with e | e | e | e <;> rw [e] at q1 q2 l1' l2' <;> first | exact absurd q1 (Nat.lt_irrefl _) | exact absurd q2 (Nat.lt_irrefl _) | exact absurd l1' (Nat.lt_irrefl _) | exact absurd l2' (Nat.lt_irrefl _)
      · have nT' : T ≠ z /\ T ≠ TO /\ T ≠ i1 /\ T ≠ i2 := by simpa using nT
        exact zc_item D hz hT hf itp (j1.si w1) (j2.si w2) hx hy fun g z' a1 a2 ip sz kp => step g ⟨kp _ _ D.TIz D.TIi1 D.TIi2 itp, a1, a2, .inr ⟨T, .bool true, oT, z', kp _ _ nT'.1 nT'.2.2.1 nT'.2.2.2 hT, nT, .inr rfl⟩⟩ ip sz fun b o b1 _ b3 b4 e => kp b o b1 b3 b4 e
    intro g zc' ip sz kp
    have hS' := kp S _ nz nTO n1 n2 hSs
    have lS : S < s.heap.objs.size := Heap.lt_size hSs
    obtain ⟨c2, hup⟩ : ∃ c2, (g.update S (Obj.mapSeq (·.push (.ref s.heap.objs.size)))).get? S = some { cls := .type "list", dict := none, data := .seq ((Ts ++ [s.heap.objs.size]).map Value.ref).toArray c2, slots := #[] } := by
      have e : ((Ts ++ [s.heap.objs.size]).map Value.ref).toArray = (Ts.map Value.ref).toArray.push (.ref s.heap.objs.size) := by simp
      rw [e]
      exact ⟨_, Heap.get?_update_self _ hS' rfl⟩
    have sb : ∀ b o, b ≠ S -> g.get? b = some o -> (g.update S (Obj.mapSeq (·.push (.ref s.heap.objs.size)))).get? b = some o := fun b o hb e => (Heap.get?_update_other _ _ (Ne.symm hb)).trans e
    have lt1 : l1 < s.heap.objs.size := w1.lt
    have lt2 : l2 < s.heap.objs.size := w2.lt
    have nST : s.heap.objs.size ≠ S := Nat.ne_of_gt lS
    refine wpAny_bind (m := updateSeq S (·.push (.ref s.heap.objs.size))) ?_
    refine wpAny_updateSeq (s := { s with heap := g }) hS' rfl (wpAny_pure ⟨plainId_quiet F.plain_extend_loop _, ih (i + 1) _ (Ts ++ [s.heap.objs.size]) c2 (by omega) hlt ?_ ?_ ?_ hup (by simp [lT]) ?_ ?_ ?_ fun h' Ts' c' kp' hS'' lT' pr' => ?_⟩) (by simp [lT]; omega) (by simp [lT]; omega)
    · obtain ⟨a1, a2, a3, a4⟩ := zc'
      refine ⟨sb _ _ (Ne.symm nTI) a1, a2.to fun o e => sb _ _ (Ne.symm n1) e, a3.to fun o e => sb _ _ (Ne.symm n2) e, ?_⟩
      rcases a4 with ⟨q1, a, b, q2⟩ | ⟨T, f1, oT, q1, q2, q3, q4⟩
      · exact .inl ⟨sb _ _ (Ne.symm nz) q1, a, b, sb _ _ (Ne.symm nTO) q2⟩
      · by_cases eT : T = S
        · exact .inr ⟨T, f1, _, sb _ _ (Ne.symm nz) q1, by rw [eT]; exact hup, q3, q4⟩
        · exact .inr ⟨T, f1, oT, sb _ _ (Ne.symm nz) q1, sb _ _ eT q2, q3, q4⟩
    · obtain ⟨o, y2, n, e, d⟩ := w1.fields
      exact w1.keep2 fun o e => sb _ _ (Ne.symm nl1) (kp _ _ D.l1z D.l1TO D.l1i1 D.l1i2 e)
    · exact w2.keep2 fun o e => sb _ _ (Ne.symm nl2) (kp _ _ D.l2z D.l2TO D.l2i1 D.l2i2 e)
    · intro j T e
      rcases Nat.lt_or_ge j Ts.length with hj | hj
      · rw [List.getElem?_append_left hj] at e
        obtain ⟨nm, nn, x, y, b1, b2, b3⟩ := pr j T e
        have nm' : T ≠ z /\ T ≠ TO /\ T ≠ i1 /\ T ≠ i2 /\ T ≠ S := by simpa using nm
        exact ⟨nm, nn, x, y, b1, b2, sb _ _ nm'.2.2.2.2 (kp _ _ nm'.1 nm'.2.1 nm'.2.2.1 nm'.2.2.2.1 b3)⟩
      · rw [List.getElem?_append_right hj] at e
        have hj0 : j - Ts.length = 0 := by
          cases h : j - Ts.length with
          | zero => rfl
          | succ m => rw [h] at e; simp at e
        rw [hj0] at e
        have eT : s.heap.objs.size = T := Option.some.inj e
        have ej : j = i := by omega
        subst eT
        refine ⟨?_, hN, xs[i], ys[i], (by have := List.getElem?_eq_getElem hlt; rw [ej]; exact this), (by have := List.getElem?_eq_getElem (show i < ys.length by omega); rw [show ys[j]? = ys[i]? by rw [ej]]; exact this), sb _ _ nST ip⟩
        have hzlt : z < s.heap.objs.size /\ TO < s.heap.objs.size := by
          rcases zz with ⟨q1, a, b, q2⟩ | ⟨T, f1, oT, q1, q2, q3, q4⟩
          · exact ⟨Heap.lt_size q1, Heap.lt_size q2⟩
          · exact ⟨Heap.lt_size q1, hTO⟩
        have l1' : i1 < s.heap.objs.size := let ⟨_, e, _⟩ := j1.obj; Heap.lt_size e
        have l2' : i2 < s.heap.objs.size := let ⟨_, e, _⟩ := j2.obj; Heap.lt_size e
        intro hm
        have hm' : s.heap.objs.size = z ∨ s.heap.objs.size = TO ∨ s.heap.objs.size = i1 ∨ s.heap.objs.size = i2 ∨ s.heap.objs.size = S := by simpa using hm
        rcases hm' with e | e | e | e | e
        · exact absurd hzlt.1 (by rw [e]; exact Nat.lt_irrefl _)
        · exact absurd hzlt.2 (by rw [e]; exact Nat.lt_irrefl _)
        · exact absurd l1' (by rw [e]; exact Nat.lt_irrefl _)
        · exact absurd l2' (by rw [e]; exact Nat.lt_irrefl _)
        · exact nST e
    · show TO < (g.update S _).objs.size
      rw [Heap.size_update, sz]; exact Nat.lt_succ_of_lt hTO
    · show N <= (g.update S _).objs.size
      rw [Heap.size_update, sz]; exact Nat.le_succ_of_le hN
    · refine hR h' Ts' c' (fun b o hb e => kp' b o hb ?_) hS'' lT' pr'
      have hb' : b ≠ z /\ b ≠ TO /\ b ≠ i1 /\ b ≠ i2 /\ b ≠ S := by simpa using hb
      exact sb _ _ hb'.2.2.2.2 (kp b o hb'.1 hb'.2.1 hb'.2.2.1 hb'.2.2.2.1 e)
end
end L2
namespace L2
open PySem PySem.Spec PyProof.Rows
theorem zip_len0 : typeLookup (.type "zip") (Str.ofString "__len__") = pure none := am_miss_of_fast (by decide +kernel)
theorem zip_hint0 : typeLookup (.type "zip") (Str.ofString "__length_hint__") = pure none := am_miss_of_fast (by decide +kernel)
section
variable {prog : Program} {w : World} {A : Around} {E : Value -> Shared -> Prop} {s : Shared}
theorem collect_zip {z TI TO i1 i2 l1 l2 : Addr} {t1 t2 : Bool} {xs ys : List Value} {Q : List Value -> Shared -> Prop} (hh : A.handled = none) (D : ZipApart z TI TO i1 i2 l1 l2) (hlen : xs.length = ys.length) (hn : xs.length <= sizeLine)
    (zr : ZR s.heap z TI TO t1 i1 l1 t2 i2 l2 0) (w1 : Wk t1 s.heap l1 xs.toArray) (w2 : Wk t2 s.heap l2 ys.toArray)
    (hQ : ∀ h' Ts, (∀ b o, b ∉ [z, TO, i1, i2] -> s.heap.get? b = some o -> h'.get? b = some o) -> Ts.length = xs.length -> Prs h' [z, TO, i1, i2] s.heap.objs.size xs ys Ts -> Q (Ts.map Value.ref) { s with heap := h' }) : wpAny (model prog w) A (collect (.ref z)) Q E s := by
  have lz : z < s.heap.objs.size := Heap.lt_size zr.zip
  have lTI : TI < s.heap.objs.size := Heap.lt_size zr.its
  have lTO : TO < s.heap.objs.size := let ⟨_, _, e⟩ := zr.out; Heap.lt_size e
  have li1 : i1 < s.heap.objs.size := let ⟨_, e, _⟩ := zr.one.obj; Heap.lt_size e
  have li2 : i2 < s.heap.objs.size := let ⟨_, e, _⟩ := zr.two.obj; Heap.lt_size e
  have ll1 := w1.lt
  have ll2 := w2.lt
  have ne : ∀ {b : Addr}, b < s.heap.objs.size -> s.heap.objs.size ≠ b := fun h => Nat.ne_of_gt h
  have hTy : ∀ {h : Heap}, h.get? z = s.heap.get? z -> (Shared.TypeIs { s with heap := h } (.ref z) "zip") := fun e => ⟨_, e.trans zr.zip, rfl⟩
  unfold collect
  refine (wpAny_bind (wpAny_runValue (codeAny_builtin F.entry_proto_collect ?_)))
  rw [(Around.under_plainId F.plain_proto_collect _)]
  refine wpAny_bind (m := newList []) (wpAny_newObj_type (wpAny_pure ⟨plainId_quiet F.plain_list_iadd _, codeAny_builtin F.entry_list_iadd ?_⟩))
  rw [(Around.under_plainId F.plain_list_iadd _)]
  have p0 : ∀ b o, s.heap.get? b = some o -> (s.heap.push { cls := .type "list", data := .seq ([] : List Value).toArray }).get? b = some o := fun b o e => Heap.get?_push_of_some _ e
  have hS1 : (s.heap.push { cls := .type "list", data := .seq ([] : List Value).toArray }).get? s.heap.objs.size = some { cls := .type "list", data := .seq ([] : List Value).toArray } := Heap.get?_push_size _ rfl
  refine (?_ : wpAny _ _ (Builtin.List.listExtendWith (.ref s.heap.objs.size) (.ref z) (.ref s.heap.objs.size)) _ _ _)
  simp only [Builtin.List.listExtendWith]
  have ty1 : Shared.TypeIs { s with heap := s.heap.push { cls := .type "list", data := .seq ([] : List Value).toArray } } (.ref z) "zip" := ⟨_, p0 _ _ zr.zip, rfl⟩
  refine wpAny_bind (wpAny_typeOf ty1 ?_)
  have q1 : Builtin.List.listSameRef (.ref s.heap.objs.size) (.ref z) = false := by simp [Builtin.List.listSameRef, ne lz]
  have q2 : (Value.type "zip" == Value.type "list") = false := by decide
  have q3 : (Value.type "zip" == Value.type "tuple") = false := by decide
  simp only [q1, q2, q3, Bool.or_false, Bool.false_eq_true, if_false]
  refine wpAny_bind (wpAny_pyIter_zip (s := { s with heap := s.heap.push { cls := .type "list", data := .seq ([] : List Value).toArray } }) (p0 _ _ zr.zip) ?_)
  refine (wpAny_bind (wpAny_holding ?_))
  simp only [Builtin.List.listLengthHint]
  refine wpAny_bind (wpAny_specialOf ty1 zip_len0 (?_ : wpAny _ _ (specialOf (Value.ref z) (Str.ofString "__length_hint__") >>= _) _ _ _))
  refine wpAny_bind (wpAny_specialOf ty1 zip_hint0 (wpAny_pure ?_))
  refine wpAny_bind (m := rule "list.extend.makes-room") (wpAny_rule (wpAny_bind (m := Builtin.List.listTouch (.ref s.heap.objs.size)) ?_))
  refine wpAny_bind (m := updateSeq s.heap.objs.size (·.push .none)) (wpAny_updateSeq (s := { s with heap := s.heap.push { cls := .type "list", data := .seq ([] : List Value).toArray } }) hS1 rfl ?_)
  have hS2 := Heap.get?_update_self (Obj.mapSeq (·.push Value.none)) hS1 rfl
  refine wpAny_updateSeq hS2 rfl ?_
  have hS3 := Heap.get?_update_self (Obj.mapSeq (·.pop)) hS2 rfl
  have oth : ∀ b o, s.heap.get? b = some o -> (((s.heap.push { cls := .type "list", data := .seq ([] : List Value).toArray }).update s.heap.objs.size (Obj.mapSeq (·.push Value.none))).update s.heap.objs.size (Obj.mapSeq (·.pop))).get? b = some o := fun b o e =>
    (Heap.get?_update_other _ _ (ne (Heap.lt_size e))).trans ((Heap.get?_update_other _ _ (ne (Heap.lt_size e))).trans (p0 b o e))
  refine wpAny_pure ⟨plainId_quiet F.plain_extend_loop _, tz_loop (xs := xs) (ys := ys) hh D hlen hn ?_ _ s.heap.objs.size xs.length 0 _ [] _ rfl (Nat.zero_le _) ⟨oth _ _ zr.its, zr.one.to fun o e => oth _ _ e, zr.two.to fun o e => oth _ _ e, .inl ⟨oth _ _ zr.zip, let ⟨a, b, e⟩ := zr.out; ⟨a, b, oth _ _ e⟩⟩⟩ (w1.keep2 fun o e => oth _ _ e) (w2.keep2 fun o e => oth _ _ e) hS3 rfl (fun j T e => by simp at e) ?_ ?_ fun h' Ts c kp hS lT pr => ?_⟩
  · intro hm
    have hm' : s.heap.objs.size = z ∨ s.heap.objs.size = TO ∨ s.heap.objs.size = i1 ∨ s.heap.objs.size = i2 ∨ s.heap.objs.size = TI ∨ s.heap.objs.size = l1 ∨ s.heap.objs.size = l2 := by simpa using hm
    rcases hm' with e | e | e | e | e | e | e
    · exact ne lz e
    · exact ne lTO e
    · exact ne li1 e
    · exact ne li2 e
    · exact ne lTI e
    · exact ne ll1 e
    · exact ne ll2 e
  · show TO < (((s.heap.push _).update _ _).update _ _).objs.size
    rw [Heap.size_update, Heap.size_update, Heap.size_push]
    exact Nat.lt_succ_of_lt lTO
  · show s.heap.objs.size <= (((s.heap.push _).update _ _).update _ _).objs.size
    rw [Heap.size_update, Heap.size_update, Heap.size_push]
    exact Nat.le_succ _
  · refine wpAny_bind (m := load s.heap.objs.size) (wpAny_load hS ?_)
    refine wpAny_pure ?_
    have hq := hQ h' Ts (fun b o hb e => kp b o (fun hm => ?_) (oth b o e)) lT fun j T e => ?_
    · simpa using hq
    · have hb' : b ≠ z /\ b ≠ TO /\ b ≠ i1 /\ b ≠ i2 := by simpa using hb
      have hm' : b = z ∨ b = TO ∨ b = i1 ∨ b = i2 ∨ b = s.heap.objs.size := by simpa using hm
      rcases hm' with z1 | z1 | z1 | z1 | z1
      · exact hb'.1 z1
      · exact hb'.2.1 z1
      · exact hb'.2.2.1 z1
      · exact hb'.2.2.2 z1
      · exact ne (Heap.lt_size e) z1.symm
    · obtain ⟨n1, r⟩ := pr j T e
      refine ⟨fun hm => n1 ?_, r⟩
      have hm' : T = z ∨ T = TO ∨ T = i1 ∨ T = i2 := by simpa using hm
      rcases hm' with z1 | z1 | z1 | z1 <;> rw [z1] <;> simp
end
end L2
namespace L2
open PySem PySem.Spec PyProof.Rows
section
variable {prog : Program} {w : World} {A : Around} {E : Value -> Shared -> Prop} {s : Shared}
theorem call_tuple_zip {z TI TO i1 i2 l1 l2 : Addr} {t1 t2 : Bool} {xs ys : List Value} {Q : Value -> Shared -> Prop} (hh : A.handled = none) (D : ZipApart z TI TO i1 i2 l1 l2) (hlen : xs.length = ys.length) (hn : xs.length <= sizeLine)
    (zr : ZR s.heap z TI TO t1 i1 l1 t2 i2 l2 0) (w1 : Wk t1 s.heap l1 xs.toArray) (w2 : Wk t2 s.heap l2 ys.toArray)
    (hQ : ∀ h' Ts, (∀ b o, b ∉ [z, TO, i1, i2] -> s.heap.get? b = some o -> h'.get? b = some o) -> Ts.length = xs.length -> Prs h' [z, TO, i1, i2] s.heap.objs.size xs ys Ts -> Q (.ref h'.objs.size) { s with heap := h'.push { cls := .type "tuple", data := .seq (Ts.map Value.ref).toArray } }) :
    wpAny (model prog w) A (call (.type "tuple") [.ref z]) Q E s := by
  refine callType_codes (Q₁ := fun obj s₁ => s₁.TypeIs obj "tuple" /\ Q obj s₁) F.called_tuple (F.typeCall_tuple_1 _) F.entry_object_init ?_ fun obj s₁ h₁ => ⟨h₁.1, F.args_object_init_2 obj _, object_init_meets F.called_tuple.init.lookup F.called_tuple.made (by decide) prog w A.in1 _ s₁ ⟨h₁.1, rfl, h₁.2⟩⟩
  refine codeAny_of_tree ?_
  show wpAny _ A.in1.in1 (do checkBuiltinCall "tuple.__new__" ⟨[.type "tuple", .ref z], []⟩; again (.builtin "tuple.__new__" ⟨[.type "tuple", .ref z], []⟩)) _ _ s
  refine (wpAny_bind (wpAny_of_eq (F.newCall_tuple_1 _) (wpAny_pure ⟨plainId_quiet F.plain_tuple_new _, codeAny_builtin F.entry_tuple_new ?_⟩)))
  rw [(Around.under_plainId F.plain_tuple_new _)]
  have a1 := sub_tuple_self
  have a2 := init_tuple_lookup
  have a3 := madeHere_tuple
  have a4 : s.TypeIs (.ref z) "zip" := ⟨_, zr.zip, rfl⟩
  have hh1 : A.in1.in1.handled = none := hh
  wp_walk using wpAny_typeOf a4, collect_zip hh1 D hlen hn zr w1 w2
  intro h' Ts kp lT pr
  refine (?_ : wpAny _ _ (Builtin.Tuple.tupleExact (Ts.map Value.ref).toArray >>= fun v => ret v) _ _ _)
  simp only [Builtin.Tuple.tupleExact]
  refine wpAny_bind (wpAny_newObj_type (wpAny_pure ⟨⟨_, Heap.get?_push_size _ rfl, rfl⟩, hQ h' Ts kp lT pr⟩) (by show (Ts.map Value.ref).toArray.size <= sizeLine; rw [List.size_toArray, List.length_map, lT]; exact hn))
end
theorem track_prs {X : Cx} {pins : List (Addr × Obj)} {σ : St} {s : Shared} {H0 : Hp} : ∀ {Ts : List Addr} {xs ys : List V} {H : Hp}, Inv X pins σ H s -> Same H0 H -> Ts.length = xs.length -> Ts.length = ys.length -> (∀ T ∈ Ts, VA X pins H0 T) -> (∀ T, H0 T = none -> H T = none ∨ ∃ zs, H T = some (.tup zs)) ->
    (∀ (j : Nat) (T : Addr), Ts[j]? = some T -> ∃ x y u v, xs[j]? = some x /\ ys[j]? = some y /\ RelV x u /\ RelV y v /\ IsPair s.heap T u v) ->
    ∃ H', Inv X pins σ H' s /\ Same H H' /\ (∀ T, H0 T = none -> H' T = none ∨ ∃ zs, H' T = some (.tup zs)) /\ (∀ T, T ∉ Ts -> H' T = H T) /\ ∀ (j : Nat) (T : Addr), Ts[j]? = some T -> ∃ x y, xs[j]? = some x /\ ys[j]? = some y /\ H' T = some (.tup [x, y])
  | [], xs, ys, H, I, s0, l1, l2, fp, tn, pr => ⟨H, I, Same.refl _, tn, fun _ _ => rfl, fun j T e => by simp at e⟩
  | T :: Ts, [], ys, H, I, s0, l1, l2, fp, tn, pr => by simp at l1
  | T :: Ts, _ :: _, [], H, I, s0, l1, l2, fp, tn, pr => by simp at l2
  | T :: Ts, x :: xs, y :: ys, H, I, s0, l1, l2, fp, tn, pr => by
    obtain ⟨x', y', u, v, e1, e2, ru, rv, ip⟩ := pr 0 T rfl
    have e1' : x = x' := Option.some.inj e1
    have e2' : y = y' := Option.some.inj e2
    subst e1' e2'
    have f0 := fp T List.mem_cons_self
    obtain ⟨H1, I1, s1, t1, k1, h1⟩ : ∃ H1, Inv X pins σ H1 s /\ Same H H1 /\ (∀ T, H0 T = none -> H1 T = none ∨ ∃ zs, H1 T = some (.tup zs)) /\ (∀ b, b ≠ T -> H1 b = H b) /\ H1 T = some (.tup [x, y]) := by
      rcases tn T f0.1 with hn | ⟨zs, hz⟩
      · refine ⟨upd H T (.tup [x, y]), I.retrack hn ⟨hn, f0.2⟩ ⟨by show 2 <= sizeLine; decide, [u, v], .cons ru (.cons rv .nil), ⟨_, ip, rfl, rfl, _, rfl⟩⟩, ZE hn _, fun b hb => ?_, fun b hb => ZJ hb, ZD⟩
        by_cases e : b = T
        · rw [e]; exact .inr ⟨_, ZD⟩
        · rw [ZJ e]; exact tn b hb
      · refine ⟨H, I, Same.refl _, tn, fun _ _ => rfl, ?_⟩
        obtain ⟨its, r, ⟨o, e, _, n, d⟩, _⟩ := I.tuple (SqT.of hz)
        rw [ip] at e
        have eo := Option.some.inj e
        subst eo
        injection d with d1 _
        have ei : [u, v] = its := by simpa using congrArg Array.toList d1
        subst ei
        have rr : Vals [x, y] [u, v] := .cons ru (.cons rv .nil)
        rw [hz, r.inj rr]
    obtain ⟨H2, I2, s2, t2, k2, h2⟩ := track_prs (Ts := Ts) (xs := xs) (ys := ys) I1 (s0.trans s1) (by simpa using l1) (by simpa using l2) (fun b hb => fp b (List.mem_cons_of_mem _ hb)) t1 fun j b e => pr (j + 1) b e
    refine ⟨H2, I2, s1.trans s2, t2, fun b hb => ?_, fun j b e => ?_⟩
    · have nb : b ≠ T /\ b ∉ Ts := by simpa using hb
      rw [k2 b nb.2, k1 b nb.1]
    · cases j with
      | zero =>
        have eb : T = b := Option.some.inj e
        subst eb
        exact ⟨x, y, rfl, rfl, s2 _ _ h1⟩
      | succ j => exact h2 j b e
def tTZ (K : PySem.W.Frag) (ta : TA) : TE := fun σ H Q => ta σ H fun vs H1 => ∃ (a b : Addr) (t1 t2 : Bool) (xs ys : List V), vs = [.ref a, .ref b] /\ Sq K t1 H1 a xs /\ Sq K t2 H1 b ys /\ xs.length = ys.length /\ xs.length <= 1000 /\
  ∀ (H' : Hp) (Ts : List Addr) (l : Addr), Same H1 H' -> Ts.length = xs.length -> (∀ (j : Nat) (T : Addr), Ts[j]? = some T -> ∃ x y, xs[j]? = some x /\ ys[j]? = some y /\ H' T = some (.tup [x, y])) -> H' l = some (.tup (Ts.map V.ref)) -> Q (.ref l) H'
theorem refs_vals : ∀ Ts : List Addr, Vals (Ts.map V.ref) (Ts.map Value.ref)
  | [] => .nil
  | T :: Ts => .cons rfl (refs_vals Ts)
theorem pe_tzip {X : Cx} {a b : Expr} {ta : TA} {p p1 pos pos1 : Pos} (hc : X.calm = true) (hg : Gl X "tuple") (hm : X.mg "tuple" = none) (hg2 : Gl X "zip") (hm2 : X.mg "zip" = none) (ha : PA X [a, b] ta)
    (hs : starEach [a, b] X.env = [(false, eval a X.env), (false, eval b X.env)] := by rfl) (hsb : starEach [b] X.env = [(false, eval b X.env)] := by rfl) (hs2 : starEach [Expr.Call (.Name "zip" p1) [a, b] [] pos1] X.env = [(false, eval (Expr.Call (.Name "zip" p1) [a, b] [] pos1) X.env)] := by rfl) :
    PE X (.Call (.Name "tuple" p) [.Call (.Name "zip" p1) [a, b] [] pos1] [] pos) (tTZ X.K ta) := by
  intro pins s σ H Q I h
  refine Call_ (Va I hg hm Zp (PyProof.Rows.callWith_type1 ?_ hs2 rfl))
  rw [hs2]
  refine (?_ : wpAny _ _ (spliced ((false, eval (Expr.Call (.Name "zip" p1) [a, b] [] pos1) X.env) :: [])) _ _ s)
  refine Calls.spliced_cons (Call_ (Va I hg2 hm2 boot_zip' (PyProof.Rows.callWith_type1 (thn (ha pos1 pins s σ H _ I h) fun us s1 ⟨vs, H1, I1, r1, q1⟩ => ?_) (by rw [hs, hsb]) (by rw [hsb]; rfl))))
  obtain ⟨l1, l2, t1, t2, xs, ys, e, q1, q2, le, l1000, q⟩ := q1
  subst e
  obtain ⟨u, w', rfl, ru, rw'⟩ := vals2 r1
  cases ru
  cases rw'
  obtain ⟨its1, rr1, w1⟩ := I1.sq q1
  obtain ⟨its2, rr2, w2⟩ := I1.sq q2
  have n1 := w1.lt
  have n2 := w2.lt
  have le1 := rr1.length
  have le2 := rr2.length
  refine call_zip w1 w2 fun g S kp => Calls.spliced_nil ?_
  have D := zap _ _ _ n1 n2
  refine call_tuple_zip (s := { s1 with heap := g }) (I.ok.hd hc) D (by omega) (Nat.le_of_lt (ZP (by omega))) S (w1.keep2 fun o e => kp _ _ e) (w2.keep2 fun o e => kp _ _ e) fun h' Ts kp' lT pr => ?_
  have gz : s1.heap.objs.size <= g.objs.size := Nat.le_of_lt (Nat.lt_of_le_of_lt (Nat.le_add_right _ _) (Heap.lt_size S.zip))
  have k1 : ∀ b o, s1.heap.get? b = some o -> (h'.push { cls := .type "tuple", data := .seq (Ts.map Value.ref).toArray }).get? b = some o := fun b o e => by
    refine Heap.get?_push_of_some _ (kp' b o (fun hm => ?_) (kp b o e))
    have lb := Heap.lt_size e
    have hm' : b = s1.heap.objs.size + 4 ∨ b = s1.heap.objs.size + 3 ∨ b = s1.heap.objs.size ∨ b = s1.heap.objs.size + 1 := by simpa using hm
    have hm2 : s1.heap.objs.size <= b := by rcases hm' with z | z | z | z <;> rw [z] <;> first | exact Nat.le_refl _ | exact Nat.le_add_right _ _
    exact absurd lb (Nat.not_lt_of_le hm2)
  have I2 : Inv X pins σ H1 { s1 with heap := h'.push { cls := .type "tuple", data := .seq (Ts.map Value.ref).toArray } } := I1.kept (t' := s1.toks) k1
  have fpT : ∀ {T : Addr}, s1.heap.objs.size <= T -> VA X pins H1 T := fun h => I1.fpOk h (I1.hok.fresh h)
  have big : ∀ T ∈ Ts, s1.heap.objs.size <= T /\ T < h'.objs.size := fun T hT => by
    obtain ⟨j, hj, e⟩ := List.mem_iff_getElem.mp hT
    obtain ⟨_, hN, x, y, _, _, ip⟩ := pr j T (by rw [List.getElem?_eq_getElem hj, e])
    exact ⟨Nat.le_trans gz hN, Heap.lt_size ip⟩
  obtain ⟨H', I3, s3, t3, k3, h3⟩ := track_prs (Ts := Ts) (xs := xs) (ys := ys) (H0 := H1) I2 (Same.refl _) (by omega) (by omega) (fun T hT => fpT (big T hT).1) (fun T hT => .inl hT) fun j T e => by
    obtain ⟨_, hN, u, v, e1, e2, ip⟩ := pr j T e
    have j1 : j < xs.length := by have := (List.getElem?_eq_some_iff.mp e1).1; omega
    have j2 : j < ys.length := by omega
    obtain ⟨u', hu', ru⟩ := rr1.get (List.getElem?_eq_getElem j1)
    obtain ⟨v', hv', rv⟩ := rr2.get (List.getElem?_eq_getElem j2)
    rw [e1] at hu'
    rw [e2] at hv'
    cases hu'
    cases hv'
    exact ⟨xs[j], ys[j], u, v, List.getElem?_eq_getElem j1, List.getElem?_eq_getElem j2, ru, rv, Heap.get?_push_of_some _ ip⟩
  have hl0 : s1.heap.objs.size <= h'.objs.size := by
    have e : ∃ o, h'.get? (s1.heap.objs.size + 2) = some o := ⟨_, kp' _ _ (by simp) S.its⟩
    obtain ⟨o, e⟩ := e
    exact Nat.le_of_lt (Nat.lt_of_le_of_lt (Nat.le_add_right _ _) (Heap.lt_size e))
  have hnl : H' h'.objs.size = none := by
    rw [k3 _ (fun hT => absurd (big _ hT).2 (Nat.lt_irrefl _))]
    exact I1.hok.fresh hl0
  have I4 := I3.retrack (D := h'.objs.size) (o := .tup (Ts.map V.ref)) hnl ⟨hnl, (fpT hl0).2⟩ ⟨by rw [List.length_map, lT]; exact Nat.le_of_lt (ZP (by omega)), Ts.map Value.ref, refs_vals Ts, ⟨_, Heap.get?_push_size _ rfl, rfl, rfl, _, rfl⟩⟩
  have s4 := ZE hnl (.tup (Ts.map V.ref))
  exact ⟨.ref h'.objs.size, _, I4, rfl, q _ Ts _ (s3.trans s4) (by omega) (fun j T e => let ⟨x, y, e1, e2, e3⟩ := h3 j T e; ⟨x, y, e1, e2, s4 _ _ e3⟩) ZD⟩
theorem brs_of {H : Hp} : ∀ {ts : List Str} {ys : List V} {cs : List Bd} {Ts : List Addr}, HasL H ys (Bd.dats cs) -> Ts.length = ts.length -> ts.length = ys.length -> (∀ (j : Nat) (T : Addr), Ts[j]? = some T -> ∃ x y, (ts.map V.str)[j]? = some x /\ ys[j]? = some y /\ H T = some (.tup [x, y])) -> HasL H (Ts.map V.ref) (Bd.brs cs ts)
  | [], ys, cs, Ts, h, l1, l2, pr => by
    have e : Ts = [] := List.length_eq_zero_iff.mp (by simpa using l1)
    subst e
    have e2 : ys = [] := List.length_eq_zero_iff.mp (by simpa using l2.symm)
    subst e2
    have lc := h.length
    rw [Bd.dats_map, List.length_map] at lc
    have e3 : cs = [] := List.length_eq_zero_iff.mp lc.symm
    subst e3
    unfold Bd.brs
    exact HasL.nil
  | t :: ts, ys, cs, Ts, h, l1, l2, pr => by
    cases ys with
    | nil => simp at l2
    | cons y ys =>
      have lc := h.length
      rw [Bd.dats_map, List.length_map] at lc
      cases cs with
      | nil => simp at lc
      | cons c cs =>
        cases Ts with
        | nil => simp at l1
        | cons T Ts =>
          unfold Bd.dats at h
          unfold HasL at h
          obtain ⟨x, y', e1, e2, hT⟩ := pr 0 T rfl
          have e1' : V.str t = x := Option.some.inj e1
          have e2' : y = y' := Option.some.inj e2
          subst e1' e2'
          unfold Bd.brs
          rw [List.map_cons]
          exact HasL.cons (ZZ hT (HasL.cons Zk (HasL.one h.1))) (brs_of h.2 (by simpa using l1) (by simpa using l2) fun j U e => pr (j + 1) U e)
end L2
namespace K4
open PySem L2
theorem scWith : FnScope ["body", "some", "word", "tags"] ["body", "some"] (ZN Yh) := ⟨rfl, rfl, rfl, by decide +kernel, rfl, by decide +kernel, by decide +kernel⟩
section
variable {P : Program} {w : World} {K : PySem.W.Frag} {mg : Str -> Option Value} {base : Heap} {f : Addr} {fd : FuncData}
def spWith : Sp := fun vs H Q _ => ∃ (v : V) (a : Addr) (ys : List V) (b : Bd) (cs : List Bd), vs = [v, .ref a] /\ Has H v b.dat /\ b.ok /\ H a = some (.tup ys) /\ HasL H ys (Bd.dats cs) /\ cs.length = b.parts.length /\ ∀ u H', Same H H' -> Has H' u (b.put cs).dat -> Q u H'
theorem ok_with {n : Nat} (B : Blt mg) (F : Fun K "with_parts" "with_parts" Yh f fd) : FnOk P w K mg base CX0 (n + 1) f fd ["body", "some"] spWith := by
  refine F.ok scWith (fun vs H Q E h => ?_) (fun cdv A outer s H vs Q E hr h => ?_)
  · obtain ⟨v, a, ys, b, cs, rfl, _⟩ := h
    rfl
  obtain ⟨v, a, ys, b, cs, rfl, hv, ok, ha, hy, lc, q⟩ := h
  refine ⟨_, ZG (ZT (i := 2) scWith.nd rfl (Or.inl rfl) (ZV Ze (pv 0) ZH (fun _ _ => rfl)))
    (ZG (Zt (ZY op_in_seq (pv 2) (Zn (ZA ZX (ZA ZX ZF))) (by rfl)) (ZL (ZW (pv 0))) Zb)
    (ZG (Zt (ZY YA (pv 2) ZX (Zd _))
      (ZG (ps_cmpr (i0 := 3) ["tag", "branch"] [] scWith.nd rfl (Or.inl rfl) (VX (ZV Ze (pv 0) ZH (fun _ _ => rfl))) gk_two (fun cl C fp s H => Y0 (n := 2) rfl (Zr (Za (i := 0) nd_tb rfl (Or.inl rfl) (Or.inr rfl)) (Zr (Za (i := 1) nd_tb rfl (Or.inl rfl) (Or.inr rfl)) Yc)))
          (fun cl C fp s H => pv 0))
      (ZL (ZW (Zn (ZA (pv 2) (ZA (ZV Ze (pv 1) ZH (fun _ _ => rfl)) (ZA (pe_tzip rfl rfl B.tuple rfl B.zip (ZA (pv 3) (ZA (Z8 Vr (pv 1) (YC ZH) YL) ZF))) ZF))))))) Zb)
    (ZG (Zt (ZY YA (pv 2) ZX (Zd _)) (ZL (ZW (Zn (ZA (pv 2) (ZA (ZV Ze (pv 0) ZH (fun _ _ => rfl)) (ZA (Zs Zq rfl B.tuple Zp (ZA (pv 1) ZF)) ZF)))))) Zb)
    (ZG (Zt (ZY YA (pv 2) ZX (Zd _)) (ZL (ZW (Zc Vl (Z8 Vr (pv 0) YL (YC ZH)) (Zs Zq rfl B.tuple Zp (ZA (pv 1) ZF))))) Zb)
    (ZL (ZW (Zc Vl (Zn (ZA (pv 2) ZF)) (Zs Zq rfl B.tuple Zp (ZA (pv 1) ZF))))))))), ?_⟩
  dsimp only [Y9, Cx.nox, Cx.wish]
  have few := Bd.few ok
  have ly := hy.length
  rw [Bd.dats_map, List.length_map] at ly
  cases b with
  | tag t =>
    have hv0 := hv
    unfold Bd.dat at hv
    obtain ⟨p, xs, rfl, hp, hl⟩ := Zh hv
    obtain ⟨x1, r1, rfl, h1, hlA⟩ := ZM hl
    obtain rfl := has_str h1
    refine ⟨_, rfl, p, _, 0, _, rfl, rfl, SqT.of hp, ZQ (j := 0) rfl, ?_⟩
    refine ⟨_, rfl, by show 2 <= sizeLine; decide, fun t1 ht1 => ?_⟩
    have s1 := ZE ht1 (.tup [V.str "tag", V.str "name"])
    refine ⟨t1, _, rfl, .inr (SqT.of ZD), rfl, rfl, _, rfl, YQ (by decide +kernel) ?_⟩
    exact ⟨_, rfl, q _ _ s1 (hv0.mono s1)⟩
  | name x =>
    have hv0 := hv
    unfold Bd.dat at hv
    obtain ⟨p, xs, rfl, hp, hl⟩ := Zh hv
    obtain ⟨x1, r1, rfl, h1, hlA⟩ := ZM hl
    obtain rfl := has_str h1
    refine ⟨_, rfl, p, _, 0, _, rfl, rfl, SqT.of hp, ZQ (j := 0) rfl, ?_⟩
    refine ⟨_, rfl, by show 2 <= sizeLine; decide, fun t1 ht1 => ?_⟩
    have s1 := ZE ht1 (.tup [V.str "tag", V.str "name"])
    refine ⟨t1, _, rfl, .inr (SqT.of ZD), rfl, rfl, _, rfl, YQ (by decide +kernel) ?_⟩
    exact ⟨_, rfl, q _ _ s1 (hv0.mono s1)⟩
  | pair c d =>
    unfold Bd.dat at hv
    obtain ⟨p, xs, rfl, hp, hl⟩ := Zh hv
    obtain ⟨x1, r1, rfl, h1, hlA⟩ := ZM hl
    obtain rfl := has_str h1
    refine ⟨_, rfl, p, _, 0, _, rfl, rfl, SqT.of hp, ZQ (j := 0) rfl, ?_⟩
    refine ⟨_, rfl, by show 2 <= sizeLine; decide, fun t1 ht1 => ?_⟩
    have s1 := ZE ht1 (.tup [V.str "tag", V.str "name"])
    refine ⟨t1, _, rfl, .inr (SqT.of ZD), rfl, rfl, _, rfl, Zo (by decide +kernel) ?_⟩
    generalize upd H t1 (.tup [V.str "tag", V.str "name"]) = H1 at s1 ⊢
    refine ⟨_, rfl, rfl, _, rfl, Zo (by decide +kernel) ?_⟩
    refine ⟨_, rfl, rfl, _, rfl, Zo (by decide +kernel) ?_⟩
    refine ⟨_, rfl, rfl, _, rfl, Zo (by decide +kernel) ?_⟩
    refine ⟨_, rfl, by show 1 <= sizeLine; decide, fun t2 ht2 => ?_⟩
    have s2 := ZE ht2 (.tup [.str "pair"])
    refine ⟨_, rfl, a, ys, rfl, .inr ⟨SqT.of (s2 _ _ (s1 _ _ ha)), ?_⟩⟩
    refine ⟨t2, a, _, _, rfl, rfl, SqT.of ZD, SqT.of (s2 _ _ (s1 _ _ ha)), by simp, Nat.le_of_lt (ZP (by simp only [List.length_singleton]; omega)), fun e => ?_, fun _ p5 hp5 => ?_⟩
    · rw [e] at ly; simp [Bd.parts] at lc; rw [lc] at ly; simp at ly
    · have s5 := ZE hp5 (.tup ([.str "pair"] ++ ys))
      have sA := (s1.trans s2).trans s5
      refine q _ _ sA ?_
      have hyA := hy.mono sA
      have e5 : upd (upd H1 t2 (.tup [.str "pair"])) p5 (.tup ([.str "pair"] ++ ys)) p5 = some (.tup ([.str "pair"] ++ ys)) := ZD
      match cs, lc, hyA with
      | [c1, c2], _, hyA =>
        show Has _ _ (Bd.pair c1 c2).dat
        unfold Bd.dat
        refine ZZ e5 (HasL.cons Zk ?_)
        simp only [Bd.dats] at hyA
        exact hyA
      | [], lc, _ => simp [Bd.parts] at lc
      | [_], lc, _ => simp [Bd.parts] at lc
      | _ :: _ :: _ :: _, lc, _ => simp [Bd.parts] at lc
  | one c =>
    unfold Bd.dat at hv
    obtain ⟨p, xs, rfl, hp, hl⟩ := Zh hv
    obtain ⟨x1, r1, rfl, h1, hlA⟩ := ZM hl
    obtain rfl := has_str h1
    refine ⟨_, rfl, p, _, 0, _, rfl, rfl, SqT.of hp, ZQ (j := 0) rfl, ?_⟩
    refine ⟨_, rfl, by show 2 <= sizeLine; decide, fun t1 ht1 => ?_⟩
    have s1 := ZE ht1 (.tup [V.str "tag", V.str "name"])
    refine ⟨t1, _, rfl, .inr (SqT.of ZD), rfl, rfl, _, rfl, Zo (by decide +kernel) ?_⟩
    generalize upd H t1 (.tup [V.str "tag", V.str "name"]) = H1 at s1 ⊢
    refine ⟨_, rfl, rfl, _, rfl, Zo (by decide +kernel) ?_⟩
    refine ⟨_, rfl, rfl, _, rfl, Zo (by decide +kernel) ?_⟩
    refine ⟨_, rfl, rfl, _, rfl, Zo (by decide +kernel) ?_⟩
    refine ⟨_, rfl, by show 1 <= sizeLine; decide, fun t2 ht2 => ?_⟩
    have s2 := ZE ht2 (.tup [.str "one"])
    refine ⟨_, rfl, a, ys, rfl, .inr ⟨SqT.of (s2 _ _ (s1 _ _ ha)), ?_⟩⟩
    refine ⟨t2, a, _, _, rfl, rfl, SqT.of ZD, SqT.of (s2 _ _ (s1 _ _ ha)), by simp, Nat.le_of_lt (ZP (by simp only [List.length_singleton]; omega)), fun e => ?_, fun _ p5 hp5 => ?_⟩
    · rw [e] at ly; simp [Bd.parts] at lc; rw [lc] at ly; simp at ly
    · have s5 := ZE hp5 (.tup ([.str "one"] ++ ys))
      have sA := (s1.trans s2).trans s5
      refine q _ _ sA ?_
      have hyA := hy.mono sA
      have e5 : upd (upd H1 t2 (.tup [.str "one"])) p5 (.tup ([.str "one"] ++ ys)) p5 = some (.tup ([.str "one"] ++ ys)) := ZD
      match cs, lc, hyA with
      | [c1], _, hyA =>
        show Has _ _ (Bd.one c1).dat
        unfold Bd.dat
        refine ZZ e5 (HasL.cons Zk ?_)
        simp only [Bd.dats] at hyA
        exact hyA
      | [], lc, _ => simp [Bd.parts] at lc
      | _ :: _ :: _, lc, _ => simp [Bd.parts] at lc
  | other c =>
    unfold Bd.dat at hv
    obtain ⟨p, xs, rfl, hp, hl⟩ := Zh hv
    obtain ⟨x1, r1, rfl, h1, hlA⟩ := ZM hl
    obtain rfl := has_str h1
    refine ⟨_, rfl, p, _, 0, _, rfl, rfl, SqT.of hp, ZQ (j := 0) rfl, ?_⟩
    refine ⟨_, rfl, by show 2 <= sizeLine; decide, fun t1 ht1 => ?_⟩
    have s1 := ZE ht1 (.tup [V.str "tag", V.str "name"])
    refine ⟨t1, _, rfl, .inr (SqT.of ZD), rfl, rfl, _, rfl, Zo (by decide +kernel) ?_⟩
    generalize upd H t1 (.tup [V.str "tag", V.str "name"]) = H1 at s1 ⊢
    refine ⟨_, rfl, rfl, _, rfl, Zo (by decide +kernel) ?_⟩
    refine ⟨_, rfl, rfl, _, rfl, Zo (by decide +kernel) ?_⟩
    refine ⟨_, rfl, rfl, _, rfl, Zo (by decide +kernel) ?_⟩
    refine ⟨_, rfl, by show 1 <= sizeLine; decide, fun t2 ht2 => ?_⟩
    have s2 := ZE ht2 (.tup [.str "other"])
    refine ⟨_, rfl, a, ys, rfl, .inr ⟨SqT.of (s2 _ _ (s1 _ _ ha)), ?_⟩⟩
    refine ⟨t2, a, _, _, rfl, rfl, SqT.of ZD, SqT.of (s2 _ _ (s1 _ _ ha)), by simp, Nat.le_of_lt (ZP (by simp only [List.length_singleton]; omega)), fun e => ?_, fun _ p5 hp5 => ?_⟩
    · rw [e] at ly; simp [Bd.parts] at lc; rw [lc] at ly; simp at ly
    · have s5 := ZE hp5 (.tup ([.str "other"] ++ ys))
      have sA := (s1.trans s2).trans s5
      refine q _ _ sA ?_
      have hyA := hy.mono sA
      have e5 : upd (upd H1 t2 (.tup [.str "other"])) p5 (.tup ([.str "other"] ++ ys)) p5 = some (.tup ([.str "other"] ++ ys)) := ZD
      match cs, lc, hyA with
      | [c1], _, hyA =>
        show Has _ _ (Bd.other c1).dat
        unfold Bd.dat
        refine ZZ e5 (HasL.cons Zk ?_)
        simp only [Bd.dats] at hyA
        exact hyA
      | [], lc, _ => simp [Bd.parts] at lc
      | _ :: _ :: _, lc, _ => simp [Bd.parts] at lc
  | choose e ts bs =>
    unfold Bd.dat at hv
    obtain ⟨p, xs, rfl, hp, hl⟩ := Zh hv
    obtain ⟨x1, r1, rfl, h1, hlA⟩ := ZM hl
    obtain rfl := has_str h1
    refine ⟨_, rfl, p, _, 0, _, rfl, rfl, SqT.of hp, ZQ (j := 0) rfl, ?_⟩
    refine ⟨_, rfl, by show 2 <= sizeLine; decide, fun t1 ht1 => ?_⟩
    have s1 := ZE ht1 (.tup [V.str "tag", V.str "name"])
    obtain ⟨x2, r2, rfl, h2, hlB⟩ := ZM hlA
    obtain ⟨x3, r3, rfl, h3, hlC⟩ := ZM hlB
    obtain rfl := YD hlC
    obtain ⟨pz, zs, rfl, hpz, hzl⟩ := Zh h3
    unfold Bd.ok at ok
    obtain ⟨o1, o2, o3, o4⟩ := ok
    have lz := hzl.length
    rw [Bd.brs_len o2] at lz
    refine ⟨t1, _, rfl, .inr (SqT.of ZD), rfl, rfl, _, rfl, Zo (by decide +kernel) ?_⟩
    generalize upd H t1 (.tup [V.str "tag", V.str "name"]) = H1 at s1 ⊢
    refine ⟨_, rfl, rfl, _, rfl, YQ (by decide +kernel) ?_⟩
    have hpz1 := s1 _ _ hpz
    refine ⟨_, rfl, p, _, 2, _, rfl, rfl, SqT.of (s1 _ _ hp), rfl, pz, rfl, ⟨_, SqT.of hpz1⟩, ?_⟩
    refine YJ zs.length (ZP (by omega)) (fun j vs H' => H' = H1 /\ vs = (ts.take j).map V.str /\ vs.length = j) ⟨rfl, rfl, rfl⟩ (fun j vs H' z => z.2.2) ?_ ?_ ?_ ?_
    · rintro j vs H' hj ⟨rfl, _⟩
      exact ⟨zs, zs[j], SqT.of hpz1, by simp [hj]⟩
    · rintro vs H' ⟨rfl, _⟩
      exact ⟨zs, SqT.of hpz1, Nat.le_refl _⟩
    · rintro j vs H' x H3 R hj ⟨rfl, z2, z3⟩ yl hR
      obtain ⟨rfl, y⟩ := yl
      obtain ⟨d, hd, hx1⟩ := hzl.get (y zs (SqT.of hpz1))
      obtain ⟨b, t0, hb0, ht0, rfl⟩ := Bd.brs_get hd
      obtain ⟨pp, us, rfl, hpp, hyl⟩ := Zh hx1
      obtain ⟨y1, r4, rfl, h4, hyA⟩ := ZM hyl
      obtain ⟨y2, r5, rfl, h5, hyB⟩ := ZM hyA
      obtain rfl := YD hyB
      obtain rfl := has_str h4
      refine ⟨pp, _, rfl, SqT.of (s1 _ _ hpp), rfl, _, _, rfl, _, [], rfl, rfl, ?_⟩
      refine ⟨_, rfl, hR _ _ ⟨rfl, ?_, by rw [List.length_append, z3]; rfl⟩⟩
      rw [show ts.take (j + 1) = ts.take j ++ [t0] from take_snoc ht0, List.map_append, <- z2]; rfl
    · rintro vs H' l ⟨rfl, z2, z3⟩ hl3
      rw [lz, List.take_length] at z2
      subst z2
      have s3 := ZE hl3 (.lst (ts.map V.str))
      have g3 : upd H' l (.lst (ts.map V.str)) l = some (.lst (ts.map V.str)) := ZD
      generalize upd H' l (.lst (ts.map V.str)) = H3 at s3 g3 ⊢
      have s13 := s1.trans s3
      match cs, lc, hy, ly with
      | [], lc, _, _ => simp [Bd.parts] at lc
      | c0 :: cs, lc, hy, ly =>
        match ys, hy, ha, ly with
        | [], hy, _, _ => unfold Bd.dats HasL at hy; exact hy.elim
        | y0 :: ys, hy, ha, ly =>
          unfold Bd.dats at hy
          unfold HasL at hy
          have lcs : cs.length = bs.length := by simpa [Bd.parts] using lc
          have lys : ys.length = cs.length := by simpa using ly
          refine ⟨_, rfl, _, rfl, a, _, 0, _, rfl, rfl, SqT.of (s13 _ _ ha), ZQ (j := 0) rfl, _, rfl, _, rfl, 1, rfl, a, _, rfl, SqT.of (s13 _ _ ha), by simp [HT.sIx], fun t4 ht4 => ?_⟩
          have e4 : Yj (y0 :: ys) (some 1) none = ys := by simp [Yj, HT.sIx]
          rw [e4]
          have s4 := ZE ht4 (.tup ys)
          have g4 : upd H3 t4 (.tup ys) t4 = some (.tup ys) := ZD
          generalize upd H3 t4 (.tup ys) = H4 at s4 g4 ⊢
          have lts : (ts.map V.str).length = ts.length := List.length_map _
          refine ⟨l, t4, false, true, ts.map V.str, ys, rfl, SqL.of (s4 _ _ g3), SqT.of g4, by omega, by omega, fun H5 Ts t5 s5 lT pr ht5 => ?_⟩
          refine ⟨by show 3 <= sizeLine; decide, fun t6 ht6 => ?_⟩
          have s6 := ZE ht6 (.tup [.str "choose", y0, .ref t5])
          have sA := (s13.trans s4).trans s5
          refine q _ _ (sA.trans s6) ?_
          show Has _ _ (Bd.choose c0 ts cs).dat
          unfold Bd.dat
          exact ZZ ZD (HasL.cons Zk (HasL.cons ((hy.1.mono sA).mono s6) (HasL.one (ZZ (s6 _ _ ht5) ((brs_of (hy.2.mono sA) (by omega) (by omega) pr).mono s6)))))
  | ask g as =>
    unfold Bd.dat at hv
    obtain ⟨p, xs, rfl, hp, hl⟩ := Zh hv
    obtain ⟨x1, r1, rfl, h1, hlA⟩ := ZM hl
    obtain rfl := has_str h1
    refine ⟨_, rfl, p, _, 0, _, rfl, rfl, SqT.of hp, ZQ (j := 0) rfl, ?_⟩
    refine ⟨_, rfl, by show 2 <= sizeLine; decide, fun t1 ht1 => ?_⟩
    have s1 := ZE ht1 (.tup [V.str "tag", V.str "name"])
    obtain ⟨x2, r2, rfl, h2, hlB⟩ := ZM hlA
    obtain rfl := has_str h2
    refine ⟨t1, _, rfl, .inr (SqT.of ZD), rfl, rfl, _, rfl, Zo (by decide +kernel) ?_⟩
    generalize upd H t1 (.tup [V.str "tag", V.str "name"]) = H1 at s1 ⊢
    refine ⟨_, rfl, rfl, _, rfl, Zo (by decide +kernel) ?_⟩
    refine ⟨_, rfl, rfl, _, rfl, YQ (by decide +kernel) ?_⟩
    refine ⟨_, rfl, _, rfl, p, _, 1, _, rfl, rfl, SqT.of (s1 _ _ hp), ZQ (j := 1) rfl, _, rfl, a, ys, rfl, .inr ⟨SqT.of (s1 _ _ ha), ?_⟩⟩
    refine ⟨by show 3 <= sizeLine; decide, fun t6 ht6 => ?_⟩
    have s6 := ZE ht6 (.tup [.str "ask", .str g, .ref a])
    refine q _ _ (s1.trans s6) ?_
    show Has _ _ (Bd.ask g cs).dat
    unfold Bd.dat
    exact ZZ ZD (HasL.cons Zk (HasL.cons Zk (HasL.one (ZZ (s6 _ _ (s1 _ _ ha)) ((hy.mono s1).mono s6)))))
  | letb x k c d =>
    unfold Bd.dat at hv
    obtain ⟨p, xs, rfl, hp, hl⟩ := Zh hv
    obtain ⟨x1, r1, rfl, h1, hlA⟩ := ZM hl
    obtain rfl := has_str h1
    refine ⟨_, rfl, p, _, 0, _, rfl, rfl, SqT.of hp, ZQ (j := 0) rfl, ?_⟩
    refine ⟨_, rfl, by show 2 <= sizeLine; decide, fun t1 ht1 => ?_⟩
    have s1 := ZE ht1 (.tup [V.str "tag", V.str "name"])
    obtain ⟨x2, r2, rfl, h2, hlB⟩ := ZM hlA
    obtain rfl := has_str h2
    obtain ⟨x3, r3, rfl, h3, hlC⟩ := ZM hlB
    obtain rfl := has_str h3
    have lr := hlC.length
    have l2 : r3.length = 2 := by simpa using lr
    refine ⟨t1, _, rfl, .inr (SqT.of ZD), rfl, rfl, _, rfl, Zo (by decide +kernel) ?_⟩
    generalize upd H t1 (.tup [V.str "tag", V.str "name"]) = H1 at s1 ⊢
    refine ⟨_, rfl, rfl, _, rfl, Zo (by decide +kernel) ?_⟩
    refine ⟨_, rfl, rfl, _, rfl, Zo (by decide +kernel) ?_⟩
    refine ⟨_, rfl, rfl, _, rfl, YQ (by decide +kernel) ?_⟩
    refine ⟨_, rfl, 3, rfl, p, _, rfl, SqT.of (s1 _ _ hp), by simp [HT.sIx, l2], fun t2 ht2 => ?_⟩
    have e2 : Yj (V.str "let" :: V.str x :: V.str k :: r3) none (some 3) = [.str "let", .str x, .str k] := by simp at lr; simp [Yj, HT.sIx, lr]
    rw [e2]
    have s2 := ZE ht2 (.tup [.str "let", .str x, .str k])
    refine ⟨_, rfl, a, ys, rfl, .inr ⟨SqT.of (s2 _ _ (s1 _ _ ha)), ?_⟩⟩
    refine ⟨t2, a, _, _, rfl, rfl, SqT.of ZD, SqT.of (s2 _ _ (s1 _ _ ha)), by simp, Nat.le_of_lt (ZP (by simp only [List.length_cons, List.length_nil]; omega)), fun e => ?_, fun _ p5 hp5 => ?_⟩
    · rw [e] at ly; simp [Bd.parts] at lc; rw [lc] at ly; simp at ly
    · have s5 := ZE hp5 (.tup ([.str "let", .str x, .str k] ++ ys))
      have sA := (s1.trans s2).trans s5
      refine q _ _ sA ?_
      have hyA := hy.mono sA
      have e5 : upd (upd H1 t2 (.tup [.str "let", .str x, .str k])) p5 (.tup ([.str "let", .str x, .str k] ++ ys)) p5 = some (.tup ([.str "let", .str x, .str k] ++ ys)) := ZD
      match cs, lc, hyA with
      | [c1, c2], _, hyA =>
        show Has _ _ (Bd.letb x k c1 c2).dat
        unfold Bd.dat
        refine ZZ e5 (HasL.cons Zk (HasL.cons Zk (HasL.cons Zk ?_)))
        simp only [Bd.dats] at hyA
        exact hyA
      | [], lc, _ => simp [Bd.parts] at lc
      | [_], lc, _ => simp [Bd.parts] at lc
      | _ :: _ :: _ :: _, lc, _ => simp [Bd.parts] at lc
end
end K4
namespace L2
open PySem
def Bd.exch : Bd -> List Int -> Bd -> Bd
  | _, [], c => c
  | b, i :: r, c => match b.parts[i.toNat]? with | some d => b.put (b.parts.set i.toNat (Bd.exch d r c)) | none => b
theorem pq_tnil (ds : List Dat) : (Dat.tup ds).pq (.tup []) = ds.isEmpty := by
  unfold Dat.pq
  cases ds with
  | nil => unfold Dat.pqs; rfl
  | cons d ds => unfold Dat.pqs; rfl
theorem way_dep (ws : List Int) : (Yt ws).dep <= 1 := by
  have : ∀ ws : List Int, Dat.deps (ws.map Dat.int) = 0 := by
    intro ws
    induction ws with
    | nil => unfold List.map Dat.deps; rfl
    | cons w ws ih => rw [List.map_cons]; unfold Dat.deps; rw [ih]; unfold Dat.dep; rfl
  unfold Yt Dat.dep; rw [this]; decide
theorem HasL.set {H : Hp} {u : V} {d : Dat} (hu : Has H u d) : ∀ {xs : List V} {ds : List Dat} {j : Nat}, HasL H xs ds -> HasL H (xs.set j u) (ds.set j d)
  | [], [], j, _ => by simp [HasL.nil]
  | [], _ :: _, _, h => by unfold HasL at h; exact h.elim
  | _ :: _, [], _, h => by unfold HasL at h; exact h.elim
  | x :: xs, e :: ds, 0, h => by unfold HasL at h; exact HasL.cons hu h.2
  | x :: xs, e :: ds, j + 1, h => by unfold HasL at h; exact HasL.cons h.1 (HasL.set hu h.2)
theorem dats_set (bs : List Bd) (j : Nat) (c : Bd) : Bd.dats (bs.set j c) = (Bd.dats bs).set j c.dat := by rw [Bd.dats_map, Bd.dats_map, List.map_set]
end L2
namespace K4
open PySem L2
theorem scExch : FnScope ["body", "place", "other", "some"] ["body", "place", "other"] (ZN sExch) := ⟨rfl, rfl, rfl, by decide +kernel, rfl, by decide +kernel, by decide +kernel⟩
theorem nd_rb : List.Nodup [("row" : Str), "branch"] := by decide +kernel
section
variable {P : Program} {w : World} {K : PySem.W.Frag} {mg : Str -> Option Value} {base : Heap} {f : Addr} {fd : FuncData}
def JF (n : Nat) : Sp := fun vs H Q _ => ∃ (v o : V) (a : Addr) (b c d : Bd) (ws : List Int), vs = [v, .ref a, o] /\ Has H v b.dat /\ b.ok /\ H a = some (.tup (ws.map V.int)) /\ Has H o c.dat /\ b.at ws = some d /\ ws.length < n /\ ws.length <= 100 /\ ∀ u H', Same H H' -> Has H' u (b.exch ws c).dat -> Q u H'
theorem ok_exch {n m : Nat} (B : Blt mg) (F : Fun K "_law_exchanged" "_law_exchanged" sExch f fd) (G : FnOk P w K mg base CX0 (m + 2) f fd ["body", "place", "other"] (JF n)) (bG : Binds K fd ["body", "place", "other"] []) (mG : mg "_law_exchanged" = some (.ref f)) (DR : Df P w K mg base (m + 2) "_law_parts" ["body"] Ya) :
    FnOk P w K mg base CX0 (m + 2 + 1) f fd ["body", "place", "other"] (JF (n + 1)) := by
  obtain ⟨gr, rd', mR, kR, bR, GR⟩ := DR
  refine F.ok scExch (fun vs H Q E h => ?_) (fun cdv A outer s H vs Q E hr h => ?_)
  · obtain ⟨v, o, a, b, c, d, ws, rfl, _⟩ := h
    rfl
  obtain ⟨v, o, a, b, c, d, ws, rfl, hv, ok, ha, ho, hat, ln, l100, q⟩ := h
  have hr2 := hr.mono (show 2 <= m + 2 by omega)
  refine ⟨_, ZG (Zt (ZY (op_eqD hr2) (pv 1) (Zn ZF) (Zd _)) (ZL (ZW (pv 2))) Zb)
    (ZG (ZT (i := 3) scExch.nd rfl (Or.inl rfl) (ZK GR hr rfl mR kR bR .nil ZU (ZA (pv 0) ZF)))
    (ZG (Y8 (ZK G hr rfl mG F.kp bG .nil ZU (ZA (ZV Zj (pv 3) (ZV Ze (pv 1) ZH (fun _ _ => rfl)) (fun _ _ => rfl)) (ZA (Z8 Vr (pv 1) (YC ZH) YL) (ZA (pv 2) ZF)))) (Vv (pv 3) (ZV Ze (pv 1) ZH (fun _ _ => rfl)) set_list))
    (ZG (Zt (ZY YA (ZV Ze (pv 0) ZH (fun _ _ => rfl)) ZX (Zd _))
      (ZL (ZW (Zn (ZA ZX (ZA (ZV Zj (pv 3) ZH (fun _ _ => rfl)) (ZA (Zs Zq rfl B.tuple Zp (ZA
        (Yv ["row", "branch"] [] (pi_zip rfl B.zip (ZA (ZV Ze (pv 0) ZH (fun _ _ => rfl)) (ZA (Z8 sl_list (pv 3) (YC ZH) YL) ZF))) gk_two (fun cl C fp s H => Y0 (n := 2) rfl (Zr (Za (i := 0) nd_rb rfl (Or.inl rfl) (Or.inr rfl)) (Zr (Za (i := 1) nd_rb rfl (Or.inl rfl) (Or.inr rfl)) Yc)))
          (fun cl C fp s H => Zn (ZA (ZV (r := rIxT K) Ze (pv 0) ZH (fun _ _ => rfl)) (ZA (pv 1) ZF)))) ZF)) ZF)))))) Zb)
    (ZG (Zt (ZY YA (ZV Ze (pv 0) ZH (fun _ _ => rfl)) ZX (Zd _)) (ZL (ZW (Zn (ZA ZX (ZA (ZV Ze (pv 0) ZH (fun _ _ => rfl)) (ZA (Zs Zq rfl B.tuple Zp (ZA (pv 3) ZF)) ZF)))))) Zb)
    (ZG (Zt (ZY YA (ZV Ze (pv 0) ZH (fun _ _ => rfl)) ZX (Zd _)) (ZL (ZW (Zn (ZA ZX (ZA (ZV Ze (pv 0) ZH (fun _ _ => rfl)) (ZA (ZV Ze (pv 0) ZH (fun _ _ => rfl)) (ZA (ZV Zj (pv 3) ZH (fun _ _ => rfl)) (ZA (ZV Zj (pv 3) ZH (fun _ _ => rfl)) ZF)))))))) Zb)
    (ZL (ZW (Zc Vl (Zn (ZA (ZV Ze (pv 0) ZH (fun _ _ => rfl)) ZF)) (Zs Zq rfl B.tuple Zp (ZA (pv 3) ZF)))))))))), ?_⟩
  dsimp only [Y9, Cx.nox, Cx.wish]
  refine ⟨_, rfl, by show 0 <= sizeLine; decide, fun t0 ht0 => ?_⟩
  have s0 := ZE ht0 (.tup [])
  have g0 : upd H t0 (.tup []) t0 = some (.tup []) := ZD
  generalize upd H t0 (.tup []) = H0 at s0 g0 ⊢
  refine ⟨Yt ws, .tup [], V1 (s0 _ _ ha), ZZ g0 HasL.nil, way_dep _, _, rfl, ?_⟩
  rw [show (Yt ws).pq (.tup []) = ws.isEmpty by unfold Yt; rw [pq_tnil]; cases ws <;> rfl]
  cases ws with
  | nil => exact YQ rfl ⟨_, rfl, q _ _ s0 (by show Has _ _ c.dat; exact ho.mono s0)⟩
  | cons i r =>
    refine Zo (by simp) ?_
    refine ⟨_, rfl, v, b, rfl, hv.mono s0, ok, fun sl H1 s1 fsl h1 => ?_⟩
    obtain ⟨_, xs, er, hsl, hxs⟩ := YU h1
    cases er
    have fs : H sl = none := s0.free fsl
    have lx := hxs.length
    rw [Bd.dats_map, List.length_map] at lx
    have few := Bd.few ok
    unfold Bd.at at hat
    by_cases i0 : 0 <= i
    case neg => rw [if_neg i0] at hat; cases hat
    rw [if_pos i0] at hat
    cases hpt : b.parts[i.toNat]? with
    | none => rw [hpt] at hat; cases hat
    | some pt =>
      rw [hpt] at hat
      have hi := (List.getElem?_eq_some_iff.mp hpt).1
      have hix : i.toNat < xs.length := by omega
      have em : i = ((i.toNat : Nat) : Int) := by omega
      obtain ⟨dd, hd1, hxp⟩ := hxs.get (List.getElem?_eq_getElem hix)
      rw [Bd.dats_map, List.getElem?_map, hpt] at hd1
      cases hd1
      have s01 := s0.trans s1
      have ax : atI xs i = some xs[i.toNat] := by
        have := ZQ (List.getElem?_eq_getElem hix)
        rw [<- em] at this; exact this
      have a0 : atI ((i :: r).map V.int) 0 = some (.int i) := ZQ (j := 0) rfl
      have e1 : Yj ((i :: r).map V.int) (some 1) none = r.map V.int := by
        simp [Yj, HT.sIx]
        exact (List.take_of_length_le (by simp))
      refine ⟨_, rfl, _, rfl, a, _, 0, _, rfl, rfl, SqT.of (s01 _ _ ha), a0, sl, _, i, _, rfl, rfl, SqL.of hsl, ax, _, rfl, 1, rfl, a, _, rfl, SqT.of (s01 _ _ ha), by simp [HT.sIx], fun t3 ht3 => ?_⟩
      rw [e1]
      have s3 := ZE ht3 (.tup (r.map V.int))
      have g3 : upd H1 t3 (.tup (r.map V.int)) t3 = some (.tup (r.map V.int)) := ZD
      generalize upd H1 t3 (.tup (r.map V.int)) = H3 at s3 g3 ⊢
      have s03 := s01.trans s3
      refine ⟨_, rfl, _, o, t3, pt, c, d, r, rfl, hxp.mono s3, Bd.ok_parts ok pt (List.mem_of_getElem? hpt), g3, ho.mono s03, hat, by simp at ln; omega, by simp at l100; omega, fun u H4 s4 hu4 => ?_⟩
      have s34 := s3.trans s4
      have s04 := s01.trans s34
      have ixj : ixN xs.length i = some i.toNat := by
        unfold ixN
        rw [if_pos i0, if_pos (by omega)]
      refine ⟨_, rfl, _, rfl, a, _, 0, _, rfl, rfl, SqT.of (s04 _ _ ha), a0, sl, xs, i, i.toNat, rfl, rfl, s34 _ _ hsl, ixj, ?_⟩
      have hsl4 := s34 _ _ hsl
      have sP : Same H (upd H4 sl (.lst (xs.set i.toNat u))) := s04.putN fs
      have tk5 : TK H4 (upd H4 sl (.lst (xs.set i.toNat u))) := fun b us h => by rw [ZJ (fun e => by rw [e, hsl4] at h; cases h)]; exact h
      have g5 : upd H4 sl (.lst (xs.set i.toNat u)) sl = some (.lst (xs.set i.toNat u)) := ZD
      have hx5 : HasL (upd H4 sl (.lst (xs.set i.toNat u))) (xs.set i.toNat u) (Bd.dats (b.parts.set i.toNat (pt.exch r c))) := by
        rw [dats_set]
        exact HasL.set (Z3 tk5 _ (Bd.st _) hu4) (Z5 tk5 _ (Bd.sts _) (hxs.mono s34))
      generalize upd H4 sl (.lst (xs.set i.toNat u)) = H5 at sP tk5 g5 hx5 ⊢
      have eq0 : b.exch (i :: r) c = b.put (b.parts.set i.toNat (pt.exch r c)) := by
        rw [Bd.exch, hpt]
      rw [eq0] at q
      have lcs : (b.parts.set i.toNat (pt.exch r c)).length = b.parts.length := List.length_set
      have lxs : (xs.set i.toNat u).length = b.parts.length := by rw [List.length_set, lx]
      generalize b.parts.set i.toNat (pt.exch r c) = cs at q hx5 lcs
      generalize xs.set i.toNat u = ys at g5 hx5 lxs
      have hv5 := hv.mono sP
      clear hxs hxp hsl hsl4 ax ixj hat hu4 hpt eq0
      cases b with
      | tag t => simp [Bd.parts] at hi
      | name t => simp [Bd.parts] at hi
      | pair c1 d1 =>
        unfold Bd.dat at hv5
        obtain ⟨p, xs0, rfl, hp, hl⟩ := Zh hv5
        obtain ⟨x1, r1, rfl, h1', hlA⟩ := ZM hl
        obtain rfl := has_str h1'
        refine ⟨_, rfl, p, _, 0, _, rfl, rfl, SqT.of hp, ZQ (j := 0) rfl, rfl, _, rfl, Zo (by decide +kernel) ?_⟩
        refine ⟨_, rfl, p, _, 0, _, rfl, rfl, SqT.of hp, ZQ (j := 0) rfl, rfl, _, rfl, Zo (by decide +kernel) ?_⟩
        refine ⟨_, rfl, p, _, 0, _, rfl, rfl, SqT.of hp, ZQ (j := 0) rfl, rfl, _, rfl, Zo (by decide +kernel) ?_⟩
        refine ⟨_, rfl, p, _, 0, _, rfl, rfl, SqT.of hp, ZQ (j := 0) rfl, by show 1 <= sizeLine; decide, fun t6 ht6 => ?_⟩
        have s6 := ZE ht6 (.tup [.str "pair"])
        have g6 : upd H5 t6 (.tup [.str "pair"]) t6 = some (.tup [.str "pair"]) := ZD
        generalize upd H5 t6 (.tup [.str "pair"]) = H6 at s6 g6 ⊢
        refine ⟨_, rfl, sl, ys, rfl, .inl ⟨SqL.of (s6 _ _ g5), fun t7 ht7 => ?_⟩⟩
        have s7 := ZE ht7 (.tup ys)
        have g7 : upd H6 t7 (.tup ys) t7 = some (.tup ys) := ZD
        generalize upd H6 t7 (.tup ys) = H7 at s7 g7 ⊢
        refine ⟨t6, t7, _, _, rfl, rfl, SqT.of (s7 _ _ g6), SqT.of g7, by simp, Nat.le_of_lt (ZP (by simp only [List.length_singleton]; omega)), fun e => ?_, fun _ p8 hp8 => ?_⟩
        · rw [e] at lxs; simp [Bd.parts] at lxs
        have s8 := ZE hp8 (.tup ([.str "pair"] ++ ys))
        have sA := (s6.trans s7).trans s8
        refine q _ _ (sP.trans sA) ?_
        have hyA := hx5.mono sA
        have e5 : upd H7 p8 (.tup ([.str "pair"] ++ ys)) p8 = some (.tup ([.str "pair"] ++ ys)) := ZD
        match cs, lcs, hyA with
        | [c1, c2], _, hyA =>
          show Has _ _ (Bd.pair c1 c2).dat
          unfold Bd.dat
          refine ZZ e5 (HasL.cons Zk ?_)
          simp only [Bd.dats] at hyA
          exact hyA
        | [], lc, _ => simp [Bd.parts] at lc
        | [_], lc, _ => simp [Bd.parts] at lc
        | _ :: _ :: _ :: _, lc, _ => simp [Bd.parts] at lc
      | one c1 =>
        unfold Bd.dat at hv5
        obtain ⟨p, xs0, rfl, hp, hl⟩ := Zh hv5
        obtain ⟨x1, r1, rfl, h1', hlA⟩ := ZM hl
        obtain rfl := has_str h1'
        refine ⟨_, rfl, p, _, 0, _, rfl, rfl, SqT.of hp, ZQ (j := 0) rfl, rfl, _, rfl, Zo (by decide +kernel) ?_⟩
        refine ⟨_, rfl, p, _, 0, _, rfl, rfl, SqT.of hp, ZQ (j := 0) rfl, rfl, _, rfl, Zo (by decide +kernel) ?_⟩
        refine ⟨_, rfl, p, _, 0, _, rfl, rfl, SqT.of hp, ZQ (j := 0) rfl, rfl, _, rfl, Zo (by decide +kernel) ?_⟩
        refine ⟨_, rfl, p, _, 0, _, rfl, rfl, SqT.of hp, ZQ (j := 0) rfl, by show 1 <= sizeLine; decide, fun t6 ht6 => ?_⟩
        have s6 := ZE ht6 (.tup [.str "one"])
        have g6 : upd H5 t6 (.tup [.str "one"]) t6 = some (.tup [.str "one"]) := ZD
        generalize upd H5 t6 (.tup [.str "one"]) = H6 at s6 g6 ⊢
        refine ⟨_, rfl, sl, ys, rfl, .inl ⟨SqL.of (s6 _ _ g5), fun t7 ht7 => ?_⟩⟩
        have s7 := ZE ht7 (.tup ys)
        have g7 : upd H6 t7 (.tup ys) t7 = some (.tup ys) := ZD
        generalize upd H6 t7 (.tup ys) = H7 at s7 g7 ⊢
        refine ⟨t6, t7, _, _, rfl, rfl, SqT.of (s7 _ _ g6), SqT.of g7, by simp, Nat.le_of_lt (ZP (by simp only [List.length_singleton]; omega)), fun e => ?_, fun _ p8 hp8 => ?_⟩
        · rw [e] at lxs; simp [Bd.parts] at lxs
        have s8 := ZE hp8 (.tup ([.str "one"] ++ ys))
        have sA := (s6.trans s7).trans s8
        refine q _ _ (sP.trans sA) ?_
        have hyA := hx5.mono sA
        have e5 : upd H7 p8 (.tup ([.str "one"] ++ ys)) p8 = some (.tup ([.str "one"] ++ ys)) := ZD
        match cs, lcs, hyA with
        | [c1], _, hyA =>
          show Has _ _ (Bd.one c1).dat
          unfold Bd.dat
          refine ZZ e5 (HasL.cons Zk ?_)
          simp only [Bd.dats] at hyA
          exact hyA
        | [], lc, _ => simp [Bd.parts] at lc
        | _ :: _ :: _, lc, _ => simp [Bd.parts] at lc
      | other c1 =>
        unfold Bd.dat at hv5
        obtain ⟨p, xs0, rfl, hp, hl⟩ := Zh hv5
        obtain ⟨x1, r1, rfl, h1', hlA⟩ := ZM hl
        obtain rfl := has_str h1'
        refine ⟨_, rfl, p, _, 0, _, rfl, rfl, SqT.of hp, ZQ (j := 0) rfl, rfl, _, rfl, Zo (by decide +kernel) ?_⟩
        refine ⟨_, rfl, p, _, 0, _, rfl, rfl, SqT.of hp, ZQ (j := 0) rfl, rfl, _, rfl, Zo (by decide +kernel) ?_⟩
        refine ⟨_, rfl, p, _, 0, _, rfl, rfl, SqT.of hp, ZQ (j := 0) rfl, rfl, _, rfl, Zo (by decide +kernel) ?_⟩
        refine ⟨_, rfl, p, _, 0, _, rfl, rfl, SqT.of hp, ZQ (j := 0) rfl, by show 1 <= sizeLine; decide, fun t6 ht6 => ?_⟩
        have s6 := ZE ht6 (.tup [.str "other"])
        have g6 : upd H5 t6 (.tup [.str "other"]) t6 = some (.tup [.str "other"]) := ZD
        generalize upd H5 t6 (.tup [.str "other"]) = H6 at s6 g6 ⊢
        refine ⟨_, rfl, sl, ys, rfl, .inl ⟨SqL.of (s6 _ _ g5), fun t7 ht7 => ?_⟩⟩
        have s7 := ZE ht7 (.tup ys)
        have g7 : upd H6 t7 (.tup ys) t7 = some (.tup ys) := ZD
        generalize upd H6 t7 (.tup ys) = H7 at s7 g7 ⊢
        refine ⟨t6, t7, _, _, rfl, rfl, SqT.of (s7 _ _ g6), SqT.of g7, by simp, Nat.le_of_lt (ZP (by simp only [List.length_singleton]; omega)), fun e => ?_, fun _ p8 hp8 => ?_⟩
        · rw [e] at lxs; simp [Bd.parts] at lxs
        have s8 := ZE hp8 (.tup ([.str "other"] ++ ys))
        have sA := (s6.trans s7).trans s8
        refine q _ _ (sP.trans sA) ?_
        have hyA := hx5.mono sA
        have e5 : upd H7 p8 (.tup ([.str "other"] ++ ys)) p8 = some (.tup ([.str "other"] ++ ys)) := ZD
        match cs, lcs, hyA with
        | [c1], _, hyA =>
          show Has _ _ (Bd.other c1).dat
          unfold Bd.dat
          refine ZZ e5 (HasL.cons Zk ?_)
          simp only [Bd.dats] at hyA
          exact hyA
        | [], lc, _ => simp [Bd.parts] at lc
        | _ :: _ :: _, lc, _ => simp [Bd.parts] at lc
      | choose e ts bs =>
        unfold Bd.dat at hv5
        obtain ⟨p, xs0, rfl, hp, hl⟩ := Zh hv5
        obtain ⟨x1, r1, rfl, h1', hlA⟩ := ZM hl
        obtain rfl := has_str h1'
        obtain ⟨x2, r2, rfl, h2', hlB⟩ := ZM hlA
        obtain ⟨x3, r3, rfl, h3', hlC⟩ := ZM hlB
        obtain rfl := YD hlC
        obtain ⟨pz, zs, rfl, hpz, hzl⟩ := Zh h3'
        unfold Bd.ok at ok
        obtain ⟨o1, o2, o3, o4⟩ := ok
        have lz := hzl.length
        rw [Bd.brs_len o2] at lz
        refine ⟨_, rfl, p, _, 0, _, rfl, rfl, SqT.of hp, ZQ (j := 0) rfl, rfl, _, rfl, YQ (by decide +kernel) ?_⟩
        match cs, lcs, hx5, lxs with
        | [], lc, _, _ => simp [Bd.parts] at lc
        | c0 :: cs, lcs, hx5, lxs =>
          match ys, hx5, g5, lxs with
          | [], hy, _, _ => unfold Bd.dats HasL at hy; exact hy.elim
          | y0 :: ys, hy, g5, lxs =>
            unfold Bd.dats at hy
            unfold HasL at hy
            have lcs' : cs.length = bs.length := by simpa [Bd.parts] using lcs
            have lys : ys.length = bs.length := by simpa [Bd.parts] using lxs
            refine ⟨_, rfl, sl, _, 0, _, rfl, rfl, SqL.of g5, ZQ (j := 0) rfl, ?_⟩
            refine ⟨_, rfl, p, _, 2, _, rfl, rfl, SqT.of hp, rfl, _, rfl, 1, rfl, sl, _, rfl, SqL.of g5, fun t4 ht4 => ?_⟩
            have e4 : Yj (y0 :: ys) (some 1) none = ys := by simp [Yj, HT.sIx]
            rw [e4]
            have s6 := ZE ht4 (.lst ys)
            have g6 : upd H5 t4 (.lst ys) t4 = some (.lst ys) := ZD
            generalize upd H5 t4 (.lst ys) = H6 at s6 g6 ⊢
            refine ⟨pz, t4, true, false, zs, ys, rfl, SqT.of (s6 _ _ hpz), SqL.of g6, ?_⟩
            have hz6 := hzl.mono s6
            have hy6 := hy.2.mono s6
            refine YJ zs.length (ZP (by omega)) (fun j vs H' => Same H6 H' /\ vs.length = j /\ HasL H' vs (Bd.brs (cs.take j) (ts.take j))) ⟨Same.refl _, rfl, by simp [Bd.brs, HasL.nil]⟩ (fun j vs H' z => z.2.1) ?_ ?_ ?_ ?_
            · rintro j vs H' hj ⟨sj, _⟩
              exact ⟨zs, ys, zs[j], ys[j]'(by omega), SqT.of (sj _ _ (s6 _ _ hpz)), SqL.of (sj _ _ g6), by simp [hj], by simp⟩
            · rintro vs H' ⟨sj, _⟩
              exact ⟨zs, ys, SqT.of (sj _ _ (s6 _ _ hpz)), SqL.of (sj _ _ g6), .inl (Nat.le_refl _)⟩
            · rintro j vs H' x H3' R hj ⟨sj, z2, z3⟩ yl hR
              obtain ⟨pp, x', y', rfl, hpn, rfl, hx', hy'⟩ := yl
              have ex := hx' zs (SqT.of (sj _ _ (s6 _ _ hpz)))
              have ey := hy' ys (SqL.of (sj _ _ g6))
              obtain ⟨d1, hd1, hx1⟩ := hz6.get ex
              obtain ⟨b1, t1, hb1, ht1, rfl⟩ := Bd.brs_get hd1
              obtain ⟨pr, us, rfl, hpr, hul⟩ := Zh hx1
              obtain ⟨y1, r4, rfl, h4', hyA⟩ := ZM hul
              obtain rfl := has_str h4'
              obtain ⟨d2, hd2, hy2⟩ := hy6.get ey
              rw [Bd.dats_map, List.getElem?_map] at hd2
              cases hc : cs[j]? with
              | none => rw [hc] at hd2; cases hd2
              | some cj =>
                rw [hc] at hd2
                cases hd2
                have sN := ZE hpn (.tup [.ref pr, y'])
                refine ⟨pp, _, rfl, SqT.of ZD, rfl, _, _, rfl, _, [], rfl, rfl, ?_⟩
                refine ⟨_, rfl, pr, _, 0, _, rfl, rfl, SqT.of (sN _ _ (sj _ _ hpr)), ZQ (j := 0) rfl, _, rfl, by show 2 <= sizeLine; decide, fun tq htq => ?_⟩
                have sQ := ZE htq (.tup [.str t1, y'])
                have sB := (sj.trans sN).trans sQ
                refine hR _ _ ⟨sB, by rw [List.length_append, z2]; rfl, ?_⟩
                rw [show cs.take (j + 1) = cs.take j ++ [cj] from take_snoc hc, show ts.take (j + 1) = ts.take j ++ [t1] from take_snoc ht1, brs_snoc (by rw [List.length_take, List.length_take]; omega)]
                exact HasL.append ((z3.mono sN).mono sQ) (HasL.one (ZZ ZD (HasL.cons Zk (HasL.one (hy2.mono sB)))))
            · rintro vs H' l ⟨sj, z2, z3⟩ hl7
              rw [List.take_of_length_le (by omega), List.take_of_length_le (by omega)] at z3
              have s7 := ZE hl7 (.lst vs)
              have g7 : upd H' l (.lst vs) l = some (.lst vs) := ZD
              generalize upd H' l (.lst vs) = H7 at s7 g7 ⊢
              refine ⟨l, vs, rfl, .inl ⟨SqL.of g7, fun t8 ht8 => ?_⟩⟩
              have s8 := ZE ht8 (.tup vs)
              have g8 : upd H7 t8 (.tup vs) t8 = some (.tup vs) := ZD
              generalize upd H7 t8 (.tup vs) = H8 at s8 g8 ⊢
              refine ⟨by show 3 <= sizeLine; decide, fun t9 ht9 => ?_⟩
              have s9 := ZE ht9 (.tup [.str "choose", y0, .ref t8])
              have sA := (s6.trans sj).trans (s7.trans s8)
              refine q _ _ ((sP.trans sA).trans s9) ?_
              show Has _ _ (Bd.choose c0 ts cs).dat
              unfold Bd.dat
              exact ZZ ZD (HasL.cons Zk (HasL.cons ((hy.1.mono sA).mono s9) (HasL.one (ZZ (s9 _ _ g8) (((z3.mono s7).mono s8).mono s9)))))
      | ask g as =>
        unfold Bd.dat at hv5
        obtain ⟨p, xs0, rfl, hp, hl⟩ := Zh hv5
        obtain ⟨x1, r1, rfl, h1', hlA⟩ := ZM hl
        obtain rfl := has_str h1'
        obtain ⟨x2, r2, rfl, h2', hlB⟩ := ZM hlA
        obtain rfl := has_str h2'
        refine ⟨_, rfl, p, _, 0, _, rfl, rfl, SqT.of hp, ZQ (j := 0) rfl, rfl, _, rfl, Zo (by decide +kernel) ?_⟩
        refine ⟨_, rfl, p, _, 0, _, rfl, rfl, SqT.of hp, ZQ (j := 0) rfl, rfl, _, rfl, YQ (by decide +kernel) ?_⟩
        refine ⟨_, rfl, p, _, 1, _, rfl, rfl, SqT.of hp, ZQ (j := 1) rfl, _, rfl, sl, ys, rfl, .inl ⟨SqL.of g5, fun t7 ht7 => ?_⟩⟩
        have s7 := ZE ht7 (.tup ys)
        have g7 : upd H5 t7 (.tup ys) t7 = some (.tup ys) := ZD
        generalize upd H5 t7 (.tup ys) = H7 at s7 g7 ⊢
        refine ⟨by show 3 <= sizeLine; decide, fun t9 ht9 => ?_⟩
        have s9 := ZE ht9 (.tup [.str "ask", .str g, .ref t7])
        refine q _ _ ((sP.trans s7).trans s9) ?_
        show Has _ _ (Bd.ask g cs).dat
        unfold Bd.dat
        exact ZZ ZD (HasL.cons Zk (HasL.cons Zk (HasL.one (ZZ (s9 _ _ g7) ((hx5.mono s7).mono s9)))))
      | letb x k c1 d1 =>
        unfold Bd.dat at hv5
        obtain ⟨p, xs0, rfl, hp, hl⟩ := Zh hv5
        obtain ⟨x1, r1, rfl, h1', hlA⟩ := ZM hl
        obtain rfl := has_str h1'
        obtain ⟨x2, r2, rfl, h2', hlB⟩ := ZM hlA
        obtain rfl := has_str h2'
        obtain ⟨x3, r3, rfl, h3', hlC⟩ := ZM hlB
        obtain rfl := has_str h3'
        refine ⟨_, rfl, p, _, 0, _, rfl, rfl, SqT.of hp, ZQ (j := 0) rfl, rfl, _, rfl, Zo (by decide +kernel) ?_⟩
        refine ⟨_, rfl, p, _, 0, _, rfl, rfl, SqT.of hp, ZQ (j := 0) rfl, rfl, _, rfl, Zo (by decide +kernel) ?_⟩
        refine ⟨_, rfl, p, _, 0, _, rfl, rfl, SqT.of hp, ZQ (j := 0) rfl, rfl, _, rfl, YQ (by decide +kernel) ?_⟩
        match cs, lcs, hx5, lxs with
        | [c2, d2], _, hx5, lxs =>
          match ys, hx5, g5 with
          | [y1, y2], hx5, g5 =>
            simp only [Bd.dats] at hx5
            unfold HasL HasL at hx5
            refine ⟨_, rfl, p, _, 1, _, rfl, rfl, SqT.of hp, ZQ (j := 1) rfl, ?_⟩
            refine ⟨_, rfl, p, _, 2, _, rfl, rfl, SqT.of hp, ZQ (j := 2) rfl, ?_⟩
            refine ⟨_, rfl, sl, _, 0, _, rfl, rfl, SqL.of g5, ZQ (j := 0) rfl, ?_⟩
            refine ⟨_, rfl, sl, _, 1, _, rfl, rfl, SqL.of g5, ZQ (j := 1) rfl, ?_⟩
            refine ⟨by show 5 <= sizeLine; decide, fun t9 ht9 => ?_⟩
            have s9 := ZE ht9 (.tup [.str "let", .str x, .str k, y1, y2])
            refine q _ _ (sP.trans s9) ?_
            show Has _ _ (Bd.letb x k c2 d2).dat
            unfold Bd.dat
            exact ZZ ZD (HasL.cons Zk (HasL.cons Zk (HasL.cons Zk (HasL.cons (hx5.1.mono s9) (HasL.one (hx5.2.1.mono s9))))))
          | [], h, _ => simp only [Bd.dats] at h; unfold HasL at h; exact h.elim
          | [_], h, _ => simp only [Bd.dats] at h; unfold HasL HasL at h; exact h.2.elim
          | _ :: _ :: _ :: _, h, _ => simp only [Bd.dats] at h; unfold HasL HasL HasL at h; exact h.2.2.elim
        | [], lc, _, _ => simp [Bd.parts] at lc
        | [_], lc, _, _ => simp [Bd.parts] at lc
        | _ :: _ :: _ :: _, lc, _, _ => simp [Bd.parts] at lc
theorem exch_zero {m : Nat} : FnOk P w K mg base CX0 m f fd ["body", "place", "other"] (JF 0) :=
  ⟨fun vs H Q E h => let ⟨_, _, _, _, _, _, _, _, _, _, _, _, _, hd, _⟩ := h; absurd hd (Nat.not_lt_zero _), fun A outer s H args us vs Q E _ _ _ _ h => let ⟨_, _, _, _, _, _, _, _, _, _, _, _, _, hd, _⟩ := h; absurd hd (Nat.not_lt_zero _)⟩
theorem exch_fn (B : Blt mg) (F : Fun K "_law_exchanged" "_law_exchanged" sExch f fd) (bG : Binds K fd ["body", "place", "other"] []) (mG : mg "_law_exchanged" = some (.ref f)) (DR : Df P w K mg base 1 "_law_parts" ["body"] Ya) : ∀ n, FnOk P w K mg base CX0 (2 + n) f fd ["body", "place", "other"] (JF n)
  | 0 => exch_zero
  | n + 1 => (ok_exch (m := n) B F ((exch_fn B F bG mG DR n).mono (by omega)) bG mG (DR.up (by omega))).mono (by omega)
end
end K4
namespace L2
open PySem
theorem Bd.at_snoc : ∀ {w : List Int} {b d : Bd} {j : Int}, b.at (w ++ [j]) = some d -> ∃ g, b.at w = some g /\ 0 <= j /\ g.parts[j.toNat]? = some d
  | [], b, d, j, h => by
    rw [List.nil_append] at h
    unfold Bd.at at h
    by_cases j0 : 0 <= j
    · rw [if_pos j0] at h
      cases e : b.parts[j.toNat]? with
      | none => rw [e] at h; cases h
      | some c =>
        rw [e] at h
        unfold Bd.at at h
        cases h
        exact ⟨b, by unfold Bd.at; rfl, j0, e⟩
    · rw [if_neg j0] at h; cases h
  | i :: w, b, d, j, h => by
    rw [List.cons_append] at h
    unfold Bd.at at h
    by_cases i0 : 0 <= i
    · rw [if_pos i0] at h
      cases e : b.parts[i.toNat]? with
      | none => rw [e] at h; cases h
      | some c =>
        rw [e] at h
        obtain ⟨g, h1, h2⟩ := Bd.at_snoc h
        refine ⟨g, ?_, h2⟩
        unfold Bd.at
        rw [if_pos i0, e]
        exact h1
    · rw [if_neg i0] at h; cases h
theorem Bd.at_ok : ∀ {w : List Int} {b d : Bd}, b.ok -> b.at w = some d -> d.ok
  | [], b, d, h, e => by unfold Bd.at at e; cases e; exact h
  | i :: w, b, d, h, e => by
    unfold Bd.at at e
    by_cases i0 : 0 <= i
    · rw [if_pos i0] at e
      cases ep : b.parts[i.toNat]? with
      | none => rw [ep] at e; cases e
      | some c => rw [ep] at e; exact Bd.at_ok (Bd.ok_parts h c (List.mem_of_getElem? ep)) e
    · rw [if_neg i0] at e; cases e
theorem cut_front (ws : List Int) (m : Nat) (h : m <= ws.length) : Yj (ws.map V.int) none (some ((m : Nat) : Int)) = (ws.take m).map V.int := by
  rw [cut_take _ _ (by rw [List.length_map]; exact h), List.map_take]
end L2
namespace K4
open PySem L2
theorem scPut : FnScope ["body", "place", "other", "k", "front", "around", "some"] ["body", "place", "other"] (ZN sPut) := ⟨rfl, rfl, rfl, by decide +kernel, rfl, by decide +kernel, by decide +kernel⟩
section
variable {P : Program} {w : World} {K : PySem.W.Frag} {mg : Str -> Option Value} {base : Heap} {f : Addr} {fd : FuncData}
def spPut : Sp := fun vs H Q _ => ∃ (v o : V) (a : Addr) (b c d : Bd) (ws : List Int), vs = [v, .ref a, o] /\ Has H v b.dat /\ b.ok /\ H a = some (.tup (ws.map V.int)) /\ Has H o c.dat /\ b.at ws = some d /\ ws.length <= 100 /\ ∀ u H', Same H H' -> Has H' u (b.exch ws c).dat -> Q u H'
theorem ok_put {n : Nat} (B : Blt mg) (F : Fun K "_law_put" "_law_put" sPut f fd) (DA : Df P w K mg base n "part_at" ["body", "place"] (V5 K)) (DR : Df P w K mg base n "parts" ["body"] VI) (DW : Df P w K mg base n "with_parts" ["body", "some"] spWith) :
    FnOk P w K mg base CX0 (n + 1) f fd ["body", "place", "other"] spPut := by
  obtain ⟨ga, ad', mA, kA, bA, GA⟩ := DA
  obtain ⟨gr, rd', mR, kR, bR, GR⟩ := DR
  obtain ⟨gw, wd', mW, kW, bW, GW⟩ := DW
  refine F.ok scPut (fun vs H Q E h => ?_) (fun cdv A outer s H vs Q E hr h => ?_)
  · obtain ⟨v, o, a, b, c, d, ws, rfl, _⟩ := h
    rfl
  obtain ⟨v, o, a, b, c, d, ws, rfl, hv, ok, ha, ho, hat, l100, q⟩ := h
  refine ⟨_, ZG (YS PassesOwn.never rfl (Yw rfl B.range (ZA (Zi Zf rfl B.len PySem.boot_len (ZA (pv 1) ZF)) ZF)) (Za (i := 3) scPut.nd rfl (Or.inl rfl))
      (ZG (ZT (i := 4) scPut.nd rfl (Or.inl rfl) (Z8 Vr (pv 1) YL (YC (Zc Yi (Zc Yi (Zi Zf rfl B.len PySem.boot_len (ZA (pv 1) ZF)) ZH) (pv 3)))))
      (ZG (ZT (i := 5) scPut.nd rfl (Or.inl rfl) (ZK GA hr rfl mA kA bA .nil ZU (ZA (pv 0) (ZA (pv 4) ZF))))
      (ZG (ZT (i := 6) scPut.nd rfl (Or.inl rfl) (Zs VR rfl B.list Yk (ZA (ZK GR hr rfl mR kR bR .nil ZU (ZA (pv 5) ZF)) ZF)))
      (ZG (Y8 (pv 2) (Vv (pv 6) (ZV Ze (pv 1) (Zi Zf rfl B.len PySem.boot_len (ZA (pv 4) ZF)) (fun _ _ => rfl)) set_list))
      (ZL (ZT (i := 2) scPut.nd rfl (Or.inl rfl) (ZK GW hr rfl mW kW bW .nil ZU (ZA (pv 5) (ZA (Zs Zq rfl B.tuple Zp (ZA (pv 6) ZF)) ZF))))))))))
    (ZL (ZW (pv 2))), ?_⟩
  dsimp only [Y9, Cx.nox, Cx.wish]
  have lw : (ws.map V.int).length = ws.length := List.length_map _
  refine ⟨_, rfl, a, _, rfl, .inr (SqT.of ha), _, rfl, by omega, by omega, ?_⟩
  have nn : ((((ws.map V.int).length : Nat) : Int)).toNat = ws.length := by omega
  refine Vd (n := ((((ws.map V.int).length : Nat) : Int)).toNat) (fun i σ Hi => Same H Hi /\ i <= ws.length /\ ∃ (oth : V) (dd : Bd), b.at (ws.take (ws.length - i)) = some dd /\ Has Hi oth (dd.exch (ws.drop (ws.length - i)) c).dat /\ ∃ z3 z4 z5 z6, σ = [some v, some (.ref a), some oth, z3, z4, z5, z6])
    ⟨Same.refl _, Nat.zero_le _, o, d, by rw [Nat.sub_zero, List.take_length]; exact hat, by rw [Nat.sub_zero, List.drop_length]; show Has H o c.dat; exact ho, _, _, _, _, rfl⟩ ?_ ?_
  · rintro BB RR i σ Hi hi ⟨si, _, oth, dd, hdd, hoth, z3, z4, z5, z6, rfl⟩
    rw [nn] at hi
    obtain ⟨m, hm⟩ : ∃ m, ws.length = m + 1 + i := ⟨ws.length - 1 - i, by omega⟩
    have em : ((((ws.map V.int).length : Nat) : Int) - 1 - ((0 : Int) + (i : Int))) = ((m : Nat) : Int) := by omega
    have t1 : ws.length - i = m + 1 := by omega
    have t2 : ws.length - (i + 1) = m := by omega
    rw [t1] at hdd hoth
    have mlt : m < ws.length := by omega
    have tk1 : ws.take (m + 1) = ws.take m ++ [ws[m]] := take_snoc (List.getElem?_eq_getElem mlt)
    rw [tk1] at hdd
    obtain ⟨g, hg, j0, hgp⟩ := Bd.at_snoc hdd
    have okg := Bd.at_ok ok hg
    have hai := si _ _ ha
    refine ⟨_, rfl, _, rfl, a, _, rfl, .inr (SqT.of hai), _, _, rfl, rfl, _, rfl, _, _, rfl, rfl, _, rfl, a, _, rfl, SqT.of hai, ?_⟩
    dsimp only
    rw [em, cut_front ws m (by omega)]
    refine ⟨fun z => ?_, fun t4 ht4 => ?_⟩
    · have z2 := z.2
      rw [HT.sIx_nat, lw, Nat.min_eq_left (Nat.le_of_lt mlt)] at z2
      omega
    have s4 := ZE ht4 (.tup ((ws.take m).map V.int))
    have g4 : upd Hi t4 (.tup ((ws.take m).map V.int)) t4 = some (.tup ((ws.take m).map V.int)) := ZD
    generalize upd Hi t4 (.tup ((ws.take m).map V.int)) = H4 at s4 g4 ⊢
    have s04 := si.trans s4
    refine ⟨_, rfl, _, rfl, v, t4, b, g, ws.take m, rfl, hv.mono s04, ok, g4, hg, fun ar H5 s5 har => ?_⟩
    refine ⟨_, rfl, ar, g, rfl, har, okg, fun pu H6 s6 hpu => ?_⟩
    obtain ⟨pa, xs, rfl, hpa, hxs⟩ := Zh hpu
    have lx := hxs.length
    rw [Bd.dats_map, List.length_map] at lx
    have few := Bd.few okg
    refine ⟨pa, _, rfl, .inr (SqT.of hpa), fun sl hsl => ?_⟩
    have s7 := ZE hsl (.lst xs)
    have g7 : upd H6 sl (.lst xs) sl = some (.lst xs) := ZD
    have s06 := (s04.trans s5).trans s6
    have fsl : H sl = none := s06.free hsl
    generalize upd H6 sl (.lst xs) = H7 at s7 g7 ⊢
    have s07 := s06.trans s7
    have hjl := (List.getElem?_eq_some_iff.mp hgp).1
    have lt : ((ws.take m).map V.int).length = m := by rw [List.length_map, List.length_take]; omega
    have aw : atI (ws.map V.int) ((((ws.take m).map V.int).length : Nat) : Int) = some (.int ws[m]) := by
      rw [lt]
      exact ZQ (by rw [List.getElem?_map, List.getElem?_eq_getElem mlt]; rfl)
    have ixj : ixN xs.length ws[m] = some (ws[m]).toNat := by
      unfold ixN
      rw [if_pos j0, if_pos (by omega)]
    refine ⟨_, rfl, _, rfl, _, rfl, _, rfl, t4, _, rfl, .inr (SqT.of ((s5.trans (s6.trans s7)) _ _ g4)), a, _, _, _, rfl, rfl, SqT.of (s07 _ _ ha), aw, sl, xs, ws[m], (ws[m]).toNat, rfl, rfl, g7, ixj, ?_⟩
    have sP : Same H (upd H7 sl (.lst (xs.set (ws[m]).toNat oth))) := s07.putN fsl
    have tk8 : TK H7 (upd H7 sl (.lst (xs.set (ws[m]).toNat oth))) := fun b us h => by rw [ZJ (fun e => by rw [e, g7] at h; cases h)]; exact h
    have g8 : upd H7 sl (.lst (xs.set (ws[m]).toNat oth)) sl = some (.lst (xs.set (ws[m]).toNat oth)) := ZD
    have si7 : Same Hi H7 := (s4.trans s5).trans (s6.trans s7)
    have ho8 : Has (upd H7 sl (.lst (xs.set (ws[m]).toNat oth))) oth (dd.exch (ws.drop (m + 1)) c).dat := Z3 tk8 _ (Bd.st _) (hoth.mono si7)
    have hx8 : HasL (upd H7 sl (.lst (xs.set (ws[m]).toNat oth))) (xs.set (ws[m]).toNat oth) (Bd.dats (g.parts.set (ws[m]).toNat (dd.exch (ws.drop (m + 1)) c))) := by
      rw [dats_set]
      exact HasL.set ho8 (Z5 tk8 _ (Bd.sts _) (hxs.mono s7))
    have ar8 : Has (upd H7 sl (.lst (xs.set (ws[m]).toNat oth))) ar g.dat := Z3 tk8 _ (Bd.st _) (har.mono (s6.trans s7))
    generalize upd H7 sl (.lst (xs.set (ws[m]).toNat oth)) = H8 at sP g8 hx8 ar8 ⊢
    refine ⟨_, rfl, _, rfl, sl, _, rfl, .inl ⟨SqL.of g8, fun t9 ht9 => ?_⟩⟩
    have s9 := ZE ht9 (.tup (xs.set (ws[m]).toNat oth))
    have g9 : upd H8 t9 (.tup (xs.set (ws[m]).toNat oth)) t9 = some (.tup (xs.set (ws[m]).toNat oth)) := ZD
    generalize upd H8 t9 (.tup (xs.set (ws[m]).toNat oth)) = H9 at s9 g9 ⊢
    refine ⟨ar, t9, _, g, _, rfl, ar8.mono s9, okg, g9, hx8.mono s9, List.length_set, fun u HA sA hu => ?_⟩
    refine ⟨(sP.trans s9).trans sA, by omega, u, g, by rw [t2]; exact hg, ?_, _, _, _, _, rfl⟩
    rw [t2, List.drop_eq_getElem_cons mlt, Bd.exch, hgp]
    exact hu
  · rintro σ Hi ⟨si, _, oth, dd, hdd, hoth, z3, z4, z5, z6, rfl⟩
    rw [nn, Nat.sub_self, List.take_zero] at hdd
    rw [nn, Nat.sub_self, List.drop_zero] at hoth
    unfold Bd.at at hdd
    cases hdd
    exact ⟨_, rfl, q _ _ si hoth⟩
end
end K4
namespace L2
open PySem PySem.Spec PyProof.Rows PySem.W PySem.Calls
theorem lexLt_eq : ∀ a b : List Int, HT.lexLt a b = Vx a b
  | [], [] => by unfold HT.lexLt Vx; rfl
  | [], _ :: _ => by unfold HT.lexLt Vx; rfl
  | _ :: _, [] => by unfold HT.lexLt Vx; rfl
  | a :: as, b :: bs => by
    unfold HT.lexLt Vx
    rw [lexLt_eq as bs]
    by_cases h : a = b <;> simp [h]
section
variable {prog : Program} {w : World} {A : Around} {E : Value -> Shared -> Prop} {s : Shared}
theorem one_lt_tup {l b : Addr} {items items2 : Array Value} {ns ms : List Int} {Q : Bool -> Shared -> Prop} (hl : IsTup s.heap l items) (hb : IsTup s.heap b items2) (hi : IntsAre items.toList ns) (hj : IntsAre items2.toList ms) (hu : A.units < cLine) (h : Q (HT.lexLt ns ms) s) :
    wpAny (model prog w) A (keyLt' oneType' (.ref l) (.ref b)) Q E s := by
  obtain ⟨⟨cls, dd, data, sl⟩, ho, hc, n, hd⟩ := id hl
  obtain ⟨⟨cls2, dd2, data2, sl2⟩, ho2, hc2, n2, hd2⟩ := id hb
  simp only at hc hd hc2 hd2
  subst hc hd hc2 hd2
  rw [(keyLt'_oneType), oneLt'_eq]
  simp only [if_true]
  refine wpAny_bind (wpAny_cRoomFor hu (wpAny_bind (wpAny_callSpecialIfBound?_slot ⟨_, ho, rfl⟩ PySem.F.slot_tuple_lt (call_meets PySem.F.slot_tuple_lt ⟨_, ho, rfl⟩ PySem.F.entry_tuple_lt (PySem.F.args_tuple_lt_2 _ _) (HT.tuple_lt_ints l b items items2 n n2 dd dd2 sl sl2 ns ms hi hj) ⟨ho, ho2, ?_⟩))))
  exact wpAny_truthy_bool h
theorem firsts_any {M : Model} : ∀ (vs : List Value) (os : List (Option Value)) {Q : List (Option Value) -> Shared -> Prop}, vs.length = os.length -> (∀ (i : Nat) (v : Value), vs[i]? = some v -> ∃ a o xs n, v = .ref a /\ s.heap.get? a = some o /\ o.cls = .type "tuple" /\ o.data = .seq xs n /\ os[i]? = some xs[0]?) -> Q os s -> wpAny M A (vs.mapM firstOfTuple') Q E s
  | [], [], _, _, _, h => by rw [List.mapM_nil]; exact wpAny_pure h
  | [], _ :: _, _, l, _, _ => by simp at l
  | _ :: _, [], _, l, _, _ => by simp at l
  | v :: vs, q :: os, Q, l, t, h => by
    obtain ⟨a, o, xs, n, rfl, ho, hc, hd, hf⟩ := t 0 v rfl
    have hf' : q = xs[0]? := Option.some.inj hf
    rw [List.mapM_cons]
    refine wpAny_bind ?_
    rw [kas_first_eq]
    refine (wpAny_bind (Looks.here (show Looks M s.heap (typeOf (.ref a)) o.cls from (Looks.ld ho).andThen .now) ?_))
    rw [(hc), if_neg (by first | decide | simp)]
    refine (wpAny_bind (listItems_at ho hd (wpAny_pure ?_)))
    rw [<- hf']
    exact wpAny_bind (firsts_any vs os (Q := fun bs s' => wpAny M A (pure (q :: bs)) Q E s') (by simpa using l) (fun i v e => t (i + 1) v e) (wpAny_pure h))
theorem kind_any {M : Model} {vs : List Value} {os : List (Option Value)} {Q : SortKind -> Shared -> Prop} (hl : vs.length = os.length) (h2 : 2 <= vs.length) (ht : ∀ (i : Nat) (v : Value), vs[i]? = some v -> ∃ a o xs n, v = .ref a /\ s.heap.get? a = some o /\ o.cls = .type "tuple" /\ o.data = .seq xs n /\ os[i]? = some xs[0]?) (h0 : os[0]? = some none) (h : Q oneType' s) :
    (wpAny M A (keyKind' vs.toArray) Q E s) := by
  rw [(kat_kind_eq), List.mapM_toArray, map_eq_pure_bind]
  refine wpAny_bind (wpAny_bind (firsts_any vs os hl ht (wpAny_pure ?_)))
  match os, h0, hl with
  | none :: os, _, hl =>
    rw [(if_neg (by simp)), if_neg (by simp)]
    match vs, h2, ht with
    | v :: vs, h2, ht =>
      rw [(oneTypeOnly'_eq), List.mapM_toArray, map_eq_pure_bind]
      have hT : ∀ u ∈ v :: vs, Looks M s.heap (typeOf u) (.type "tuple") := fun u hu => by
        obtain ⟨i, hi, e⟩ := List.mem_iff_getElem.mp hu
        obtain ⟨a, o, xs, n, rfl, ho, hc, _⟩ := ht i u (by rw [List.getElem?_eq_getElem hi, e])
        rw [<- hc]
        exact (Looks.ld ho).andThen .now
      refine wpAny_bind (wpAny_bind (wpAny_bind (kas_mapM (r := Value.type "tuple") _ (fun u hu Q' hq => (hT u hu).here hq) (wpAny_pure ?_))))
      have a1 : ((List.map (fun _ => Value.type "tuple") (v :: vs)).toArray.all fun x => x == Value.type "tuple") = true := by simp
      have a2 : (List.map (fun _ => Value.type "tuple") (v :: vs)).toArray[0]? = some (Value.type "tuple") := by simp
      rw [a2]
      simp only [a1, if_true]
      exact (wpAny_pure (wpAny_pure h))
end
def frst (h : Heap) : Value -> Option Value
  | .ref a => match h.get? a with | some o => (match o.data with | .seq xs _ => xs[0]? | _ => none) | none => none
  | _ => none
section
variable {X : Cx}
theorem call_sortedE (hu : X.A.units + 64 < cLine) : Yq X (.builtin "sorted") (fun xs H Q => ∃ (p : Addr) (ts : List Addr) (wss : List (List Int)), xs = [.ref p] /\ SqL X.K H p (ts.map V.ref) /\ RowsAt X.K H ts wss /\ wss.length < 64 /\ wss[0]? = some [] /\
    (∀ i, i + 1 < wss.length -> Vx (wss.getD (i + 1) []) (wss.getD i []) = false) /\ ∀ l, H l = none -> Q (.ref l) (upd H l (.lst (ts.map V.ref)))) := by
  intro pins s σ H xs us Q I r h
  obtain ⟨p, ts, wss, rfl, hq, hr, h64, hne, hs, q⟩ := h
  obtain ⟨u, rfl, ru⟩ := vals1 r
  cases ru
  obtain ⟨its, r', pl, hz⟩ := I.list hq
  rw [List.length_map] at hz
  have hlts : its.length = ts.length := by
    have := r'.length
    rw [List.length_map] at this
    exact this.symm
  have hat : ∀ (i : Nat) (a : Addr), ts[i]? = some a -> its[i]? = some (Value.ref a) := fun i a e => by
    obtain ⟨u, hu, ru⟩ := r'.get (show (ts.map V.ref)[i]? = some (V.ref a) by rw [List.getElem?_map, e]; rfl)
    rw [hu, show u = Value.ref a from ru]
  have eits : its = ts.map Value.ref := by
    apply List.ext_getElem?
    intro i
    by_cases hi : i < ts.length
    · rw [hat i ts[i] (List.getElem?_eq_getElem hi), List.getElem?_map, List.getElem?_eq_getElem hi]; rfl
    · rw [List.getElem?_eq_none (by omega), List.getElem?_eq_none (by rw [List.length_map]; omega)]
  have tup : ∀ i, i < wss.length -> ∃ a ws us o n, ts[i]? = some a /\ wss[i]? = some ws /\ Vals (ws.map V.int) us /\ s.heap.get? a = some o /\ o.cls = .type "tuple" /\ o.data = .seq us.toArray n := fun i hi => by
    have hi' : i < ts.length := by rw [hr.1]; exact hi
    obtain ⟨its2, r2, p2, _⟩ := I.tuple (hr.2 i ts[i] wss[i] (List.getElem?_eq_getElem hi') (List.getElem?_eq_getElem hi))
    obtain ⟨o, ho, hc, n, hd⟩ := (show s.heap.IsTuple ts[i] its2.toArray from p2)
    exact ⟨ts[i], wss[i], its2, o, n, List.getElem?_eq_getElem hi', List.getElem?_eq_getElem hi, r2, ho, hc, hd⟩
  have len : its.length = wss.length := by rw [hlts, hr.1]
  refine st_sorted (κ := oneType') (vs := its) (out := its) (lt := fun i j => HT.lexLt (wss.getD i []) (wss.getD j [])) pl.isList (by omega) ?_ fun D h' c hD hc hk => ?_
  · by_cases h2 : wss.length < 2
    · exact .inl ⟨by omega, rfl⟩
    · refine .inr ⟨by omega, fun h' hk A' _ Qk hQ => ?_, fun h' hk A' hA i j C hi hj hC => ?_, _, sort_sorted (by omega) (fun i hi => ?_), ?_⟩
      · refine kind_any (s := { s with heap := h' }) (os := its.map (frst s.heap)) (by rw [List.length_map]) (by omega) (fun i v e => ?_) ?_ hQ
        · have hi := (List.getElem?_eq_some_iff.mp e).1
          obtain ⟨a, ws, us, o, n, e1, e2, rv, ho, hc, hd⟩ := tup i (by omega)
          rw [hat i a e1] at e
          cases e
          refine ⟨a, o, us.toArray, n, rfl, hk _ _ ho, hc, hd, ?_⟩
          rw [List.getElem?_map, hat i a e1]
          show some (frst s.heap (.ref a)) = _
          simp [frst, ho, hd]
        · obtain ⟨a, ws, us, o, n, e1, e2, rv, ho, hc, hd⟩ := tup 0 (by omega)
          rw [hne] at e2
          cases e2
          cases rv
          rw [List.getElem?_map, hat 0 a e1]
          show some (frst s.heap (.ref a)) = _
          simp [frst, ho, hd]
      · obtain ⟨a, ws, us, o, n, e1, e2, rv, ho, hc, hd⟩ := tup i (by omega)
        obtain ⟨a', ws', us', o', n', e1', e2', rv', ho', hc', hd'⟩ := tup j (by omega)
        unfold kas_ask
        have f1 : its.getD i Value.none = Value.ref a := by rw [List.getD_eq_getElem?_getD, hat i a e1]; rfl
        have f2 : its.getD j Value.none = Value.ref a' := by rw [List.getD_eq_getElem?_getD, hat j a' e1']; rfl
        rw [f1, f2]
        have g1 : wss.getD i [] = ws := by rw [List.getD_eq_getElem?_getD, e2]; rfl
        have g2 : wss.getD j [] = ws' := by rw [List.getD_eq_getElem?_getD, e2']; rfl
        rw [g1, g2] at hC
        exact one_lt_tup (s := { s with heap := h' }) ⟨o, hk _ _ ho, hc, n, hd⟩ ⟨o', hk _ _ ho', hc', n', hd'⟩ (intsAre_of rv) (intsAre_of rv') (by omega) hC
      · show HT.lexLt _ _ = false
        rw [lexLt_eq]
        exact hs i (by omega)
      · apply List.ext_getElem?
        intro i
        by_cases hi : i < its.length
        · simp [hi]
        · simp [hi]
  · refine ⟨.ref D, _, I.laid (a := D) (o := .lst (ts.map V.ref)) (t' := s.toks) hk hD ⟨by rw [List.length_map]; exact hz, its, c, r', hc⟩, rfl, q _ (I.hok.fresh hD)⟩
end
theorem Bd.pls_len : ∀ {bs : List Bd} {k : Nat}, (∀ c ∈ bs, c.places.length = c.size) -> (Bd.pls k bs).length = Bd.sizes bs
  | [], k, _ => by simp [Bd.pls, Bd.sizes]
  | b :: bs, k, h => by
    rw [Bd.pls, List.length_append, List.length_map, h b List.mem_cons_self, Bd.pls_len (k := k + 1) fun c hc => h c (List.mem_cons_of_mem _ hc)]
    simp [Bd.sizes]
theorem Bd.places_len : ∀ (n : Nat) (b : Bd), b.dep <= n -> b.places.length = b.size
  | n, b, h => by
    rw [Bd.places_eq, Bd.size_eq, List.length_cons]
    have : (Bd.pls 0 b.parts).length = Bd.sizes b.parts := Bd.pls_len fun c hc => by
      have := Bd.dep_mem hc
      cases n with
      | zero => omega
      | succ n => exact Bd.places_len n c (by omega)
    omega
theorem Bd.pls_at : ∀ {bs : List Bd} {k : Nat} {w : List Int}, w ∈ Bd.pls k bs -> ∃ (m : Nat) (c : Bd) (r : List Int), bs[m]? = some c /\ r ∈ c.places /\ w = ((k + m : Nat) : Int) :: r
  | [], _, _, h => by unfold Bd.pls at h; cases h
  | b :: bs, k, w, h => by
    rw [Bd.pls] at h
    rcases (List.mem_append.mp h) with h | h
    · obtain ⟨r, hr, e⟩ := List.mem_map.mp h
      exact ⟨0, b, r, rfl, hr, e.symm⟩
    · obtain ⟨m, c, r, h1, h2, h3⟩ := Bd.pls_at h
      exact ⟨m + 1, c, r, h1, h2, by rw [h3]; congr 2; omega⟩
theorem Bd.at_places : ∀ (n : Nat) (b : Bd), b.dep <= n -> ∀ w ∈ b.places, ∃ c, b.at w = some c
  | n, b, h, w, hw => by
    rw [Bd.places_eq] at hw
    rcases List.mem_cons.mp hw with e | hw
    · rw [e]; exact ⟨b, by unfold Bd.at; rfl⟩
    · obtain ⟨m, c, r, h1, h2, rfl⟩ := Bd.pls_at hw
      have := Bd.dep_mem (List.mem_of_getElem? h1)
      cases n with
      | zero => omega
      | succ n =>
        obtain ⟨d, hd⟩ := Bd.at_places n c (by omega) r h2
        refine ⟨d, ?_⟩
        unfold Bd.at
        rw [if_pos (by omega), show (((0 + m : Nat) : Int)).toNat = m by omega, h1]
        exact hd
theorem Bd.put_ok {b : Bd} {cs : List Bd} (h : b.ok) (l : cs.length = b.parts.length) (hc : Bd.oks cs) : (b.put cs).ok := by
  cases b with
  | tag t => exact h
  | name t => exact h
  | pair x y =>
    match cs, l, hc with
    | [c, d], _, hc => simp [Bd.put, Bd.ok, Bd.oks] at hc ⊢; exact hc
    | [], l, _ => simp [Bd.parts] at l
    | [_], l, _ => simp [Bd.parts] at l
    | _ :: _ :: _ :: _, l, _ => simp [Bd.parts] at l
  | one x =>
    match cs, l, hc with
    | [c], _, hc => simp [Bd.put, Bd.ok, Bd.oks] at hc ⊢; exact hc
    | [], l, _ => simp [Bd.parts] at l
    | _ :: _ :: _, l, _ => simp [Bd.parts] at l
  | other x =>
    match cs, l, hc with
    | [c], _, hc => simp [Bd.put, Bd.ok, Bd.oks] at hc ⊢; exact hc
    | [], l, _ => simp [Bd.parts] at l
    | _ :: _ :: _, l, _ => simp [Bd.parts] at l
  | choose e ts bs =>
    match cs, l, hc with
    | c :: cs, l, hc =>
      unfold Bd.ok at h
      simp [Bd.parts] at l
      simp only [Bd.put, Bd.ok, Bd.oks] at hc ⊢
      exact ⟨hc.1, by omega, h.2.2.1, hc.2⟩
    | [], l, _ => simp [Bd.parts] at l
  | ask g as =>
    unfold Bd.ok at h
    simp [Bd.parts] at l
    simp only [Bd.put, Bd.ok]
    exact ⟨by omega, hc⟩
  | letb x k e g =>
    match cs, l, hc with
    | [c, d], _, hc => simp [Bd.put, Bd.ok, Bd.oks] at hc ⊢; exact hc
    | [], l, _ => simp [Bd.parts] at l
    | [_], l, _ => simp [Bd.parts] at l
    | _ :: _ :: _ :: _, l, _ => simp [Bd.parts] at l
theorem oks_of : ∀ {bs : List Bd}, (∀ c ∈ bs, c.ok) -> Bd.oks bs
  | [], _ => by unfold Bd.oks; trivial
  | b :: bs, h => by unfold Bd.oks; exact ⟨h b List.mem_cons_self, oks_of fun c hc => h c (List.mem_cons_of_mem _ hc)⟩
theorem deps_of {m : Nat} : ∀ {bs : List Bd}, (∀ c ∈ bs, c.dep <= m) -> Bd.deps bs <= m
  | [], _ => by unfold Bd.deps; exact Nat.zero_le _
  | b :: bs, h => by
    unfold Bd.deps
    exact Nat.max_le.mpr ⟨h b List.mem_cons_self, deps_of fun c hc => h c (List.mem_cons_of_mem _ hc)⟩
theorem Bd.put_dep (b : Bd) (cs : List Bd) (m : Nat) (hb : b.dep <= m + 1) (h : ∀ c ∈ cs, c.dep <= m) : (b.put cs).dep <= m + 1 := by
  have g := deps_of h
  cases b with
  | tag t => exact hb
  | name t => exact hb
  | pair x y =>
    match cs, h with
    | [c, d], h =>
      have h1 := h c (by simp)
      have h2 := h d (by simp)
      simp only [Bd.put, Bd.dep]; omega
    | [], _ => exact hb
    | [_], _ => exact hb
    | _ :: _ :: _ :: _, _ => exact hb
  | one x =>
    match cs, h with
    | [c], h =>
      have h1 := h c (by simp)
      simp only [Bd.put, Bd.dep]; omega
    | [], _ => exact hb
    | _ :: _ :: _, _ => exact hb
  | other x =>
    match cs, h with
    | [c], h =>
      have h1 := h c (by simp)
      simp only [Bd.put, Bd.dep]; omega
    | [], _ => exact hb
    | _ :: _ :: _, _ => exact hb
  | choose e ts bs =>
    match cs, h with
    | c :: cs, h =>
      have h1 := h c (by simp)
      have h2 := deps_of (bs := cs) (m := m) fun d hd => h d (by simp [hd])
      simp only [Bd.put, Bd.dep]; omega
    | [], _ => exact hb
  | ask g as => simp only [Bd.put, Bd.dep]; omega
  | letb x k e g =>
    match cs, h with
    | [c, d], h =>
      have h1 := h c (by simp)
      have h2 := h d (by simp)
      simp only [Bd.put, Bd.dep]; omega
    | [], _ => exact hb
    | [_], _ => exact hb
    | _ :: _ :: _ :: _, _ => exact hb
theorem Bd.exch_ok : ∀ {ws : List Int} {b c : Bd}, b.ok -> c.ok -> (b.exch ws c).ok /\ (b.exch ws c).dep <= b.dep + c.dep
  | [], b, c, hb, hc => ⟨hc, by show c.dep <= _; omega⟩
  | i :: r, b, c, hb, hc => by
    rw [Bd.exch]
    cases e : b.parts[i.toNat]? with
    | none => exact ⟨hb, Nat.le_add_right _ _⟩
    | some d =>
      have hd := List.mem_of_getElem? e
      have dd := Bd.dep_mem hd
      obtain ⟨k1, k2⟩ := Bd.exch_ok (ws := r) (Bd.ok_parts hb d hd) hc
      have mem : ∀ q ∈ b.parts.set i.toNat (d.exch r c), q ∈ b.parts ∨ q = d.exch r c := fun q hq => List.mem_or_eq_of_mem_set hq
      refine ⟨Bd.put_ok hb List.length_set (oks_of fun q hq => ?_), ?_⟩
      · rcases mem q hq with z | z
        · exact Bd.ok_parts hb q z
        · rw [z]; exact k1
      · have := Bd.put_dep b (b.parts.set i.toNat (d.exch r c)) (b.dep + c.dep - 1) (by omega) fun q hq => by
          rcases mem q hq with z | z
          · have := Bd.dep_mem z; omega
          · rw [z]; omega
        show (b.put _).dep <= _
        omega
theorem brs_dw {m : Nat} : ∀ {bs : List Bd} {ts : List Str}, (∀ b ∈ bs, b.dat.dep <= m /\ b.dat.wid <= 5) -> Dat.deps (Bd.brs bs ts) <= m + 1 /\ Dat.wids (Bd.brs bs ts) <= 5
  | [], ts, _ => by cases ts <;> (unfold Bd.brs Dat.deps Dat.wids; exact ⟨Nat.zero_le _, Nat.zero_le _⟩)
  | b :: bs, [], _ => by unfold Bd.brs Dat.deps Dat.wids; exact ⟨Nat.zero_le _, Nat.zero_le _⟩
  | b :: bs, t :: ts, h => by
    obtain ⟨i1, i2⟩ := brs_dw (bs := bs) (ts := ts) fun c hc => h c (List.mem_cons_of_mem _ hc)
    obtain ⟨h1, h2⟩ := h b List.mem_cons_self
    rw [Bd.brs]
    simp only [Dat.deps, Dat.wids, Dat.dep, Dat.wid, List.length_cons, List.length_nil]
    omega
theorem dats_dw {m : Nat} : ∀ {bs : List Bd}, (∀ b ∈ bs, b.dat.dep <= m /\ b.dat.wid <= 5) -> Dat.deps (Bd.dats bs) <= m /\ Dat.wids (Bd.dats bs) <= 5
  | [], _ => by unfold Bd.dats Dat.deps Dat.wids; exact ⟨Nat.zero_le _, Nat.zero_le _⟩
  | b :: bs, h => by
    obtain ⟨i1, i2⟩ := dats_dw (bs := bs) fun c hc => h c (List.mem_cons_of_mem _ hc)
    obtain ⟨h1, h2⟩ := h b List.mem_cons_self
    rw [Bd.dats]
    simp only [Dat.deps, Dat.wids]
    omega
theorem brs_le : ∀ (bs : List Bd) (ts : List Str), (Bd.brs bs ts).length <= ts.length
  | [], ts => by cases ts <;> (unfold Bd.brs; exact Nat.zero_le _)
  | b :: bs, [] => by unfold Bd.brs; exact Nat.zero_le _
  | b :: bs, t :: ts => by
    rw [Bd.brs, List.length_cons, List.length_cons]
    have := brs_le bs ts
    omega
theorem Bd.dw : ∀ (n : Nat) (b : Bd), b.dep <= n -> b.ok -> b.dat.dep <= 3 * n + 1 /\ b.dat.wid <= 5
  | n, b, h, ok => by
    have hp : ∀ c ∈ b.parts, 1 <= n /\ c.dat.dep <= 3 * (n - 1) + 1 /\ c.dat.wid <= 5 := fun c hc => by
      have := Bd.dep_mem hc
      cases n with
      | zero => omega
      | succ n => exact ⟨by omega, Bd.dw n c (by omega) (Bd.ok_parts ok c hc)⟩
    cases b with
    | tag t => simp [Bd.dat, Dat.dep, Dat.deps, Dat.wid, Dat.wids]
    | name t => simp [Bd.dat, Dat.dep, Dat.deps, Dat.wid, Dat.wids]
    | pair x y =>
      have h1 := hp x (by simp [Bd.parts])
      have h2 := hp y (by simp [Bd.parts])
      simp only [Bd.dat, Dat.dep, Dat.deps, Dat.wid, Dat.wids, List.length_cons, List.length_nil]; omega
    | one x =>
      have h1 := hp x (by simp [Bd.parts])
      simp only [Bd.dat, Dat.dep, Dat.deps, Dat.wid, Dat.wids, List.length_cons, List.length_nil]; omega
    | other x =>
      have h1 := hp x (by simp [Bd.parts])
      simp only [Bd.dat, Dat.dep, Dat.deps, Dat.wid, Dat.wids, List.length_cons, List.length_nil]; omega
    | choose e ts bs =>
      have h1 := hp e (by simp [Bd.parts])
      obtain ⟨h2, h3⟩ := brs_dw (m := 3 * (n - 1) + 1) (bs := bs) (ts := ts) fun c hc => (hp c (by simp [Bd.parts, hc])).2
      unfold Bd.ok at ok
      have h4 := brs_le bs ts
      simp only [Bd.dat, Dat.dep, Dat.deps, Dat.wid, Dat.wids, List.length_cons, List.length_nil]; omega
    | ask g as =>
      unfold Bd.ok at ok
      have ll : (Bd.dats as).length = as.length := by rw [Bd.dats_map, List.length_map]
      cases as with
      | nil => simp [Bd.dat, Bd.dats, Dat.dep, Dat.deps, Dat.wid, Dat.wids]; unfold Bd.dep Bd.deps at h; omega
      | cons c as =>
        obtain ⟨h2, h3⟩ := dats_dw (m := 3 * (n - 1) + 1) (bs := c :: as) fun d hd => (hp d (by simpa [Bd.parts] using hd)).2
        have h1 := hp c (by simp [Bd.parts])
        have l3 := ok.1
        rw [<- ll] at l3
        simp only [Bd.dat, Dat.dep, Dat.deps, Dat.wid, Dat.wids, List.length_cons, List.length_nil]; omega
    | letb x k e g =>
      have h1 := hp e (by simp [Bd.parts])
      have h2 := hp g (by simp [Bd.parts])
      simp only [Bd.dat, Dat.dep, Dat.deps, Dat.wid, Dat.wids, List.length_cons, List.length_nil]; omega
theorem ways_dw {m : Nat} : ∀ {ws : List (List Int)}, (∀ w ∈ ws, w.length <= m) -> Dat.deps (ws.map Yt) <= 1 /\ Dat.wids (ws.map Yt) <= m
  | [], _ => by unfold List.map Dat.deps Dat.wids; exact ⟨Nat.zero_le _, Nat.zero_le _⟩
  | w :: ws, h => by
    obtain ⟨i1, i2⟩ := ways_dw (ws := ws) fun c hc => h c (List.mem_cons_of_mem _ hc)
    have h1 := h w List.mem_cons_self
    have h2 := way_dep w
    have h3 : (Yt w).wid <= m := by
      have : ∀ w : List Int, Dat.wids (w.map Dat.int) = 0 := by
        intro w
        induction w with
        | nil => unfold List.map Dat.wids; rfl
        | cons a w ih => rw [List.map_cons]; unfold Dat.wids; rw [ih]; unfold Dat.wid; rfl
      unfold Yt Dat.wid
      rw [this, List.length_map]; omega
    rw [List.map_cons]
    simp only [Dat.deps, Dat.wids]
    omega
theorem places_dw {b : Bd} (h : b.dep <= 20) (l : b.places.length <= 500) : (Dat.lst (b.places.map Yt)).dep <= 2 /\ (Dat.lst (b.places.map Yt)).wid <= 1000 := by
  obtain ⟨h1, h2⟩ := ways_dw (m := 20) (ws := b.places) fun w hw => Nat.le_trans (Bd.way_len _ b (Nat.le_refl _) w hw) h
  unfold Dat.dep Dat.wid
  rw [List.length_map]
  omega
theorem ways_refs {K : PySem.W.Frag} {H : Hp} : ∀ {ws : List (List Int)} {xs : List V}, HasL H xs (ws.map Yt) -> ∃ ts : List Addr, xs = ts.map V.ref /\ RowsAt K H ts ws
  | [], xs, h => by
    obtain rfl := YD h
    exact ⟨[], rfl, rfl, fun i a w e => by simp at e⟩
  | w :: ws, xs, h => by
    rw [List.map_cons] at h
    obtain ⟨x, r, rfl, h1, h2⟩ := ZM h
    obtain ⟨a, rfl, ha⟩ := Vm h1
    obtain ⟨ts, rfl, tl, tp⟩ := ways_refs (K := K) h2
    refine ⟨a :: ts, rfl, by simp [tl], fun i b v e1 e2 => ?_⟩
    cases i with
    | zero =>
      have e1' : some a = some b := e1
      have e2' : some w = some v := e2
      cases e1'; cases e2'
      exact SqT.of ha
    | succ i => exact tp i b v e1 e2
theorem srt_next {l : List (List Int)} (h : Srt l) (i : Nat) (hi : i + 1 < l.length) : Vx (l.getD (i + 1) []) (l.getD i []) = false := by
  have := List.pairwise_iff_getElem.mp h i (i + 1) (by omega) hi (Nat.lt_succ_self _)
  rw [List.getD_eq_getElem?_getD, List.getD_eq_getElem?_getD, List.getElem?_eq_getElem hi, List.getElem?_eq_getElem (show i < l.length by omega)]
  exact this
end L2
namespace K4
open PySem L2
theorem boot_sorted5 : bootBuiltins "sorted" = some (.builtin "sorted") := by decide +kernel
theorem Yx : FnScope ["body", "place", "other", "due", "found", "at", "there", "step"] ["body", "place", "other"] (ZN JJ) := ⟨rfl, rfl, rfl, by decide +kernel, rfl, by decide +kernel, by decide +kernel⟩
section
variable {P : Program} {w : World} {K : PySem.W.Frag} {mg : Str -> Option Value} {base : Heap} {f : Addr} {fd : FuncData}
def spRight5 : Sp := fun vs H Q _ => ∃ (v o : V) (a : Addr) (b c : Bd) (ws : List Int), vs = [v, .ref a, o] /\ Has H v b.dat /\ b.ok /\ b.dep <= 11 /\ b.places.length <= 60 /\ H a = some (.tup (ws.map V.int)) /\ ws ∈ b.places /\ Has H o c.dat /\ c.ok /\ c.dep <= 1 /\ ∀ H', Same H H' -> Q (.bl true) H'
theorem ok_right5 {n : Nat} (B : Blt mg) (F : Fun K "_law_right" "_law_right" JJ f fd) (DL : Df P w K mg base (n + 3) "_law_places" ["body"] (YH 12)) (DP : Df P w K mg base (n + 3) "places" ["body"] (YH 12)) (DS : Df P w K mg base (n + 3) "_law_same" ["found", "due"] (Vq 45)) (DR : Df P w K mg base (n + 3) "parts" ["body"] VI)
    (DQ : Df P w K mg base (n + 3) "_law_parts" ["body"] Ya) (DA : Df P w K mg base (n + 3) "part_at" ["body", "place"] (V5 K)) (DW : Df P w K mg base (n + 3) "with_parts" ["body", "some"] spWith) (DU : Df P w K mg base (n + 3) "_law_put" ["body", "place", "other"] spPut) (DE : Df P w K mg base (n + 3) "_law_exchanged" ["body", "place", "other"] (JF 13)) :
    FnOk P w K mg base CX0 (n + 3 + 1) f fd ["body", "place", "other"] spRight5 := by
  obtain ⟨gl, ld', mL, kL, bL, GL⟩ := DL
  obtain ⟨gp, pd', mP, kP, bP, GP⟩ := DP
  obtain ⟨gs, sd', mS, kS, bS, GS⟩ := DS
  obtain ⟨gr, rd', mR, kR, bR, GR⟩ := DR
  obtain ⟨gq, qd', mQ, kQ, bQ, GQ'⟩ := DQ
  obtain ⟨ga, ad', mA, kA, bA, GA⟩ := DA
  obtain ⟨gw, wd', mW, kW, bW, GW⟩ := DW
  obtain ⟨gu, ud', mU, kU, bU, GU⟩ := DU
  obtain ⟨ge, ed', mE, kE, bE, GE⟩ := DE
  refine F.ok Yx (fun vs H Q E h => ?_) (fun cdv A outer s H vs Q E hr h => ?_)
  · obtain ⟨v, o, a, b, c, ws, rfl, _⟩ := h
    rfl
  obtain ⟨v, o, a, b, c, ws, rfl, hv, ok, dep, l60, ha, hws, ho, okc, depc, q⟩ := h
  have hr3 := hr.mono (show 3 <= n + 3 by omega)
  refine ⟨_, ZG (ZT (i := 3) Yx.nd rfl (Or.inl rfl) (ZK GL hr rfl mL kL bL .nil ZU (ZA (pv 0) ZF)))
    (ZG (ZT (i := 4) Yx.nd rfl (Or.inl rfl) (ZK GP hr rfl mP kP bP .nil ZU (ZA (pv 0) ZF)))
    (ZG (Zt (PW.pt (V9 (VW (YV (ZK GS hr rfl mS kS bS .nil ZU (ZA (pv 4) (ZA (pv 3) ZF))))) (V9 (ZY (op_neD hr3) (pv 3) (Zi (call_sortedE hr.units) rfl B.sorted boot_sorted5 (ZA (pv 3) ZF)) (Zd _))
        (Vt (VW (YV (ZK GS hr rfl mS kS bS .nil ZU (ZA (ZK GR hr rfl mR kR bR .nil ZU (ZA (pv 0) ZF)) (ZA (Zs Zq rfl B.tuple Zp (ZA (ZK GQ' hr rfl mQ kQ bQ .nil ZU (ZA (pv 0) ZF)) ZF)) ZF))))))))) (ZL (ZW pe_bl)) Zb)
    (ZG (Y8 (Zn (ZA ZH ZF)) (Vv (pv 4) ZH set_list))
    (ZG (YS PassesOwn.never rfl (Y6 (pv 3)) (Za (i := 5) Yx.nd rfl (Or.inl rfl))
      (ZG (ZT (i := 6) Yx.nd rfl (Or.inl rfl) (pv 0))
      (ZG (YS PassesOwn.never rfl (VX (pv 5)) (Za (i := 7) Yx.nd rfl (Or.inl rfl))
        (ZL (ZT (i := 6) Yx.nd rfl (Or.inl rfl) (ZV Zj (ZK GQ' hr rfl mQ kQ bQ .nil ZU (ZA (pv 6) ZF)) (pv 7) (fun _ _ => rfl)))))
      (ZL (Zt (VW (YV (ZK GS hr rfl mS kS bS .nil ZU (ZA (ZK GA hr rfl mA kA bA .nil ZU (ZA (pv 0) (ZA (pv 5) ZF))) (ZA (pv 6) ZF))))) (ZL (ZW pe_bl)) Zb)))))
    (ZG (Zt (PW.pt (V9 (VW (YV (ZK GS hr rfl mS kS bS .nil ZU (ZA (ZK GP hr rfl mP kP bP .nil ZU (ZA (pv 0) ZF)) (ZA (pv 3) ZF))))) (Vt (VW (YV (ZK GS hr rfl mS kS bS .nil ZU (ZA (ZK GW hr rfl mW kW bW .nil ZU (ZA (pv 0) (ZA (ZK GR hr rfl mR kR bR .nil ZU (ZA (pv 0) ZF)) ZF))) (ZA (pv 0) ZF)))))))) (ZL (ZW pe_bl)) Zb)
    (ZL (ZW (ZK GS hr rfl mS kS bS .nil ZU (ZA (ZK GU hr rfl mU kU bU .nil ZU (ZA (pv 0) (ZA (pv 1) (ZA (pv 2) ZF)))) (ZA (ZK GE hr rfl mE kE bE .nil ZU (ZA (pv 0) (ZA (pv 1) (ZA (pv 2) ZF)))) ZF)))))))))), ?_⟩
  dsimp only [Y9, Cx.nox, Cx.wish]
  have dw := Bd.dw 11 b dep ok
  have pdw := places_dw (b := b) (by omega) (by omega)
  obtain ⟨dA, hdA⟩ := Bd.at_places 11 b dep ws hws
  have lws := Bd.way_len 11 b dep ws hws
  have exo := Bd.exch_ok (ws := ws) ok okc
  have edw := Bd.dw 12 (b.exch ws c) (by omega) exo.1
  refine ⟨_, rfl, v, b, rfl, hv, ok, by omega, by omega, by omega, fun dl H1 s1 fdl h1 => ?_⟩
  refine ⟨_, rfl, v, b, rfl, hv.mono s1, ok, by omega, by omega, by omega, fun fl H2 s2 ffl h2 => ?_⟩
  have h12 := h1.mono s2
  -- the lists are alike
  refine ⟨_, rfl, _, rfl, _, _, _, _, rfl, h2, h12, by omega, by omega, fun H3 s3 => ⟨_, rfl, ?_⟩⟩
  rw [Dat.beq_self]
  refine Zo (by simp) ?_
  obtain ⟨_, xs, er, hdl, hxs⟩ := YU h1
  cases er
  obtain ⟨ts, rfl, rows⟩ := ways_refs (K := K) hxs
  have s13 := s2.trans s3
  have lts : ts.length = b.places.length := rows.1
  have rows3 : RowsAt K H3 ts b.places := ⟨rows.1, fun i r w e1 e2 => by
    have hx3 := hxs.mono s13
    obtain ⟨d, hd, hh⟩ := hx3.get (show (ts.map V.ref)[i]? = some (.ref r) by rw [List.getElem?_map, e1]; rfl)
    rw [List.getElem?_map, e2] at hd
    cases hd
    obtain ⟨r', er, hr'⟩ := Vm hh
    cases er
    exact SqT.of hr'⟩
  have srt := Bd.srt b
  have p0 : b.places[0]? = some [] := by rw [Bd.places_eq]; rfl
  refine ⟨_, rfl, _, rfl, dl, ts, b.places, rfl, SqL.of (s13 _ _ hdl), rows3, by omega, p0, fun i hi => srt_next srt i hi, fun l4 hl4 => ?_⟩
  have s4 := ZE hl4 (.lst (ts.map V.ref))
  have g4 : upd H3 l4 (.lst (ts.map V.ref)) l4 = some (.lst (ts.map V.ref)) := ZD
  generalize upd H3 l4 (.lst (ts.map V.ref)) = H4 at s4 g4 ⊢
  have s14 := s13.trans s4
  refine ⟨_, _, YG (s14 _ _ hdl) (hxs.mono s14), YG g4 (hxs.mono s14), pdw.1, _, rfl, ?_⟩
  rw [Dat.pq_self]
  refine Zo (by simp) ?_
  have s04 := s1.trans s14
  refine ⟨_, rfl, v, b, rfl, hv.mono s04, ok, fun u5 H5 s5 hu5 => ?_⟩
  refine ⟨_, rfl, v, b, rfl, (hv.mono s04).mono s5, ok, fun r6 H6 s6 fr6 hr6 => ?_⟩
  obtain ⟨_, ys, er, hrl, hys⟩ := YU hr6
  cases er
  refine ⟨r6, ys, rfl, .inl ⟨SqL.of hrl, fun t7 ht7 => ?_⟩⟩
  have s7 := ZE ht7 (.tup ys)
  have g7 : upd H6 t7 (.tup ys) t7 = some (.tup ys) := ZD
  generalize upd H6 t7 (.tup ys) = H7 at s7 g7 ⊢
  have pdw2 := dats_dw (m := 34) (bs := b.parts) fun c hc => by
    have dc := Bd.dep_mem hc
    have := Bd.dw 11 c (by omega) (Bd.ok_parts ok c hc)
    omega
  have few := Bd.few ok
  have lpd : (Bd.dats b.parts).length = b.parts.length := by rw [Bd.dats_map, List.length_map]
  refine ⟨_, _, _, _, rfl, hu5.mono (s6.trans s7), ZZ g7 (hys.mono s7), by unfold Dat.dep; omega, by unfold Dat.wid; omega, fun H8 s8 => ⟨_, rfl, ?_⟩⟩
  rw [Dat.beq_self]
  refine Zo (by simp) ?_
  have s48 := (s5.trans s6).trans (s7.trans s8)
  have s28 := (s3.trans s4).trans s48
  -- another tuple at the found list's head
  refine ⟨by show 1 <= sizeLine; decide, fun t9 ht9 => ?_⟩
  have s9 := ZE ht9 (.tup [.int 9])
  obtain ⟨_, fs, er, hfl, hfs⟩ := YU h2
  cases er
  generalize upd H8 t9 (.tup [.int 9]) = H9 at s9 ⊢
  have s29 := s28.trans s9
  have lfs := hfs.length
  rw [List.length_map, Bd.places_eq, List.length_cons] at lfs
  have ix0 : ixN fs.length 0 = some 0 := by
    unfold ixN
    rw [if_pos (by decide), if_pos (by omega)]; rfl
  refine ⟨_, rfl, fl, fs, 0, 0, rfl, rfl, s29 _ _ hfl, ix0, ?_⟩
  have sA : Same H1 (upd H9 fl (.lst (fs.set 0 (.ref t9)))) := (s2.trans s29).putN ffl
  generalize upd H9 fl (.lst (fs.set 0 (.ref t9))) = HA at sA ⊢
  have s0A := s1.trans sA
  -- each place
  refine ⟨_, rfl, dl, rfl, ⟨_, SqL.of (sA _ _ hdl)⟩, ?_⟩
  refine for_list (xs := ts.map V.ref) (fun i σ Hi => Same HA Hi /\ ∃ z5 z6 z7, σ = [some v, some (.ref a), some o, some (.ref dl), some (.ref fl), z5, z6, z7]) ⟨Same.refl _, _, _, _, rfl⟩ (fun i σ Hi _ z => SqL.of (z.1 _ _ (sA _ _ hdl))) ?_ ?_
  · rintro i x σ Hi hx ⟨si, z5, z6, z7, rfl⟩
    have sI := sA.trans si
    obtain ⟨d0, hd0, hx0⟩ := (hxs.mono sI).get hx
    rw [List.getElem?_map] at hd0
    cases hw : b.places[i]? with
    | none => rw [hw] at hd0; cases hd0
    | some wi =>
      rw [hw] at hd0
      cases hd0
      obtain ⟨ta, rfl, hta⟩ := Vm hx0
      have hwm := List.mem_of_getElem? hw
      obtain ⟨ci, hci⟩ := Bd.at_places 11 b dep wi hwm
      refine ⟨_, rfl, _, rfl, ta, rfl, ⟨_, SqT.of hta⟩, ?_⟩
      refine for_tup (xs := wi.map V.int) (fun j σ Hj => Same Hi Hj /\ ∃ u z7 b', σ = [some v, some (.ref a), some o, some (.ref dl), some (.ref fl), some (.ref ta), some u, z7] /\ Has Hj u (Bd.dat b') /\ b'.ok /\ b'.dep <= 11 /\ b'.at (wi.drop j) = some ci) ⟨Same.refl _, v, _, b, rfl, (hv.mono s1).mono sI, ok, dep, hci⟩ (fun j σ Hj _ z => SqT.of (z.1 _ _ hta)) ?_ ?_
      · rintro j x σ Hj hx ⟨sj, u, z7, b', rfl, hu, okb, db', e⟩
        obtain ⟨m, r, rfl, e1, e2, hm⟩ := drop_cons hx
        rw [e1] at e
        unfold Bd.at at e
        by_cases hm0 : 0 <= m
        case neg => rw [if_neg hm0] at e; cases e
        rw [if_pos hm0] at e
        cases hp : b'.parts[m.toNat]? with
        | none => rw [hp] at e; cases e
        | some c' =>
          rw [hp] at e
          refine ⟨_, rfl, u, b', rfl, hu, okb, fun rl H2' s2' fr2' h2' => ?_⟩
          obtain ⟨_, zs, er, hzl, hzs⟩ := YU h2'
          cases er
          have lx := hzs.length
          rw [Bd.dats_map, List.length_map] at lx
          have hi := (List.getElem?_eq_some_iff.mp hp).1
          have hix : m.toNat < zs.length := by omega
          obtain ⟨d, hd, hx2⟩ := hzs.get (List.getElem?_eq_getElem hix)
          rw [Bd.dats_map, List.getElem?_map, hp] at hd
          cases hd
          have em : m = ((m.toNat : Nat) : Int) := by omega
          have dc := Bd.dep_mem (List.mem_of_getElem? hp)
          refine ⟨_, rfl, rl, _, m, zs[m.toNat], rfl, rfl, SqL.of hzl, ?_, sj.trans s2', _, _, c', rfl, hx2, Bd.ok_parts okb c' (List.mem_of_getElem? hp), by omega, by rw [e2]; exact e⟩
          have ea := ZQ (List.getElem?_eq_getElem hix)
          rw [<- em] at ea
          exact ea
      · rintro σ Hj ⟨sj, u, z7, b', rfl, hu, okb, db', e⟩
        rw [List.length_map, List.drop_length] at e
        unfold Bd.at at e
        cases e
        have cdw := Bd.dw 11 ci db' okb
        refine ⟨_, rfl, _, rfl, v, ta, b, ci, wi, rfl, ((hv.mono s1).mono sI).mono sj, ok, sj _ _ hta, hci, fun u2 H3' s3' hu2 => ?_⟩
        refine ⟨_, rfl, _, _, _, _, rfl, hu2, hu.mono s3', by omega, by omega, fun H4' s4' => ⟨_, rfl, ?_⟩⟩
        rw [Dat.beq_self]
        exact Zo (by simp) ⟨((si.trans sj).trans s3').trans s4', _, _, _, rfl⟩
  · rintro σ Hi ⟨si, z5, z6, z7, rfl⟩
    have sI := sA.trans si
    have s0I := s1.trans sI
    have hvI := hv.mono s0I
    refine ⟨_, rfl, v, b, rfl, hvI, ok, by omega, by omega, by omega, fun pl HB sB fpl hB => ?_⟩
    refine ⟨_, rfl, _, _, _, _, rfl, hB, (h1.mono sI).mono sB, by omega, by omega, fun HC sC => ⟨_, rfl, ?_⟩⟩
    rw [Dat.beq_self]
    refine Zo (by simp) ?_
    have sBC := sB.trans sC
    refine ⟨_, rfl, _, rfl, v, b, rfl, hvI.mono sBC, ok, fun uD HD sD hD => ?_⟩
    obtain ⟨pa, ps, rfl, hpa, hps⟩ := Zh hD
    refine ⟨v, pa, ps, b, b.parts, rfl, (hvI.mono sBC).mono sD, ok, hpa, hps, rfl, fun uE HE sE hE => ?_⟩
    rw [Bd.put_parts] at hE
    refine ⟨_, rfl, _, _, _, _, rfl, hE, ((hvI.mono sBC).mono sD).mono sE, by omega, by omega, fun HF sF => ⟨_, rfl, ?_⟩⟩
    rw [Dat.beq_self]
    refine Zo (by simp) ?_
    have sIF := (sBC.trans sD).trans (sE.trans sF)
    have s0F := s0I.trans sIF
    refine ⟨_, rfl, _, rfl, _, rfl, v, o, a, b, c, dA, ws, rfl, hv.mono s0F, ok, s0F _ _ ha, ho.mono s0F, hdA, by omega, fun uG HG sG hG => ?_⟩
    have s0G := s0F.trans sG
    refine ⟨_, rfl, _, rfl, _, rfl, v, o, a, b, c, dA, ws, rfl, hv.mono s0G, ok, s0G _ _ ha, ho.mono s0G, hdA, by omega, by omega, fun uH HH sH hH => ?_⟩
    refine ⟨_, _, _, _, rfl, hG.mono sH, hH, by omega, by omega, fun HJ sJ => ?_⟩
    rw [Dat.beq_self]
    exact q _ ((s0G.trans sH).trans sJ)
end
theorem Y5 : FnScope ["script", "k", "kinds", "definitions", "stream", "name", "parameters", "kind", "body", "some", "place", "other"] ["script"] (ZN sLaw) := ⟨rfl, rfl, rfl, by decide +kernel, rfl, by decide +kernel, by decide +kernel⟩
def Oth (H : Hp) (o : V) : Prop := ∃ c : Bd, Has H o c.dat /\ c.ok /\ c.dep <= 1
theorem Oth.tk {H H' : Hp} {o : V} (h : Oth H o) (t : TK H H') : Oth H' o := let ⟨c, h1, h2⟩ := h; ⟨c, Z3 t _ (Bd.st _) h1, h2⟩
theorem oth_tag {H : Hp} {p : Addr} {x : Str} (h : H p = some (.tup [.str "tag", .str x])) : Oth H (.ref p) :=
  ⟨.tag x, by unfold Bd.dat; exact ZZ h (HasL.cons (by unfold Has; rfl) (HasL.one (by unfold Has; rfl))), by unfold Bd.ok; trivial, by unfold Bd.dep; omega⟩
theorem oth_name {H : Hp} {p : Addr} {x : Str} (h : H p = some (.tup [.str "name", .str x])) : Oth H (.ref p) :=
  ⟨.name x, by unfold Bd.dat; exact ZZ h (HasL.cons (by unfold Has; rfl) (HasL.one (by unfold Has; rfl))), by unfold Bd.ok; trivial, by unfold Bd.dep; omega⟩
theorem oth_one {H : Hp} {p q : Addr} {x : Str} (h : H p = some (.tup [.str "one", .ref q])) (hq : H q = some (.tup [.str "name", .str x])) : Oth H (.ref p) :=
  ⟨.one (.name x), by
    simp only [Bd.dat]
    exact ZZ h (HasL.cons (by unfold Has; rfl) (HasL.one (ZZ hq (HasL.cons (by unfold Has; rfl) (HasL.one (by unfold Has; rfl)))))), by simp [Bd.ok], by simp [Bd.dep]⟩
theorem oth_pair {H : Hp} {p q r : Addr} {x y : Str} (h : H p = some (.tup [.str "pair", .ref q, .ref r])) (hq : H q = some (.tup [.str "name", .str x])) (hr : H r = some (.tup [.str "tag", .str y])) : Oth H (.ref p) :=
  ⟨.pair (.name x) (.tag y), by
    simp only [Bd.dat]
    exact ZZ h (HasL.cons (by unfold Has; rfl) (HasL.cons (ZZ hq (HasL.cons (by unfold Has; rfl) (HasL.one (by unfold Has; rfl)))) (HasL.one (ZZ hr (HasL.cons (by unfold Has; rfl) (HasL.one (by unfold Has; rfl))))))), by simp [Bd.ok], by simp [Bd.dep]⟩
theorem four_at {a b c d : V} {r : Int} (h0 : 0 <= r) (h1 : r < 4) : ∃ v, atI [a, b, c, d] r = some v /\ (v = a ∨ v = b ∨ v = c ∨ v = d) := by
  obtain ⟨k, rfl⟩ : ∃ k : Nat, r = k := ⟨r.toNat, by omega⟩
  match k, h1 with
  | 0, _ => exact ⟨a, rfl, .inl rfl⟩
  | 1, _ => exact ⟨b, rfl, .inr (.inl rfl)⟩
  | 2, _ => exact ⟨c, rfl, .inr (.inr (.inl rfl))⟩
  | 3, _ => exact ⟨d, rfl, .inr (.inr (.inr rfl))⟩
  | k + 4, h => omega
section
variable {X : Cx}
theorem pg_four {x1 x2 x3 x4 : Str} {p1 p2 p3 p4 pos : Pos} {k : Nat} {t1 t2 t3 t4 : TG} (hc : X.calm = true) (h1 : PG X (.Name x1 p1) t1) (h2 : PG X (.Name x2 p2) t2) (h3 : PG X (.Name x3 p3) t3) (h4 : PG X (.Name x4 p4) t4) :
    PG X (.Tuple [.Name x1 p1, .Name x2 p2, .Name x3 p3, .Name x4 p4] k pos) (gTup X.K 4 (Ja t1 (Ja t2 (Ja t3 (Ja t4 gNil))))) :=
  Y0 (n := 4) hc (Zr h1 (Zr h2 (Zr h3 (Zr h4 Yc))))
theorem pe_tupSS {a b : Str} {j1 j2 : Nat} {k : Nat} {p1 p2 pos : Pos} : PE X (.Tuple [.Constant (.str a) j1 p1, .Constant (.str b) j2 p2] k pos) (tTup (Yf (tC (.str a)) (Yf (tC (.str b)) tNil))) := Zn (ZA ZX (ZA ZX ZF))
structure Bx (p : Prop) : Prop where
  h : p
theorem bx_SS {a b : Str} {j1 j2 : Nat} {k : Nat} {p1 p2 pos : Pos} : Bx (PE X (.Tuple [.Constant (.str a) j1 p1, .Constant (.str b) j2 p2] k pos) (tTup (Yf (tC (.str a)) (Yf (tC (.str b)) tNil)))) := ⟨pe_tupSS⟩
theorem bx_ST {a : Str} {j1 : Nat} {es : List Expr} {k k1 : Nat} {p1 p2 pos : Pos} {t} (h : Bx (PE X (.Tuple es k1 p2) t)) : Bx (PE X (.Tuple [.Constant (.str a) j1 p1, .Tuple es k1 p2] k pos) (tTup (Yf (tC (.str a)) (Yf t tNil)))) := ⟨Zn (ZA ZX (ZA h.h ZF))⟩
theorem bx_STT {a : Str} {j1 : Nat} {es es' : List Expr} {k k1 k2 : Nat} {p1 p2 p3 pos : Pos} {t t'} (h : Bx (PE X (.Tuple es k1 p2) t)) (h' : Bx (PE X (.Tuple es' k2 p3) t')) : Bx (PE X (.Tuple [.Constant (.str a) j1 p1, .Tuple es k1 p2, .Tuple es' k2 p3] k pos) (tTup (Yf (tC (.str a)) (Yf t (Yf t' tNil))))) := ⟨Zn (ZA ZX (ZA h.h (ZA h'.h ZF)))⟩
theorem bx_four {e1 e2 e3 e4 : List Expr} {k1 k2 k3 k4 : Nat} {p1 p2 p3 p4 pos : Pos} {t1 t2 t3 t4} (h1 : Bx (PE X (.Tuple e1 k1 p1) t1)) (h2 : Bx (PE X (.Tuple e2 k2 p2) t2)) (h3 : Bx (PE X (.Tuple e3 k3 p3) t3)) (h4 : Bx (PE X (.Tuple e4 k4 p4) t4)) : Bx (PE X (.List [.Tuple e1 k1 p1, .Tuple e2 k2 p2, .Tuple e3 k3 p3, .Tuple e4 k4 p4] pos) (tLst (Yf t1 (Yf t2 (Yf t3 (Yf t4 tNil)))))) := ⟨YF (ZA h1.h (ZA h2.h (ZA h3.h (ZA h4.h ZF))))⟩
theorem bx_set {i : Nat} {x : Str} {e : Expr} {te : TE} {pos pos' : Pos} (hN : X.N.Nodup) (hi : X.N[i]? = some x) (hx : Loc X.env.scope x) (he : Bx (PE X e te)) (hs : swapsWith e (some (.Name x pos')) pos.line X.env = pure false) (hf : X.fn x = true ∨ X.env.scope.names.lookup x = some .local) : Bx (PS X (.Assign [.Name x pos'] e pos) (tAsg te (Y2 i))) := ⟨ZT hN hi hx he.h hs hf⟩
theorem pss_six {s1 s2 s3 s4 s5 s6 : Stmt} {t1 t2 t3 t4 t5 t6 : TS} (h1 : PS X s1 t1) (h2 : PS X s2 t2) (h3 : Bx (PS X s3 t3)) (h4 : PS X s4 t4) (h5 : PS X s5 t5) (h6 : PS X s6 t6) : PSs X [s1, s2, s3, s4, s5, s6] (Jf t1 (Jf t2 (Jf t3 (Jf t4 (Jf t5 t6))))) :=
  ZG h1 (ZG h2 (ZG h3.h (ZG h4 (ZG h5 (ZL h6)))))
end
section
variable {P : Program} {w : World} {K : PySem.W.Frag} {mg : Str -> Option Value} {base : Heap} {f : Addr} {fd : FuncData}
def spLaw (K : PySem.W.Frag) : Sp := fun vs H Q _ => ∃ (a : Addr) (ns : List Int), vs = [.ref a] /\ SqL K H a (ns.map V.int) /\ ns.length <= 63 /\ ∀ H', Q (.bl true) H'
theorem ok_law {n : Nat} (B : Blt mg) (mm : mg "min" = none) (F : Fun K "law" "law" sLaw f fd)
    (DC : Df P w K mg base n "_law_cell" ["script", "k"] (spCell K)) (DM : Df P w K mg base n "_law_stream" ["cell"] spStream) (DT : Df P w K mg base n "_law_take" ["stream", "many"] YK) (DB : Df P w K mg base n "_law_book" ["cell", "most", "many", "top", "left"] spBook)
    (DL : Df P w K mg base n "_law_places" ["body"] (YH 12)) (DZ : Df P w K mg base n "_law_size" ["body"] (Vp 12)) (DR : Df P w K mg base n "_law_right" ["body", "place", "other"] spRight5) :
    FnOk P w K mg base CX0 (n + 1) f fd ["script"] (spLaw K) := by
  obtain ⟨gc, cd', mC, kC, bC, GC⟩ := DC
  obtain ⟨gm, md', mM, kM, bM, GM⟩ := DM
  obtain ⟨gt, td', mT, kT, bT, GT⟩ := DT
  obtain ⟨gb, bd', mB, kB, bB, GB'⟩ := DB
  obtain ⟨gl, ld', mL, kL, bL, GL⟩ := DL
  obtain ⟨gz, zd', mZ, kZ, bZ, GZ⟩ := DZ
  obtain ⟨gr, rd', mR, kR, bR, GR⟩ := DR
  refine F.ok Y5 (fun vs H Q E h => ?_) (fun cdv A outer s H vs Q E hr h => ?_)
  · obtain ⟨a, ns, rfl, _⟩ := h
    rfl
  obtain ⟨a, ns, rfl, hS, h63, q⟩ := h
  refine ⟨_, ZG (YS PassesOwn.never rfl (Yw rfl B.range (ZA (Zi (JQ rfl) rfl B.max JS (ZA ZH (ZA (Zc op_fdiv (Zi (call_min2 rfl) rfl mm boot_min' (ZA (Zi Zf rfl B.len PySem.boot_len (ZA (pv 0) ZF)) (ZA ZH ZF))) ZH) ZF))) ZF)) (Za (i := 1) Y5.nd rfl (Or.inl rfl))
      (ZG (Y8 (ZK GB' hr rfl mB kB bB .nil ZU (ZA (ZK GC hr rfl mC kC bC .nil ZU (ZA (pv 0) (ZA (Zc YT ZH (pv 1)) ZF))) (ZA ZH (ZA ZH (ZA ZH (ZA ZH ZF)))))) (Y0 (n := 2) rfl (Zr (Za (i := 2) Y5.nd rfl (Or.inl rfl)) (Zr (Za (i := 3) Y5.nd rfl (Or.inl rfl)) Yc))))
      (ZG (ZT (i := 4) Y5.nd rfl (Or.inl rfl) (ZK GM hr rfl mM kM bM .nil ZU (ZA (ZK GC hr rfl mC kC bC .nil ZU (ZA (pv 0) (ZA (Zc YB (Zc YT ZH (pv 1)) ZH) ZF))) ZF)))
      (ZL (YS PassesOwn.never rfl (Y6 (pv 3)) (pg_four rfl (Za (i := 5) Y5.nd rfl (Or.inl rfl)) (Za (i := 6) Y5.nd rfl (Or.inl rfl)) (Za (i := 7) Y5.nd rfl (Or.inl rfl)) (Za (i := 8) Y5.nd rfl (Or.inl rfl)))
        (pss_six
          (ZT (i := 9) Y5.nd rfl (Or.inl rfl) (ZK GL hr rfl mL kL bL .nil ZU (ZA (pv 8) ZF)))
          (ZT (i := 10) Y5.nd rfl (Or.inl rfl) (ZV Zj (pv 9) (ZK GT hr rfl mT kT bT .nil ZU (ZA (pv 4) (ZA (Zi Zf rfl B.len PySem.boot_len (ZA (pv 9) ZF)) ZF))) (fun _ _ => rfl)))
          (bx_set (i := 11) Y5.nd rfl (Or.inl rfl) (bx_four bx_SS bx_SS (bx_ST bx_SS) (bx_STT bx_SS bx_SS)) rfl (Or.inl rfl))
          (ZT (i := 11) Y5.nd rfl (Or.inl rfl) (ZV Zj (pv 11) (ZK GT hr rfl mT kT bT .nil ZU (ZA (pv 4) (ZA ZH ZF))) (fun _ _ => rfl)))
          (Zt (PW.pt (V9 (ZY JZ (Zi Zf rfl B.len PySem.boot_len (ZA (pv 10) ZF)) ZH (Zd _)) (Vt (ZY JZ (ZK GZ hr rfl mZ kZ bZ .nil ZU (ZA (pv 8) ZF)) ZH (Zd _))))) (ZL (ZT (i := 11) Y5.nd rfl (Or.inl rfl) pe_tupSS)) Zb)
          (Zt (VW (YV (ZK GR hr rfl mR kR bR .nil ZU (ZA (pv 8) (ZA (pv 10) (ZA (pv 11) ZF)))))) (ZL (ZW pe_bl)) Zb)
        ))))))
    (ZL (ZW pe_bl)), ?_⟩
  dsimp only [Y9, Cx.nox, Cx.wish]
  have lns : (ns.map V.int).length = ns.length := List.length_map _
  refine ⟨_, rfl, a, _, rfl, .inl hS, _, _, rfl, _, _, rfl, rfl, ⟨by decide, by decide⟩, _, _, rfl, _, rfl, ?_, ?_, ?_⟩
  · split <;> split <;> omega
  · split <;> split <;> omega
  refine Vd (fun i σ Hi => Same H Hi /\ ∃ z1 z2 z3 z4 z5 z6 z7 z8 z9 z10 z11, σ = [some (.ref a), z1, z2, z3, z4, z5, z6, z7, z8, z9, z10, z11]) ⟨Same.refl _, _, _, _, _, _, _, _, _, _, _, _, rfl⟩ ?_ ?_
  · rintro BB RR i σ Hi hi ⟨si, z1, z2, z3, z4, z5, z6, z7, z8, z9, z10, z11, rfl⟩
    have hi' : i < 63 := by
      refine Nat.lt_of_lt_of_le hi ?_
      split <;> split <;> omega
    have cm : CMul 2 (0 + (i : Int)) := .inl ⟨by decide, by decide⟩
    refine ⟨_, rfl, _, rfl, _, _, rfl, rfl, cm, a, ns, _, rfl, si.seq hS, by omega, fun c => ?_⟩
    refine ⟨c, 4, 4, 40, 12, rfl, by decide, by decide, by decide, by decide, by decide, by decide, fun r kl dl zs H1 s1 hr1 hdl lz hz => ?_⟩
    refine ⟨r, _, rfl, SqT.of hr1, rfl, _, _, rfl, _, _, rfl, rfl, ?_⟩
    have si1 := si.trans s1
    refine ⟨_, rfl, _, rfl, _, _, rfl, rfl, cm, _, _, rfl, rfl, a, ns, _, rfl, si1.seq hS, by omega, fun c2 => ?_⟩
    refine ⟨c2, rfl, fun p H2 fp b2 s2 => ?_⟩
    have s12 : Same H1 H2 := b2.sb.same fp
    have ndp : dl ≠ p := ZO hdl fp
    refine ⟨_, rfl, dl, rfl, ⟨_, SqL.of (s12 _ _ hdl)⟩, ?_⟩
    refine fl_list (xs := zs) (fun j σ H' => SameB p H2 H' /\ Zu H' p /\ ∃ y5 y6 y7 y8 y9 y10 y11, σ = [some (.ref a), some (.int (0 + (i : Int))), some (.ref kl), some (.ref dl), some (.ref p), y5, y6, y7, y8, y9, y10, y11]) ⟨SameB.refl _ _, s2, _, _, _, _, _, _, _, rfl⟩ ?_ ?_ ?_
    · rintro j σ H' _ ⟨bj, _⟩
      exact SqL.of (bj _ _ ndp (s12 _ _ hdl))
    · rintro B2 R2 j z σ H' hj ⟨bj, tj, y5, y6, y7, y8, y9, y10, y11, rfl⟩
      obtain ⟨t, u1, u2, u3, v, b, rfl, ht, hv, ok, dep, sz⟩ := ((hz z (List.mem_of_getElem? hj)).tk s12.tk).tk (s2.tkB bj)
      have pl := Bd.places_len 11 b dep
      have sz1 := Bd.size_eq b
      refine ⟨t, _, rfl, SqT.of ht, rfl, _, _, rfl, _, _, rfl, _, _, rfl, _, _, rfl, rfl, ?_⟩
      refine ⟨_, rfl, v, b, rfl, hv, ok, by omega, by omega, by omega, fun r3 H3 s3 f3 h3 => ?_⟩
      obtain ⟨_, xs, er, hr3, hxs⟩ := YU h3
      cases er
      have lx := hxs.length
      rw [List.length_map] at lx
      have t3 := tj.sm s3
      have n3 := tj.ne f3
      refine ⟨_, rfl, _, rfl, _, rfl, r3, xs, rfl, .inl (SqL.of hr3), p, xs.length, rfl, t3, by omega, by omega, fun r4 H4 g0 g1 b4 t4 => ?_⟩
      obtain ⟨k4, rfl⟩ : ∃ k : Nat, r4 = k := ⟨r4.toNat, by omega⟩
      have hk4 : k4 < xs.length := by omega
      obtain ⟨d, hd, hh⟩ := hxs.get (List.getElem?_eq_getElem hk4)
      rw [List.getElem?_map] at hd
      cases hws : b.places[k4]? with
      | none => rw [hws] at hd; cases hd
      | some ws =>
        rw [hws] at hd
        cases hd
        obtain ⟨wa, ewa, hwa⟩ := Vm hh
        have tk4 := t3.tkB b4.sb
        have hwa4 := tk4 _ _ hwa
        have hv4 := Z3 tk4 _ (Bd.st _) (hv.mono s3)
        refine ⟨r3, xs, _, _, rfl, rfl, SqL.of (b4.sb _ _ n3 hr3), ZQ (List.getElem?_eq_getElem hk4), ?_⟩
        rw [ewa]
        have bj4 : SameB p H2 H4 := bj.trans (s3.sb.trans b4.sb)
        -- the four bodies
        refine ⟨by show 2 <= sizeLine; decide, fun q1 f1 => ?_⟩
        have e1 := ZE f1 (.tup [.str "tag", .str "Q"])
        have m1 : upd H4 q1 (.tup [.str "tag", .str "Q"]) q1 = some (.tup [.str "tag", .str "Q"]) := ZD
        generalize upd H4 q1 (.tup [.str "tag", .str "Q"]) = G1 at e1 m1 ⊢
        refine ⟨by show 2 <= sizeLine; decide, fun q2 f2 => ?_⟩
        have e2 := ZE f2 (.tup [.str "name", .str "q"])
        have m2 : upd G1 q2 (.tup [.str "name", .str "q"]) q2 = some (.tup [.str "name", .str "q"]) := ZD
        generalize upd G1 q2 (.tup [.str "name", .str "q"]) = G2 at e2 m2 ⊢
        refine ⟨by show 2 <= sizeLine; decide, fun q3 f3 => ?_⟩
        have e3 := ZE f3 (.tup [.str "name", .str "q"])
        have m3 : upd G2 q3 (.tup [.str "name", .str "q"]) q3 = some (.tup [.str "name", .str "q"]) := ZD
        generalize upd G2 q3 (.tup [.str "name", .str "q"]) = G3 at e3 m3 ⊢
        refine ⟨by show 2 <= sizeLine; decide, fun q4 f4 => ?_⟩
        have e4 := ZE f4 (.tup [.str "one", .ref q3])
        have m4 : upd G3 q4 (.tup [.str "one", .ref q3]) q4 = some (.tup [.str "one", .ref q3]) := ZD
        generalize upd G3 q4 (.tup [.str "one", .ref q3]) = G4 at e4 m4 ⊢
        refine ⟨by show 2 <= sizeLine; decide, fun q5 f5 => ?_⟩
        have e5 := ZE f5 (.tup [.str "name", .str "q"])
        have m5 : upd G4 q5 (.tup [.str "name", .str "q"]) q5 = some (.tup [.str "name", .str "q"]) := ZD
        generalize upd G4 q5 (.tup [.str "name", .str "q"]) = G5 at e5 m5 ⊢
        refine ⟨by show 2 <= sizeLine; decide, fun q6 f6 => ?_⟩
        have e6 := ZE f6 (.tup [.str "tag", .str "Q"])
        have m6 : upd G5 q6 (.tup [.str "tag", .str "Q"]) q6 = some (.tup [.str "tag", .str "Q"]) := ZD
        generalize upd G5 q6 (.tup [.str "tag", .str "Q"]) = G6 at e6 m6 ⊢
        refine ⟨by show 3 <= sizeLine; decide, fun q7 f7 => ?_⟩
        have e7 := ZE f7 (.tup [.str "pair", .ref q5, .ref q6])
        have m7 : upd G6 q7 (.tup [.str "pair", .ref q5, .ref q6]) q7 = some (.tup [.str "pair", .ref q5, .ref q6]) := ZD
        generalize upd G6 q7 (.tup [.str "pair", .ref q5, .ref q6]) = G7 at e7 m7 ⊢
        refine ⟨by show 4 <= sizeLine; decide, fun l8 f8 => ?_⟩
        have e8 := ZE f8 (.lst [.ref q1, .ref q2, .ref q4, .ref q7])
        have m8 : upd G7 l8 (.lst [.ref q1, .ref q2, .ref q4, .ref q7]) l8 = some (.lst [.ref q1, .ref q2, .ref q4, .ref q7]) := ZD
        have e48 := e4.trans (e5.trans (e6.trans e7))
        have e47 := (e1.trans (e2.trans e3)).trans e48
        have t7 := t4.sm e47
        have n8 := t7.ne f8
        generalize upd G7 l8 (.lst [.ref q1, .ref q2, .ref q4, .ref q7]) = G8 at e8 m8 ⊢
        have e08 := e47.trans e8
        have o1 : Oth G8 (.ref q1) := oth_tag ((e2.trans (e3.trans (e48.trans e8))) _ _ m1)
        have o2 : Oth G8 (.ref q2) := oth_name ((e3.trans (e48.trans e8)) _ _ m2)
        have o4 : Oth G8 (.ref q4) := oth_one ((e5.trans (e6.trans (e7.trans e8))) _ _ m4) ((e48.trans e8) _ _ m3)
        have o7 : Oth G8 (.ref q7) := oth_pair (e8 _ _ m7) ((e6.trans (e7.trans e8)) _ _ m5) ((e7.trans e8) _ _ m6)
        have t8 := t7.sm e8
        refine ⟨_, rfl, _, rfl, p, 4, rfl, t8, by decide, by decide, fun r5 H5 g50 g51 b5 t5 => ?_⟩
        obtain ⟨o, hat, ho⟩ := four_at (a := V.ref q1) (b := V.ref q2) (c := V.ref q4) (d := V.ref q7) g50 g51
        have oo : Oth G8 o := by rcases ho with rfl | rfl | rfl | rfl <;> assumption
        have tk5 := t8.tkB b5.sb
        have oo5 := oo.tk tk5
        have hv5 := Z3 tk5 _ (Bd.st _) (hv4.mono e08)
        have hwa5 := tk5 _ _ (e08 _ _ hwa4)
        have bj5 : SameB p H2 H5 := bj4.trans (e08.sb.trans b5.sb)
        refine ⟨l8, _, r5, o, rfl, rfl, SqL.of (b5.sb _ _ n8 m8), hat, ?_⟩
        refine ⟨_, rfl, wa, _, rfl, .inr (SqT.of hwa5), _, _, rfl, rfl, _, rfl, ?_⟩
        have fin : ∀ (o' : V) (H6 : Hp), SameB p H2 H6 -> Zu H6 p -> TK H5 H6 -> Oth H6 o' -> ∃ c : Bd, Has H6 v b.dat /\ H6 wa = some (.tup (ws.map V.int)) /\ Has H6 o' c.dat /\ c.ok /\ c.dep <= 1 := fun o' H6 _ _ tk ⟨c, h1, h2, h3⟩ => ⟨c, Z3 tk _ (Bd.st _) hv5, tk _ _ hwa5, h1, h2, h3⟩
        have hmem := List.mem_of_getElem? hws
        refine YI (fun cc => ?_) (fun cc => ?_)
        · refine YQ rfl ?_
          refine ⟨by show 2 <= sizeLine; decide, fun q9 f9 => ?_⟩
          have e9 := ZE f9 (.tup [.str "tag", .str "Q"])
          have m9 : upd H5 q9 (.tup [.str "tag", .str "Q"]) q9 = some (.tup [.str "tag", .str "Q"]) := ZD
          generalize upd H5 q9 (.tup [.str "tag", .str "Q"]) = G9 at e9 m9 ⊢
          obtain ⟨c', hv9, hw9, ho9, okc, dpc⟩ := fin (.ref q9) G9 (bj5.trans e9.sb) (t5.sm e9) e9.tk (oth_tag m9)
          exact ⟨_, rfl, _, rfl, _, rfl, v, (.ref q9), wa, b, c', ws, rfl, hv9, ok, dep, by omega, hw9, hmem, ho9, okc, dpc, fun H10 s10 => ⟨_, rfl, Zo (by simp) ⟨(bj5.trans e9.sb).trans s10.sb, (t5.sm e9).sm s10, _, _, _, _, _, _, _, rfl⟩⟩⟩
        · refine ⟨_, rfl, v, b, rfl, hv5, ok, by omega, by omega, fun H6 s6 => ⟨_, _, rfl, rfl, _, rfl, ?_⟩⟩
          refine YI (fun cc => ?_) (fun cc => ?_)
          · refine ⟨by show 2 <= sizeLine; decide, fun q9 f9 => ?_⟩
            have e9 := ZE f9 (.tup [.str "tag", .str "Q"])
            have m9 : upd H6 q9 (.tup [.str "tag", .str "Q"]) q9 = some (.tup [.str "tag", .str "Q"]) := ZD
            generalize upd H6 q9 (.tup [.str "tag", .str "Q"]) = G9 at e9 m9 ⊢
            obtain ⟨c', hv9, hw9, ho9, okc, dpc⟩ := fin (.ref q9) G9 (bj5.trans (s6.sb.trans e9.sb)) ((t5.sm s6).sm e9) (s6.trans e9).tk (oth_tag m9)
            exact ⟨_, rfl, _, rfl, _, rfl, v, (.ref q9), wa, b, c', ws, rfl, hv9, ok, dep, by omega, hw9, hmem, ho9, okc, dpc, fun H10 s10 => ⟨_, rfl, Zo (by simp) ⟨(bj5.trans (s6.sb.trans e9.sb)).trans s10.sb, ((t5.sm s6).sm e9).sm s10, _, _, _, _, _, _, _, rfl⟩⟩⟩
          · obtain ⟨c', hv9, hw9, ho9, okc, dpc⟩ := fin o H6 (bj5.trans s6.sb) (t5.sm s6) s6.tk (oo5.tk s6.tk)
            exact ⟨_, rfl, _, rfl, _, rfl, v, o, wa, b, c', ws, rfl, hv9, ok, dep, by omega, hw9, hmem, ho9, okc, dpc, fun H10 s10 => ⟨_, rfl, Zo (by simp) ⟨(bj5.trans s6.sb).trans s10.sb, (t5.sm s6).sm s10, _, _, _, _, _, _, _, rfl⟩⟩⟩
    · rintro σ H' ⟨bj, _, y5, y6, y7, y8, y9, y10, y11, rfl⟩
      exact ⟨si1.trans ((b2.sb.trans bj).same fp), _, _, _, _, _, _, _, _, _, _, _, rfl⟩
  · rintro σ Hi ⟨si, z1, z2, z3, z4, z5, z6, z7, z8, z9, z10, z11, rfl⟩
    exact q _
end
section
variable {P : Program} {w : World} {K : PySem.W.Frag} {mg : Str -> Option Value} {base : Heap} {f g : Addr} {fd gd : FuncData}
theorem size_zero {m : Nat} : FnOk P w K mg base CX0 m f fd ["body"] (Vp 0) :=
  ⟨fun vs H Q E h => let ⟨_, _, _, _, _, hd, _⟩ := h; absurd hd (Nat.not_lt_zero _), fun A outer s H args us vs Q E _ _ _ _ h => let ⟨_, _, _, _, _, hd, _⟩ := h; absurd hd (Nat.not_lt_zero _)⟩
theorem size_fn (B : Blt mg) (ms : mg "sum" = none) (F : Fun K "_law_size" "_law_size" sSize f fd) (bG : Binds K fd ["body"] []) (mG : mg "_law_size" = some (.ref f)) (GL : FnOk P w K mg base CX0 1 g gd ["body"] Ya) (bL : Binds K gd ["body"] []) (kL : PySem.W.keepIn K (.ref g) = true) (mL : mg "_law_parts" = some (.ref g)) : ∀ n, FnOk P w K mg base CX0 (1 + n) f fd ["body"] (Vp n)
  | 0 => size_zero
  | n + 1 => ok_size (m := 1 + n) B ms F (size_fn B ms F bG mG GL bL kL mL n) bG mG (GL.mono (by omega)) bL kL mL
end
theorem all_at {l : PySem.W.OpenLaw} {w : World} {K : PySem.W.Frag} {h : Heap} {mg : Str -> Option Value} {fa f1 f2 f3 f4 f5 f6 f7 f8 f9 f10 f11 f12 f13 f14 f15 f16 f17 f18 f19 f20 f21 f22 f23 f24 f25 f26 f27 f28 f29 : Addr} (X : K.In h) (G : h.Ns mainGlobals mg) (hfa : mg "law" = some (.ref fa))
    {od1 an1 od2 an2 od3 an3 od4 an4 od5 an5 od6 an6 od7 an7 od8 an8 od9 an9 od10 an10 od11 an11 od12 an12 od13 an13 od14 an14 od15 an15 od16 an16 od17 an17 od18 an18 od19 an19 od20 an20 od21 an21 od22 an22 od23 an23 od24 an24 od25 an25 od26 an26 od27 an27 od28 an28 od29 an29 : Option Addr} {sl1 sl2 sl3 sl4 sl5 sl6 sl7 sl8 sl9 sl10 sl11 sl12 sl13 sl14 sl15 sl16 sl17 sl18 sl19 sl20 sl21 sl22 sl23 sl24 sl25 sl26 sl27 sl28 sl29 : Array (Option Value)}
    {oc1 kV1 dc1 pm1 cd1 ct1 oc2 kV2 dc2 pm2 cd2 ct2 oc3 kV3 dc3 pm3 cd3 ct3 oc4 kV4 dc4 pm4 cd4 ct4 oc5 kV5 dc5 pm5 cd5 ct5 oc6 kV6 dc6 pm6 cd6 ct6 oc7 kV7 dc7 pm7 cd7 ct7 oc8 kV8 dc8 pm8 cd8 ct8 oc9 kV9 dc9 pm9 cd9 ct9 oc10 kV10 dc10 pm10 cd10 ct10 oc11 kV11 dc11 pm11 cd11 ct11 oc12 kV12 dc12 pm12 cd12 ct12 oc13 kV13 dc13 pm13 cd13 ct13 oc14 kV14 dc14 pm14 cd14 ct14 oc15 kV15 dc15 pm15 cd15 ct15 oc16 kV16 dc16 pm16 cd16 ct16 oc17 kV17 dc17 pm17 cd17 ct17 oc18 kV18 dc18 pm18 cd18 ct18 oc19 kV19 dc19 pm19 cd19 ct19 oc20 kV20 dc20 pm20 cd20 ct20 oc21 kV21 dc21 pm21 cd21 ct21 oc22 kV22 dc22 pm22 cd22 ct22 oc23 kV23 dc23 pm23 cd23 ct23 oc24 kV24 dc24 pm24 cd24 ct24 oc25 kV25 dc25 pm25 cd25 ct25 oc26 kV26 dc26 pm26 cd26 ct26 oc27 kV27 dc27 pm27 cd27 ct27 oc28 kV28 dc28 pm28 cd28 ct28 oc29 kV29 dc29 pm29 cd29 ct29 : Value}
    (a1 : PySem.W.nsIn K mainGlobals "parts" = some (some (.ref f1)))
    (l1 : K.lookup f1 = some ⟨oc1, od1, .func (PySem.W.fnOf "parts" "parts" (Zm JK) (Zl JK) (ZN JK) .none kV1 dc1 pm1 an1 cd1 ct1), sl1⟩)
    (d1 : PySem.W.codeIn K cd1 "parts" = true) (k1 : PySem.W.keepIn K (.ref f1) = true)
    (a2 : PySem.W.nsIn K mainGlobals "with_parts" = some (some (.ref f2)))
    (l2 : K.lookup f2 = some ⟨oc2, od2, .func (PySem.W.fnOf "with_parts" "with_parts" (Zm Yh) (Zl Yh) (ZN Yh) .none kV2 dc2 pm2 an2 cd2 ct2), sl2⟩)
    (d2 : PySem.W.codeIn K cd2 "with_parts" = true) (k2 : PySem.W.keepIn K (.ref f2) = true)
    (a3 : PySem.W.nsIn K mainGlobals "places" = some (some (.ref f3)))
    (l3 : K.lookup f3 = some ⟨oc3, od3, .func (PySem.W.fnOf "places" "places" (Zm VJ) (Zl VJ) (ZN VJ) .none kV3 dc3 pm3 an3 cd3 ct3), sl3⟩)
    (d3 : PySem.W.codeIn K cd3 "places" = true) (k3 : PySem.W.keepIn K (.ref f3) = true)
    (a4 : PySem.W.nsIn K mainGlobals "part_at" = some (some (.ref f4)))
    (l4 : K.lookup f4 = some ⟨oc4, od4, .func (PySem.W.fnOf "part_at" "part_at" (Zm Vk) (Zl Vk) (ZN Vk) .none kV4 dc4 pm4 an4 cd4 ct4), sl4⟩)
    (d4 : PySem.W.codeIn K cd4 "part_at" = true) (k4 : PySem.W.keepIn K (.ref f4) = true)
    (a5 : PySem.W.nsIn K mainGlobals "_law_cell" = some (some (.ref f5)))
    (l5 : K.lookup f5 = some ⟨oc5, od5, .func (PySem.W.fnOf "_law_cell" "_law_cell" (Zm sCell) (Zl sCell) (ZN sCell) .none kV5 dc5 pm5 an5 cd5 ct5), sl5⟩)
    (d5 : PySem.W.codeIn K cd5 "_law_cell" = true) (k5 : PySem.W.keepIn K (.ref f5) = true)
    (a6 : PySem.W.nsIn K mainGlobals "_law_mixed" = some (some (.ref f6)))
    (l6 : K.lookup f6 = some ⟨oc6, od6, .func (PySem.W.fnOf "_law_mixed" "_law_mixed" (Zm JL) (Zl JL) (ZN JL) .none kV6 dc6 pm6 an6 cd6 ct6), sl6⟩)
    (d6 : PySem.W.codeIn K cd6 "_law_mixed" = true) (k6 : PySem.W.keepIn K (.ref f6) = true)
    (a7 : PySem.W.nsIn K mainGlobals "_law_stream" = some (some (.ref f7)))
    (l7 : K.lookup f7 = some ⟨oc7, od7, .func (PySem.W.fnOf "_law_stream" "_law_stream" (Zm Vi) (Zl Vi) (ZN Vi) .none kV7 dc7 pm7 an7 cd7 ct7), sl7⟩)
    (d7 : PySem.W.codeIn K cd7 "_law_stream" = true) (k7 : PySem.W.keepIn K (.ref f7) = true)
    (a8 : PySem.W.nsIn K mainGlobals "_law_take" = some (some (.ref f8)))
    (l8 : K.lookup f8 = some ⟨oc8, od8, .func (PySem.W.fnOf "_law_take" "_law_take" (Zm sTake) (Zl sTake) (ZN sTake) .none kV8 dc8 pm8 an8 cd8 ct8), sl8⟩)
    (d8 : PySem.W.codeIn K cd8 "_law_take" = true) (k8 : PySem.W.keepIn K (.ref f8) = true)
    (a9 : PySem.W.nsIn K mainGlobals "_law_words" = some (some (.ref f9)))
    (l9 : K.lookup f9 = some ⟨oc9, od9, .func (PySem.W.fnOf "_law_words" "_law_words" (Zm JH) (Zl JH) (ZN JH) .none kV9 dc9 pm9 an9 cd9 ct9), sl9⟩)
    (d9 : PySem.W.codeIn K cd9 "_law_words" = true) (k9 : PySem.W.keepIn K (.ref f9) = true)
    (a10 : PySem.W.nsIn K mainGlobals "_law_small" = some (some (.ref f10)))
    (l10 : K.lookup f10 = some ⟨oc10, od10, .func (PySem.W.fnOf "_law_small" "_law_small" (Zm JI) (Zl JI) (ZN JI) .none kV10 dc10 pm10 an10 cd10 ct10), sl10⟩)
    (d10 : PySem.W.codeIn K cd10 "_law_small" = true) (k10 : PySem.W.keepIn K (.ref f10) = true)
    (a11 : PySem.W.nsIn K mainGlobals "_law_pair" = some (some (.ref f11)))
    (l11 : K.lookup f11 = some ⟨oc11, od11, .func (PySem.W.fnOf "_law_pair" "_law_pair" (Zm sPair) (Zl sPair) (ZN sPair) .none kV11 dc11 pm11 an11 cd11 ct11), sl11⟩)
    (d11 : PySem.W.codeIn K cd11 "_law_pair" = true) (k11 : PySem.W.keepIn K (.ref f11) = true)
    (a12 : PySem.W.nsIn K mainGlobals "_law_kinds" = some (some (.ref f12)))
    (l12 : K.lookup f12 = some ⟨oc12, od12, .func (PySem.W.fnOf "_law_kinds" "_law_kinds" (Zm JM) (Zl JM) (ZN JM) .none kV12 dc12 pm12 an12 cd12 ct12), sl12⟩)
    (d12 : PySem.W.codeIn K cd12 "_law_kinds" = true) (k12 : PySem.W.keepIn K (.ref f12) = true)
    (a13 : PySem.W.nsIn K mainGlobals "_law_heads" = some (some (.ref f13)))
    (l13 : K.lookup f13 = some ⟨oc13, od13, .func (PySem.W.fnOf "_law_heads" "_law_heads" (Zm JN) (Zl JN) (ZN JN) .none kV13 dc13 pm13 an13 cd13 ct13), sl13⟩)
    (d13 : PySem.W.codeIn K cd13 "_law_heads" = true) (k13 : PySem.W.keepIn K (.ref f13) = true)
    (a14 : PySem.W.nsIn K mainGlobals "_law_plain" = some (some (.ref f14)))
    (l14 : K.lookup f14 = some ⟨oc14, od14, .func (PySem.W.fnOf "_law_plain" "_law_plain" (Zm VU) (Zl VU) (ZN VU) .none kV14 dc14 pm14 an14 cd14 ct14), sl14⟩)
    (d14 : PySem.W.codeIn K cd14 "_law_plain" = true) (k14 : PySem.W.keepIn K (.ref f14) = true)
    (a15 : PySem.W.nsIn K mainGlobals "_law_some" = some (some (.ref f15)))
    (l15 : K.lookup f15 = some ⟨oc15, od15, .func (PySem.W.fnOf "_law_some" "_law_some" (Zm sSome) (Zl sSome) (ZN sSome) .none kV15 dc15 pm15 an15 cd15 ct15), sl15⟩)
    (d15 : PySem.W.codeIn K cd15 "_law_some" = true) (k15 : PySem.W.keepIn K (.ref f15) = true)
    (a16 : PySem.W.nsIn K mainGlobals "_law_choose" = some (some (.ref f16)))
    (l16 : K.lookup f16 = some ⟨oc16, od16, .func (PySem.W.fnOf "_law_choose" "_law_choose" (Zm VL) (Zl VL) (ZN VL) .none kV16 dc16 pm16 an16 cd16 ct16), sl16⟩)
    (d16 : PySem.W.codeIn K cd16 "_law_choose" = true) (k16 : PySem.W.keepIn K (.ref f16) = true)
    (a17 : PySem.W.nsIn K mainGlobals "_law_ask" = some (some (.ref f17)))
    (l17 : K.lookup f17 = some ⟨oc17, od17, .func (PySem.W.fnOf "_law_ask" "_law_ask" (Zm sAsk) (Zl sAsk) (ZN sAsk) .none kV17 dc17 pm17 an17 cd17 ct17), sl17⟩)
    (d17 : PySem.W.codeIn K cd17 "_law_ask" = true) (k17 : PySem.W.keepIn K (.ref f17) = true)
    (a18 : PySem.W.nsIn K mainGlobals "_law_part" = some (some (.ref f18)))
    (l18 : K.lookup f18 = some ⟨oc18, od18, .func (PySem.W.fnOf "_law_part" "_law_part" (Zm Vs) (Zl Vs) (ZN Vs) .none kV18 dc18 pm18 an18 cd18 ct18), sl18⟩)
    (d18 : PySem.W.codeIn K cd18 "_law_part" = true) (k18 : PySem.W.keepIn K (.ref f18) = true)
    (a19 : PySem.W.nsIn K mainGlobals "_law_let" = some (some (.ref f19)))
    (l19 : K.lookup f19 = some ⟨oc19, od19, .func (PySem.W.fnOf "_law_let" "_law_let" (Zm sLet) (Zl sLet) (ZN sLet) .none kV19 dc19 pm19 an19 cd19 ct19), sl19⟩)
    (d19 : PySem.W.codeIn K cd19 "_law_let" = true) (k19 : PySem.W.keepIn K (.ref f19) = true)
    (a20 : PySem.W.nsIn K mainGlobals "_law_body" = some (some (.ref f20)))
    (l20 : K.lookup f20 = some ⟨oc20, od20, .func (PySem.W.fnOf "_law_body" "_law_body" (Zm JW) (Zl JW) (ZN JW) .none kV20 dc20 pm20 an20 cd20 ct20), sl20⟩)
    (d20 : PySem.W.codeIn K cd20 "_law_body" = true) (k20 : PySem.W.keepIn K (.ref f20) = true)
    (a21 : PySem.W.nsIn K mainGlobals "_law_parts" = some (some (.ref f21)))
    (l21 : K.lookup f21 = some ⟨oc21, od21, .func (PySem.W.fnOf "_law_parts" "_law_parts" (Zm Vj) (Zl Vj) (ZN Vj) .none kV21 dc21 pm21 an21 cd21 ct21), sl21⟩)
    (d21 : PySem.W.codeIn K cd21 "_law_parts" = true) (k21 : PySem.W.keepIn K (.ref f21) = true)
    (a22 : PySem.W.nsIn K mainGlobals "_law_size" = some (some (.ref f22)))
    (l22 : K.lookup f22 = some ⟨oc22, od22, .func (PySem.W.fnOf "_law_size" "_law_size" (Zm sSize) (Zl sSize) (ZN sSize) .none kV22 dc22 pm22 an22 cd22 ct22), sl22⟩)
    (d22 : PySem.W.codeIn K cd22 "_law_size" = true) (k22 : PySem.W.keepIn K (.ref f22) = true)
    (a23 : PySem.W.nsIn K mainGlobals "_law_book" = some (some (.ref f23)))
    (l23 : K.lookup f23 = some ⟨oc23, od23, .func (PySem.W.fnOf "_law_book" "_law_book" (Zm sBook) (Zl sBook) (ZN sBook) .none kV23 dc23 pm23 an23 cd23 ct23), sl23⟩)
    (d23 : PySem.W.codeIn K cd23 "_law_book" = true) (k23 : PySem.W.keepIn K (.ref f23) = true)
    (a24 : PySem.W.nsIn K mainGlobals "_law_same" = some (some (.ref f24)))
    (l24 : K.lookup f24 = some ⟨oc24, od24, .func (PySem.W.fnOf "_law_same" "_law_same" (Zm sSame) (Zl sSame) (ZN sSame) .none kV24 dc24 pm24 an24 cd24 ct24), sl24⟩)
    (d24 : PySem.W.codeIn K cd24 "_law_same" = true) (k24 : PySem.W.keepIn K (.ref f24) = true)
    (a25 : PySem.W.nsIn K mainGlobals "_law_places" = some (some (.ref f25)))
    (l25 : K.lookup f25 = some ⟨oc25, od25, .func (PySem.W.fnOf "_law_places" "_law_places" (Zm Yy) (Zl Yy) (ZN Yy) .none kV25 dc25 pm25 an25 cd25 ct25), sl25⟩)
    (d25 : PySem.W.codeIn K cd25 "_law_places" = true) (k25 : PySem.W.keepIn K (.ref f25) = true)
    (a26 : PySem.W.nsIn K mainGlobals "_law_exchanged" = some (some (.ref f26)))
    (l26 : K.lookup f26 = some ⟨oc26, od26, .func (PySem.W.fnOf "_law_exchanged" "_law_exchanged" (Zm sExch) (Zl sExch) (ZN sExch) .none kV26 dc26 pm26 an26 cd26 ct26), sl26⟩)
    (d26 : PySem.W.codeIn K cd26 "_law_exchanged" = true) (k26 : PySem.W.keepIn K (.ref f26) = true)
    (a27 : PySem.W.nsIn K mainGlobals "_law_put" = some (some (.ref f27)))
    (l27 : K.lookup f27 = some ⟨oc27, od27, .func (PySem.W.fnOf "_law_put" "_law_put" (Zm sPut) (Zl sPut) (ZN sPut) .none kV27 dc27 pm27 an27 cd27 ct27), sl27⟩)
    (d27 : PySem.W.codeIn K cd27 "_law_put" = true) (k27 : PySem.W.keepIn K (.ref f27) = true)
    (a28 : PySem.W.nsIn K mainGlobals "_law_right" = some (some (.ref f28)))
    (l28 : K.lookup f28 = some ⟨oc28, od28, .func (PySem.W.fnOf "_law_right" "_law_right" (Zm JJ) (Zl JJ) (ZN JJ) .none kV28 dc28 pm28 an28 cd28 ct28), sl28⟩)
    (d28 : PySem.W.codeIn K cd28 "_law_right" = true) (k28 : PySem.W.keepIn K (.ref f28) = true)
    (a29 : PySem.W.nsIn K mainGlobals "law" = some (some (.ref f29)))
    (l29 : K.lookup f29 = some ⟨oc29, od29, .func (PySem.W.fnOf "law" "law" (Zm sLaw) (Zl sLaw) (ZN sLaw) .none kV29 dc29 pm29 an29 cd29 ct29), sl29⟩)
    (d29 : PySem.W.codeIn K cd29 "law" = true) (k29 : PySem.W.keepIn K (.ref f29) = true)
    (z1 : PySem.W.nsIn K mainGlobals "len" = some none)
    (z2 : PySem.W.nsIn K mainGlobals "isinstance" = some none)
    (z3 : PySem.W.nsIn K mainGlobals "bool" = some none)
    (z4 : PySem.W.nsIn K mainGlobals "str" = some none)
    (z5 : PySem.W.nsIn K mainGlobals "int" = some none)
    (z6 : PySem.W.nsIn K mainGlobals "tuple" = some none)
    (z7 : PySem.W.nsIn K mainGlobals "list" = some none)
    (z8 : PySem.W.nsIn K mainGlobals "dict" = some none)
    (z9 : PySem.W.nsIn K mainGlobals "all" = some none)
    (z10 : PySem.W.nsIn K mainGlobals "zip" = some none)
    (z11 : PySem.W.nsIn K mainGlobals "max" = some none)
    (z12 : PySem.W.nsIn K mainGlobals "range" = some none)
    (z13 : PySem.W.nsIn K mainGlobals "sorted" = some none)
    (z14 : PySem.W.nsIn K mainGlobals "min" = some none)
    (z15 : PySem.W.nsIn K mainGlobals "sum" = some none)
    (z16 : PySem.W.nsIn K mainGlobals "enumerate" = some none)
    : ∃ fd : FuncData, (∀ (s : Shared) (v : Value), BindsTo s fd ⟨[v], []⟩ [("script", v)]) /\ ∀ base : Heap, K.In base -> base.Ns mainGlobals mg -> FnOk l.prog w K mg base CX0 51 fa fd ["script"] (spLaw K) := by
  have e := hfa.symm.trans (PySem.W.mg_of X G a29)
  cases e
  have F1 := Z0 (st := JK) l1 d1 k1
  have b1 := F1.binds (ps := ["body"]) fun _ _ _ _ _ _ us hl => match us, hl with | [_], _ => rfl
  have m1 := PySem.W.mg_of X G a1
  have F2 := Z0 (st := Yh) l2 d2 k2
  have b2 := F2.binds (ps := ["body", "some"]) fun _ _ _ _ _ _ us hl => match us, hl with | [_, _], _ => rfl
  have m2 := PySem.W.mg_of X G a2
  have F3 := Z0 (st := VJ) l3 d3 k3
  have b3 := F3.binds (ps := ["body"]) fun _ _ _ _ _ _ us hl => match us, hl with | [_], _ => rfl
  have m3 := PySem.W.mg_of X G a3
  have F4 := Z0 (st := Vk) l4 d4 k4
  have b4 := F4.binds (ps := ["body", "place"]) fun _ _ _ _ _ _ us hl => match us, hl with | [_, _], _ => rfl
  have m4 := PySem.W.mg_of X G a4
  have F5 := Z0 (st := sCell) l5 d5 k5
  have b5 := F5.binds (ps := ["script", "k"]) fun _ _ _ _ _ _ us hl => match us, hl with | [_, _], _ => rfl
  have m5 := PySem.W.mg_of X G a5
  have F6 := Z0 (st := JL) l6 d6 k6
  have b6 := F6.binds (ps := ["cell", "k"]) fun _ _ _ _ _ _ us hl => match us, hl with | [_, _], _ => rfl
  have m6 := PySem.W.mg_of X G a6
  have F7 := Z0 (st := Vi) l7 d7 k7
  have b7 := F7.binds (ps := ["cell"]) fun _ _ _ _ _ _ us hl => match us, hl with | [_], _ => rfl
  have m7 := PySem.W.mg_of X G a7
  have F8 := Z0 (st := sTake) l8 d8 k8
  have b8 := F8.binds (ps := ["stream", "many"]) fun _ _ _ _ _ _ us hl => match us, hl with | [_, _], _ => rfl
  have m8 := PySem.W.mg_of X G a8
  have F9 := Z0 (st := JH) l9 d9 k9
  have b9 := F9.binds (ps := ["stream", "many", "letters", "ways"]) fun _ _ _ _ _ _ us hl => match us, hl with | [_, _, _, _], _ => rfl
  have m9 := PySem.W.mg_of X G a9
  have F10 := Z0 (st := JI) l10 d10 k10
  have b10 := F10.binds (ps := ["stream", "many"]) fun _ _ _ _ _ _ us hl => match us, hl with | [_, _], _ => rfl
  have m10 := PySem.W.mg_of X G a10
  have F11 := Z0 (st := sPair) l11 d11 k11
  have b11 := F11.binds (ps := ["stream", "names", "counts", "depths", "taken", "top"]) fun _ _ _ _ _ _ us hl => match us, hl with | [_, _, _, _, _, _], _ => rfl
  have m11 := PySem.W.mg_of X G a11
  have F12 := Z0 (st := JM) l12 d12 k12
  have b12 := F12.binds (ps := ["stream", "most", "top"]) fun _ _ _ _ _ _ us hl => match us, hl with | [_, _, _], _ => rfl
  have m12 := PySem.W.mg_of X G a12
  have F13 := Z0 (st := JN) l13 d13 k13
  have b13 := F13.binds (ps := ["stream", "kinds", "counts", "most", "top"]) fun _ _ _ _ _ _ us hl => match us, hl with | [_, _, _, _, _], _ => rfl
  have m13 := PySem.W.mg_of X G a13
  have F14 := Z0 (st := VU) l14 d14 k14
  have b14 := F14.binds (ps := ["stream", "world", "around", "kind"]) fun _ _ _ _ _ _ us hl => match us, hl with | [_, _, _, _], _ => rfl
  have m14 := PySem.W.mg_of X G a14
  have F15 := Z0 (st := sSome) l15 d15 k15
  have b15 := F15.binds (ps := ["stream", "world", "around", "kind", "deep"]) fun _ _ _ _ _ _ us hl => match us, hl with | [_, _, _, _, _], _ => rfl
  have m15 := PySem.W.mg_of X G a15
  have F16 := Z0 (st := VL) l16 d16 k16
  have b16 := F16.binds (ps := ["stream", "world", "around", "kind", "deep"]) fun _ _ _ _ _ _ us hl => match us, hl with | [_, _, _, _, _], _ => rfl
  have m16 := PySem.W.mg_of X G a16
  have F17 := Z0 (st := sAsk) l17 d17 k17
  have b17 := F17.binds (ps := ["stream", "world", "around", "kind", "deep"]) fun _ _ _ _ _ _ us hl => match us, hl with | [_, _, _, _, _], _ => rfl
  have m17 := PySem.W.mg_of X G a17
  have F18 := Z0 (st := Vs) l18 d18 k18
  have b18 := F18.binds (ps := ["stream", "world", "around", "kind", "deep"]) fun _ _ _ _ _ _ us hl => match us, hl with | [_, _, _, _, _], _ => rfl
  have m18 := PySem.W.mg_of X G a18
  have F19 := Z0 (st := sLet) l19 d19 k19
  have b19 := F19.binds (ps := ["stream", "world", "around", "kind", "deep"]) fun _ _ _ _ _ _ us hl => match us, hl with | [_, _, _, _, _], _ => rfl
  have m19 := PySem.W.mg_of X G a19
  have F20 := Z0 (st := JW) l20 d20 k20
  have b20 := F20.binds (ps := ["stream", "world", "around", "kind", "deep"]) fun _ _ _ _ _ _ us hl => match us, hl with | [_, _, _, _, _], _ => rfl
  have m20 := PySem.W.mg_of X G a20
  have F21 := Z0 (st := Vj) l21 d21 k21
  have b21 := F21.binds (ps := ["body"]) fun _ _ _ _ _ _ us hl => match us, hl with | [_], _ => rfl
  have m21 := PySem.W.mg_of X G a21
  have F22 := Z0 (st := sSize) l22 d22 k22
  have b22 := F22.binds (ps := ["body"]) fun _ _ _ _ _ _ us hl => match us, hl with | [_], _ => rfl
  have m22 := PySem.W.mg_of X G a22
  have F23 := Z0 (st := sBook) l23 d23 k23
  have b23 := F23.binds (ps := ["cell", "most", "many", "top", "left"]) fun _ _ _ _ _ _ us hl => match us, hl with | [_, _, _, _, _], _ => rfl
  have m23 := PySem.W.mg_of X G a23
  have F24 := Z0 (st := sSame) l24 d24 k24
  have b24 := F24.binds (ps := ["found", "due"]) fun _ _ _ _ _ _ us hl => match us, hl with | [_, _], _ => rfl
  have m24 := PySem.W.mg_of X G a24
  have F25 := Z0 (st := Yy) l25 d25 k25
  have b25 := F25.binds (ps := ["body"]) fun _ _ _ _ _ _ us hl => match us, hl with | [_], _ => rfl
  have m25 := PySem.W.mg_of X G a25
  have F26 := Z0 (st := sExch) l26 d26 k26
  have b26 := F26.binds (ps := ["body", "place", "other"]) fun _ _ _ _ _ _ us hl => match us, hl with | [_, _, _], _ => rfl
  have m26 := PySem.W.mg_of X G a26
  have F27 := Z0 (st := sPut) l27 d27 k27
  have b27 := F27.binds (ps := ["body", "place", "other"]) fun _ _ _ _ _ _ us hl => match us, hl with | [_, _, _], _ => rfl
  have m27 := PySem.W.mg_of X G a27
  have F28 := Z0 (st := JJ) l28 d28 k28
  have b28 := F28.binds (ps := ["body", "place", "other"]) fun _ _ _ _ _ _ us hl => match us, hl with | [_, _, _], _ => rfl
  have m28 := PySem.W.mg_of X G a28
  have F29 := Z0 (st := sLaw) l29 d29 k29
  have B : Blt mg := ⟨PySem.W.mg_none_of X G z1, PySem.W.mg_none_of X G z2, PySem.W.mg_none_of X G z3, PySem.W.mg_none_of X G z4, PySem.W.mg_none_of X G z5, PySem.W.mg_none_of X G z6, PySem.W.mg_none_of X G z7, PySem.W.mg_none_of X G z8, PySem.W.mg_none_of X G z9, PySem.W.mg_none_of X G z10, PySem.W.mg_none_of X G z11, PySem.W.mg_none_of X G z12, PySem.W.mg_none_of X G z13⟩
  have nmin := PySem.W.mg_none_of X G z14
  have nsum := PySem.W.mg_none_of X G z15
  have nenumerate := PySem.W.mg_none_of X G z16
  refine ⟨PySem.W.fnOf "law" "law" (Zm sLaw) (Zl sLaw) (ZN sLaw) .none kV29 dc29 pm29 an29 cd29 ct29, fun s v => .of_eq rfl, fun base _ _ => ?_⟩
  have tk : ∀ n, FnOk l.prog w K mg base CX0 (n + 2) f8 _ ["stream", "many"] YK := fun n => ok_take F8 (ok_mixed (n := n) F6) b6 k6 m6
  have wo : ∀ n, FnOk l.prog w K mg base CX0 (n + 3) f9 _ ["stream", "many", "letters", "ways"] Jn := fun n => ok_words B F9 (tk n) b8 k8 m8
  have sm : ∀ n, FnOk l.prog w K mg base CX0 (n + 4) f10 _ ["stream", "many"] V4 := fun n => ok_small F10 (wo n) b9 k9 m9
  have pr : FnOk l.prog w K mg base CX0 9 f11 _ ["stream", "names", "counts", "depths", "taken", "top"] (spPair K) := ok_pair (n := 2) B F11 (tk 6) b8 k8 m8
  have kn : FnOk l.prog w K mg base CX0 10 f12 _ ["stream", "most", "top"] spKinds := ok_kinds (n := 9) B F12 (tk 7) b8 k8 m8 (sm 5) b10 k10 m10 (wo 6) b9 k9 m9 pr b11 k11 m11
  have hd : FnOk l.prog w K mg base CX0 10 f13 _ ["stream", "kinds", "counts", "most", "top"] spHeads := ok_heads (n := 9) B F13 ⟨f8, _, m8, k8, b8, tk 7⟩ ⟨f10, _, m10, k10, b10, sm 5⟩
  have DT : ∀ n, Df l.prog w K mg base (n + 2) "_law_take" ["stream", "many"] YK := fun n => ⟨f8, _, m8, k8, b8, tk n⟩
  have pn : FnOk l.prog w K mg base CX0 6 f14 _ ["stream", "world", "around", "kind"] (YZ 3) := plain_fn B DT F14 b14 m14 3
  have dw := (draw_fn B DT F14 b14 m14 F15 b15 m15 F16 b16 m16 F17 b17 m17 F18 b18 m18 F19 b19 m19 F20 b20 m20 9).2
  have pL : FnOk l.prog w K mg base CX0 1 f21 _ ["body"] Ya := ok_partsL (n := 0) B F21
  have pA : FnOk l.prog w K mg base CX0 1 f1 _ ["body"] VI := ok_parts (n := 0) B F1
  have wP : FnOk l.prog w K mg base CX0 1 f2 _ ["body", "some"] spWith := ok_with (n := 0) B F2
  have sz : FnOk l.prog w K mg base CX0 13 f22 _ ["body"] (Vp 12) := size_fn B nsum F22 b22 m22 pL b21 k21 m21 12
  have pc : FnOk l.prog w K mg base CX0 13 f3 _ ["body"] (YH 12) := places_fn nenumerate F3 b3 m3 ⟨f1, _, m1, k1, b1, pA⟩ 12
  have pcL : FnOk l.prog w K mg base CX0 13 f25 _ ["body"] (YH 12) := placesL_fn nenumerate F25 b25 m25 ⟨f21, _, m21, k21, b21, pL⟩ 12
  have at' : FnOk l.prog w K mg base CX0 2 f4 _ ["body", "place"] (V5 K) := ok_partAt (n := 1) F4 pA b1 k1 m1
  have sa : FnOk l.prog w K mg base CX0 45 f24 _ ["found", "due"] (Vq 45) := same_ok B F24 b24 m24 45
  have ex : FnOk l.prog w K mg base CX0 15 f26 _ ["body", "place", "other"] (JF 13) := exch_fn B F26 b26 m26 ⟨f21, _, m21, k21, b21, pL⟩ 13
  have pu : FnOk l.prog w K mg base CX0 3 f27 _ ["body", "place", "other"] spPut := ok_put (n := 2) B F27 ⟨f4, _, m4, k4, b4, at'⟩ ⟨f1, _, m1, k1, b1, pA.mono (by decide)⟩ ⟨f2, _, m2, k2, b2, wP.mono (by decide)⟩
  have bk : FnOk l.prog w K mg base CX0 49 f23 _ ["cell", "most", "many", "top", "left"] spBook := ok_book (n := 48) B nmin F23 ⟨f7, _, m7, k7, b7, ok_stream (n := 47) F7⟩ ⟨f8, _, m8, k8, b8, tk 46⟩ ⟨f10, _, m10, k10, b10, sm 44⟩ ⟨f12, _, m12, k12, b12, kn.mono (by decide)⟩ ⟨f13, _, m13, k13, b13, hd.mono (by decide)⟩ (dw.up (by decide)) ⟨f14, _, m14, k14, b14, pn.mono (by decide)⟩ ⟨f22, _, m22, k22, b22, sz.mono (by decide)⟩
  have ri : FnOk l.prog w K mg base CX0 49 f28 _ ["body", "place", "other"] spRight5 := ok_right5 (n := 45) B F28 ⟨f25, _, m25, k25, b25, pcL.mono (by decide)⟩ ⟨f3, _, m3, k3, b3, pc.mono (by decide)⟩ ⟨f24, _, m24, k24, b24, sa.mono (by decide)⟩ ⟨f1, _, m1, k1, b1, pA.mono (by decide)⟩ ⟨f21, _, m21, k21, b21, pL.mono (by decide)⟩ ⟨f4, _, m4, k4, b4, at'.mono (by decide)⟩ ⟨f2, _, m2, k2, b2, wP.mono (by decide)⟩ ⟨f27, _, m27, k27, b27, pu.mono (by decide)⟩ ⟨f26, _, m26, k26, b26, ex.mono (by decide)⟩
  exact ok_law (n := 50) B nmin F29 ⟨f5, _, m5, k5, b5, ok_cell (n := 49) B F5⟩ ⟨f7, _, m7, k7, b7, ok_stream (n := 49) F7⟩ ⟨f8, _, m8, k8, b8, tk 48⟩ ⟨f23, _, m23, k23, b23, bk.mono (by decide)⟩ ⟨f25, _, m25, k25, b25, pcL.mono (by decide)⟩ ⟨f22, _, m22, k22, b22, sz.mono (by decide)⟩ ⟨f28, _, m28, k28, b28, ri.mono (by decide)⟩
theorem goes {l : PySem.W.OpenLaw} {q : Program} {loose : List Str} {XP : (Str -> Option Value) -> Heap -> Prop} {YP : World -> Heap -> Prop} {d : DefRec} {K : Params -> PySem.W.Frag} (hn : l.most = some 63) (hdf : d.params.defaults = [])
    (hY : ∀ (w : World) (h : Heap), YP w h -> (K w.params).In h)
    (F : ∀ (w : World) (mg : Str -> Option Value) (fa : Addr) (h : Heap), (K w.params).In h -> h.Ns mainGlobals mg -> mg d.name = some (.ref fa) ->
      ∃ fd : FuncData, (∀ (s : Shared) (u : Value), BindsTo s fd ⟨[u], []⟩ [("script", u)]) /\ ∀ base : Heap, (K w.params).In base -> base.Ns mainGlobals mg -> FnOk l.prog w (K w.params) mg base CX0 51 fa fd ["script"] (spLaw (K w.params))) :
    PySem.W.WalkO q loose XP YP l.row.toRowW d [] (fun f vs => PySem.call f vs) :=
  L2.walk_of (n := 63) (k := 51) (x := "script") (CX := fun _ => CX0) (sp := fun w => spLaw (K w.params)) hn (by decide) hdf ⟨rfl, by decide, by decide⟩ hY F (fun _ _ a ns hl _ hS => ⟨a, ns, rfl, hS, hl, fun _ => rfl⟩) fun _ _ _ _ _ z => z
end K4
def PySem.W.Fast.tw11264958948499432922 : Unit := ()
def PySem.W.Fast.tw11554706386081209349 : Unit := ()
def PySem.W.Fast.tw2348524899347937407 : Unit := ()
def PySem.W.Fast.tw9195545102888543617 : Unit := ()
def PySem.W.Fast.tw3121646719531719706 : Unit := ()
def PySem.W.Fast.tw2119500003883886779 : Unit := ()
def PySem.W.Fast.tw5249884426666740931 : Unit := ()
def PySem.W.Fast.tw6643442655868771160 : Unit := ()
def PySem.W.Fast.tw13022066425907245838 : Unit := ()
def PySem.W.Fast.tw15694544830387931466 : Unit := ()
def PySem.W.Fast.tw4757086022927383236 : Unit := ()
def PySem.W.Fast.tw10488843153872445383 : Unit := ()
def PySem.W.Fast.tw8011998166922092921 : Unit := ()
def PySem.W.Fast.tw17025020669539288935 : Unit := ()
def PySem.W.Fast.tw8894260101979976645 : Unit := ()
def PySem.W.Fast.tw11249710183317396533 : Unit := ()
open PySem PySem.W PyProof.Rows
set_option maxRecDepth 100000 in
set_option maxHeartbeats 0 in
theorem PySem.Challenge.cw_wantway_k05_bodies_and_places_holds : PySem.Challenge.rw_wantway_k05_bodies_and_places.Holds := by
  w_on; o_law; k_head; (case hw => w_witness2)
  k_fill
  refine K4.goes (l := PySem.Challenge.rw_wantway_k05_bodies_and_places) rfl rfl (fun w h Y => PySem.W.kIn_of Y) ?F
  case F =>
    intro w mg fa h KX G hmg
    refine' K4.all_at KX G hmg ?a1 ?l1 ?d1 ?k1 ?a2 ?l2 ?d2 ?k2 ?a3 ?l3 ?d3 ?k3 ?a4 ?l4 ?d4 ?k4 ?a5 ?l5 ?d5 ?k5 ?a6 ?l6 ?d6 ?k6 ?a7 ?l7 ?d7 ?k7 ?a8 ?l8 ?d8 ?k8 ?a9 ?l9 ?d9 ?k9 ?a10 ?l10 ?d10 ?k10 ?a11 ?l11 ?d11 ?k11 ?a12 ?l12 ?d12 ?k12 ?a13 ?l13 ?d13 ?k13 ?a14 ?l14 ?d14 ?k14 ?a15 ?l15 ?d15 ?k15 ?a16 ?l16 ?d16 ?k16 ?a17 ?l17 ?d17 ?k17 ?a18 ?l18 ?d18 ?k18 ?a19 ?l19 ?d19 ?k19 ?a20 ?l20 ?d20 ?k20 ?a21 ?l21 ?d21 ?k21 ?a22 ?l22 ?d22 ?k22 ?a23 ?l23 ?d23 ?k23 ?a24 ?l24 ?d24 ?k24 ?a25 ?l25 ?d25 ?k25 ?a26 ?l26 ?d26 ?k26 ?a27 ?l27 ?d27 ?k27 ?a28 ?l28 ?d28 ?k28 ?a29 ?l29 ?d29 ?k29 ?z1 ?z2 ?z3 ?z4 ?z5 ?z6 ?z7 ?z8 ?z9 ?z10 ?z11 ?z12 ?z13 ?z14 ?z15 ?z16
    (case a1 => k_is)
    (case l1 => k_is)
    (case d1 => k_is)
    (case k1 => k_is)
    (case a2 => k_is)
    (case l2 => k_is)
    (case d2 => k_is)
    (case k2 => k_is)
    (case a3 => k_is)
    (case l3 => k_is)
    (case d3 => k_is)
    (case k3 => k_is)
    (case a4 => k_is)
    (case l4 => k_is)
    (case d4 => k_is)
    (case k4 => k_is)
    (case a5 => k_is)
    (case l5 => k_is)
    (case d5 => k_is)
    (case k5 => k_is)
    (case a6 => k_is)
    (case l6 => k_is)
    (case d6 => k_is)
    (case k6 => k_is)
    (case a7 => k_is)
    (case l7 => k_is)
    (case d7 => k_is)
    (case k7 => k_is)
    (case a8 => k_is)
    (case l8 => k_is)
    (case d8 => k_is)
    (case k8 => k_is)
    (case a9 => k_is)
    (case l9 => k_is)
    (case d9 => k_is)
    (case k9 => k_is)
    (case a10 => k_is)
    (case l10 => k_is)
    (case d10 => k_is)
    (case k10 => k_is)
    (case a11 => k_is)
    (case l11 => k_is)
    (case d11 => k_is)
    (case k11 => k_is)
    (case a12 => k_is)
    (case l12 => k_is)
    (case d12 => k_is)
    (case k12 => k_is)
    (case a13 => k_is)
    (case l13 => k_is)
    (case d13 => k_is)
    (case k13 => k_is)
    (case a14 => k_is)
    (case l14 => k_is)
    (case d14 => k_is)
    (case k14 => k_is)
    (case a15 => k_is)
    (case l15 => k_is)
    (case d15 => k_is)
    (case k15 => k_is)
    (case a16 => k_is)
    (case l16 => k_is)
    (case d16 => k_is)
    (case k16 => k_is)
    (case a17 => k_is)
    (case l17 => k_is)
    (case d17 => k_is)
    (case k17 => k_is)
    (case a18 => k_is)
    (case l18 => k_is)
    (case d18 => k_is)
    (case k18 => k_is)
    (case a19 => k_is)
    (case l19 => k_is)
    (case d19 => k_is)
    (case k19 => k_is)
    (case a20 => k_is)
    (case l20 => k_is)
    (case d20 => k_is)
    (case k20 => k_is)
    (case a21 => k_is)
    (case l21 => k_is)
    (case d21 => k_is)
    (case k21 => k_is)
    (case a22 => k_is)
    (case l22 => k_is)
    (case d22 => k_is)
    (case k22 => k_is)
    (case a23 => k_is)
    (case l23 => k_is)
    (case d23 => k_is)
    (case k23 => k_is)
    (case a24 => k_is)
    (case l24 => k_is)
    (case d24 => k_is)
    (case k24 => k_is)
    (case a25 => k_is)
    (case l25 => k_is)
    (case d25 => k_is)
    (case k25 => k_is)
    (case a26 => k_is)
    (case l26 => k_is)
    (case d26 => k_is)
    (case k26 => k_is)
    (case a27 => k_is)
    (case l27 => k_is)
    (case d27 => k_is)
    (case k27 => k_is)
    (case a28 => k_is)
    (case l28 => k_is)
    (case d28 => k_is)
    (case k28 => k_is)
    (case a29 => k_is)
    (case l29 => k_is)
    (case d29 => k_is)
    (case k29 => k_is)
    (case z1 => k_is)
    (case z2 => k_is)
    (case z3 => k_is)
    (case z4 => k_is)
    (case z5 => k_is)
    (case z6 => k_is)
    (case z7 => k_is)
    (case z8 => k_is)
    (case z9 => k_is)
    (case z10 => k_is)
    (case z11 => k_is)
    (case z12 => k_is)
    (case z13 => k_is)
    (case z14 => k_is)
    (case z15 => k_is)
    (case z16 => k_is)
