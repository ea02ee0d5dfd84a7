import PyProof.Rows.All
import Wide.All
import OpenK.AllK
import Wide.FinOn
import KE.KDictList
import KE.KDictOf
import KE.KRevSl
import KE.KSortTup
import KE.LcSums
import Lean
import PyProof.AttrMissSeq
import PyProof.DictWalks
import PyProof.EnumStmt
import PyProof.EqAt
import PyProof.EqKinds
import PyProof.ExcInit
import PyProof.FString4
import PyProof.ListOps
import PyProof.ListRange
import PyProof.NeKinds
import PyProof.Rows.StrCase
import PyProof.Rows.StrLen
import PyProof.Rows.SumGenD
import PyProof.SeqRoads2
import PyProof.StrBlock2
import PyProof.StrLawsIn
import PyProof.StrLawsRepr
import PyProof.StrWalks
import PyProof.SumWalk
import PyProof.TupleCall
import PyProof.WalksMore
import PyProof.ZipIter
import PySem.Challenge.RW_wantway_k07_no_heads
set_option Elab.async false
set_option linter.all false
set_option maxRecDepth 100000
set_option maxHeartbeats 8000000
set_option tactic.hygienic false
abbrev Oh:=@List.length_map
abbrev Oi:=@List.getElem?_eq_getElem
abbrev Oj:=@PySem.Heap.get?_push_of_some
abbrev Ol:=@List.getElem?_eq_some_iff
abbrev Om:=@Nat.le_refl
abbrev On:=@List.getElem?_map
abbrev Oo:=@List.mem_of_getElem?
abbrev Oq:=@List.map_append
abbrev Os:=@List.length_append
abbrev Ot:=@List.mem_cons_of_mem
abbrev Ou:=@List.length_take
abbrev Ov:=@List.size_toArray
abbrev Ow:=@PySem.Heap.lt_size
abbrev Ox:=@List.mem_singleton
abbrev Oy:=@Option.some.inj
abbrev Oz:=@List.mem_append_right
abbrev O0:=@List.map_cons
abbrev O1:=@List.mem_map
abbrev O2:=@List.mem_append
abbrev O3:=@PySem.Heap.get?_push_size
abbrev O4:=@Bool.and_eq_true
abbrev O5:=@List.mem_cons_self
abbrev O6:=@Nat.le_trans
abbrev O7:=@Nat.zero_le
abbrev O8:=@List.mem_cons
abbrev O9:=@Nat.ne_of_lt
abbrev PB:=@List.length_cons
abbrev PD:=@List.take_of_length_le
abbrev PF:=@Nat.le_of_lt
abbrev PH:=@Bool.false_ne_true
abbrev PJ:=@Option.map_eq_some_iff
abbrev PK:=@List.mem_of_mem_take
namespace L2
open PySem PySem.Spec PyProof.Rows
theorem sl(n:Nat)(h:n<=sizeLine:=by decide):n<=sizeLine:=h
abbrev Key:=Sum Int Str
def J9:Key->Value->Bool
 | .inl k,v=>Value.isInt k v
 | .inr x,v=>Value.isStrOf x v
def OS(w:World):Key->Int
 | .inl k=>hashInt k
 | .inr x=>hashStr w x
theorem Z4:∀ {k:Key}{v:Value},J9 k v=true->(∃ i t,k=Sum.inl i/\v=Value.int i t) \/ (∃ x t,k=Sum.inr x/\v=Value.str x t)
 | .inl i,v,h=>by
  obtain ⟨t,e⟩:=Value.isInt_shape (k:=i) (v:=v) h;exact .inl ⟨i,t,rfl,e⟩
 | .inr x,v,h=>by
  obtain ⟨t,e⟩:=Value.isStrOf_shape (x:=x) (v:=v) h;exact .inr ⟨x,t,rfl,e⟩
theorem Nx(i:Int)(t:Tok):J9 (.inl i) (.int i t)=true:=by simp [J9,Value.isInt]
theorem Nw(x:Str)(t:Tok):J9 (.inr x) (.str x t)=true:=by simp [J9,Value.isStrOf]
theorem K0(a b:Int):decide ((Sum.inl a:Key)=Sum.inl b)=(a==b):=by
 by_cases e:a=b
 .subst e;simp
 .have h: ¬ (Sum.inl a:Key)=Sum.inl b:=fun q=>e (Sum.inl.inj q)
  rw [decide_eq_false h];exact (beq_eq_false_iff_ne.mpr e).symm
theorem Kx(a b:Str):decide ((Sum.inr a:Key)=Sum.inr b)=decide (a=b):=by
 by_cases e:a=b
 .subst e;simp
 .have h: ¬ (Sum.inr a:Key)=Sum.inr b:=fun q=>e (Sum.inr.inj q)
  rw [decide_eq_false h,decide_eq_false e]
theorem Kz(a:Int)(b:Str):decide ((Sum.inl a:Key)=Sum.inr b)=false:=decide_eq_false (fun q=>nomatch q)
theorem Ky(a:Str)(b:Int):decide ((Sum.inr a:Key)=Sum.inl b)=false:=decide_eq_false (fun q=>nomatch q)
def Z2(prog:Program)(w:World):PySem.KeyKind prog w Key where
 is:=J9
 hash:=OS w
 inj:=fun v a b ha hb=>by
  rcases Z4 ha with ⟨i,t,rfl,rfl⟩ | ⟨x,t,rfl,rfl⟩
  .rcases Z4 hb with ⟨j,u,rfl,e⟩ | ⟨y,u,rfl,e⟩
   .injection e with e1 _;rw [e1]
   .exact nomatch e
  .rcases Z4 hb with ⟨j,u,rfl,e⟩ | ⟨y,u,rfl,e⟩
   .exact nomatch e
   .injection e with e1 _;rw [e1]
 byValue:=fun k v h=>by
  rcases Z4 h with ⟨i,t,rfl,rfl⟩ | ⟨x,t,rfl,rfl⟩ <;> rfl
 pyHash:=fun hv h=>by
  rcases Z4 hv with ⟨i,t,rfl,rfl⟩ | ⟨x,t,rfl,rfl⟩
  .exact wpAny_pyHash_int h
  .exact wpAny_pyHash_str h
 eqBool:=fun hu hv h=>by
  rcases Z4 hu with ⟨i,t,rfl,rfl⟩ | ⟨x,t,rfl,rfl⟩
  .rcases Z4 hv with ⟨j,u,rfl,rfl⟩ | ⟨y,u,rfl,rfl⟩
   .rw [K0] at h;exact wpAny_eqBool_int h
   .rw [Kz] at h;exact SeqAt.EqAt.int_str i t y u _ _ _ _ h
  .rcases Z4 hv with ⟨j,u,rfl,rfl⟩ | ⟨y,u,rfl,rfl⟩
   .rw [Ky] at h;exact SeqAt.EqAt.str_int x t j u _ _ _ _ h
   .rw [Kx] at h;exact wpAny_eqBool_str h
 «strs»:=fun k x t v h=>by
  rcases Z4 h with ⟨i,u,rfl,e⟩ | ⟨y,u,rfl,e⟩
  .exact nomatch e
  .injection e with e1 _
   subst e1;cases v <;> rfl
theorem T7(prog:Program)(w:World)(i:Int)(t:Tok):(Z2 prog w).is (.inl i) (.int i t)=true:=Nx i t
theorem T6(prog:Program)(w:World)(x:Str)(t:Tok):(Z2 prog w).is (.inr x) (.str x t)=true:=Nw x t
end L2
namespace L2
open PySem PySem.Spec PyProof.Rows
inductive V where
 | non | bl (b:Bool) | int (i:Int) | str (x:Str) | byt (b:Array UInt8) | flt (b:UInt64) | ref (a:Addr) | ty (n:String)
 deriving DecidableEq
def RelV:V->Value->Prop
 | .non,u=>u=Value.none
 | .bl b,u=>u=Value.bool b
 | .int i,u=> ∃ t,u=Value.int i t
 | .str x,u=> ∃ t,u=Value.str x t
 | .byt b,u=> ∃ t,u=Value.bytes b t
 | .flt b,u=> ∃ t,u=Value.float b t
 | .ref a,u=>u=Value.ref a
 | .ty n,u=>u=Value.type n
abbrev Vals:List V->List Value->Prop:=Paired RelV
theorem Vals.length(r:Vals xs us):xs.length=us.length:=Paired.length r
theorem Vals.get:∀ {xs:List V}{us:List Value}{i:Nat}{x:V},Vals xs us->xs[i]?=some x->∃ u,us[i]?=some u/\RelV x u
 | _,_,_,_, .nil,e=>by simp at e
 | _,_,0,_, .cons r _,e=>by simp at e;subst e;exact ⟨_,rfl,r⟩
 | _,_,i + 1,x, .cons _ t,e=>by
  obtain ⟨u,h1,h2⟩:=Vals.get (i:=i) (x:=x) t (by simpa using e);exact ⟨u,by simpa using h1,h2⟩
theorem Vals.set(r:RelV x u):∀ {xs:List V}{us:List Value}(i:Nat),Vals xs us->Vals (xs.set i x) (us.set i u)
 | _,_,_, .nil=> .nil
 | _,_,0, .cons _ t=> .cons r t
 | _,_,i + 1, .cons q t=> .cons q (Vals.set r i t)
theorem Vals.append:∀ {xs ys:List V}{us ws:List Value},Vals xs us->Vals ys ws->Vals (xs++ ys) (us++ ws)
 | _,_,_,_, .nil,s=>s
 | _,_,_,_, .cons r t,s=> .cons r (Vals.append t s)
theorem Vals.take:∀ {xs:List V}{us:List Value}(n:Nat),Vals xs us->Vals (xs.take n) (us.take n)
 | _,_,0,_=> .nil
 | _,_,_ + 1, .nil=> .nil
 | _,_,n + 1, .cons r t=> .cons r (Vals.take n t)
theorem Vals.drop:∀ {xs:List V}{us:List Value}(n:Nat),Vals xs us->Vals (xs.drop n) (us.drop n)
 | _,_,0,r=>r
 | _,_,_ + 1, .nil=> .nil
 | _,_,n + 1, .cons _ t=>Vals.drop n t
def JD:Option V->Option Value->Prop
 | some v,some u=>RelV v u
 | none,none=>True
 | _,_=>False
def KV{κ:Type}:List (κ × V)->List (κ × Value)->Prop:=Paired fun (p:κ × V) (q:κ × Value)=>p.1=q.1/\RelV p.2 q.2
def kV:Key->V
 | .inl i=> .int i
 | .inr x=> .str x
inductive HO where
 /-- a list -/
 | lst (xs:List V)
 /-- a tuple (never changes) -/
 | tup (xs:List V)
 /-- a dict whose keys are ints and texts;one whose keys are tuples of ints and texts (the empty one is both) -/
 | dK (kvs:List (Key × V)) | dT (kvs:List (List Key × V))
 /-- a set of ints:its members,its size -/
 | set (S:Int->Bool) (n:Nat)
 /-- an instance of the class at C,its dict at dx,its attributes -/
 | ins (C dx:Addr) (fs:List (Str × V))
 /-- the dict of the instance at x -/
 | own (x:Addr)
 /-- the dict of an exception -/
 | xd (fs:List (Str × V))
 /-- a bound method,f of x -/
 | met (f x:Addr)
 /-- a range object lo,lo + 1, .. below hi -/
 | rng (lo hi:Int)
 /-- a thing that is known to the object (the script;a dict while a loop walks it):read,never written while it is so -/
 | frz (o:Obj) (u:HO)
 /-- a code object's table -/
 | tbl (ps:Array Value)
 /-- any other thing,by what is true of its one object (a def of one's own:SetO a S n:=HO.ext fun h=> ..) -/
 | ext (φ:Heap->Prop)
abbrev Hp:=Addr->Option HO
def upd(H:Hp)(a:Addr)(o:HO):Hp:=fun b=>if b=a then some o else H b
theorem ZC:upd H a o a=some o:=by unfold upd;rw [if_pos rfl]
theorem ZE(h:b≠a):upd H a o b=H b:=by unfold upd;rw [if_neg h]
theorem Ej:upd (upd H a o) a u=upd H a u:=by
 funext b;unfold upd;split <;> rfl
theorem YY{H:Hp}(h:H a=some o)(h':H b=some u)(d:o≠u):a≠b:=by
 intro e;subst e;rw [h] at h';exact d (Oy h')
theorem ZG{H:Hp}(h:H a=some o)(h':H b=none):a≠b:=by
 intro e;subst e;rw [h] at h';cases h'
def XU(h:Heap)(a:Addr)(items:Array Value):Prop:= ∃ o,h.get? a=some o/\o.dict=none/\o.cls= .type "tuple" /\∃ n,o.data= .seq items n
theorem XU.is(x:XU h a items):IsTup h a items:=let ⟨o,h1,_,h2,h3⟩:=x;⟨o,h1,h2,h3⟩
theorem XU.keeps(x:XU h a items)(hk:∀ b o,h.get? b=some o->h'.get? b=some o):XU h' a items:=let ⟨o,ho,r⟩:=x;⟨o,hk a o ho,r⟩
theorem XU.new(h:Heap)(items:Array Value):XU (h.push {cls:= .type "tuple",data:= .seq items}) h.objs.size items:=⟨_,O3 _ rfl,rfl,rfl,_,rfl⟩
section
variable(P:Program)(w:World)
def Zr(H:Hp)(h:Heap)(a:Addr):HO->Prop
 | .lst xs=>xs.length<=sizeLine/\∃ (its:List Value) (n:Nat),Vals xs its/\h.get? a=some {cls:= .type "list",data:= .seq its.toArray n}
 | .tup xs=>xs.length<=sizeLine/\∃ its:List Value,Vals xs its/\XU h a its.toArray
 | .dK kvs=>kvs.length<=sizeLine/\(a==sysModules)=false/\∃ vs,KV kvs vs/\h.DictOf (Z2 P w) a vs
 | .dT kvs=>kvs.length<=sizeLine/\(a==sysModules)=false/\∃ xs:List (List Key × Addr × Value),
   Paired (fun (p:List Key × V) (q:List Key × Addr × Value)=>p.1=q.1/\H q.2.1=some (.tup (p.1.map kV))/\RelV p.2 q.2.2) kvs xs/\
   ∃ o es ep,h.get? a=some o/\o.ExactDict/\o.data= .dict es ep/\es.toList=xs.map (entryOfKey (tupleKind (Z2 P w)))/\(xs.map (·.1)).Nodup
 | .set S n=>h.SetOf (intKind P w) a S n
 | .ins C dx fs=>H dx=some (.own a)/\fs.length<=1000/\dx≠a/\h.get? a=some (W.instObj C dx)/\
   ∃ mA,h.Ns1 dx mA/\(∀ f,JD (fs.lookup f) (mA f))/\PySem.Within mA (fs.map (·.1))
 | .own _=> ∃ o,h.get? a=some o
 | .xd fs=> ∃ mA,h.Ns1 a mA/\∀ f,JD (fs.lookup f) (mA f)
 | .rng lo hi=> ∃ t u v,h.get? a=some {cls:= .type "range",data:= .fields #[.int lo t, .int hi u, .int 1 v]}
 | .frz o u=>h.get? a=some o/\Zr H h a u
 | .tbl ps=>h.get? a=some {cls:= .none,data:= .fields ps}
 | .met f x=>h.get? a=some (W.methodObj (.ref f) (.ref x))
 | .ext φ=>φ h/\(∃ o,h.get? a=some o)/\∀ h1 h2:Heap,φ h1->(∀ o,h1.get? a=some o->h2.get? a=some o)->φ h2
def HOk(H:Hp)(h:Heap):Prop:= ∀ a o,H a=some o->Zr P w H h a o
end
section
theorem Zr.lt(x:Zr P w H h a o):a < h.objs.size:=by
 cases o with
 | lst xs=>obtain ⟨_,_,_,_,e⟩:=x;exact Ow e
 | tup xs=>obtain ⟨_,_,_,p⟩:=x;exact p.is.lt
 | dK kvs=>obtain ⟨_,_,_,_,o,_,_,e,_⟩:=x;exact Ow e
 | dT kvs=>obtain ⟨_,_,_,_,o,_,_,e,_⟩:=x;exact Ow e
 | set S n=>obtain ⟨o,_,_,_,e,_⟩:=x;exact Ow e
 | ins C dx fs=>obtain ⟨_,_,_,e,_⟩:=x;exact Ow e
 | own y=>obtain ⟨_,e⟩:=x;exact Ow e
 | xd fs=>obtain ⟨_,⟨_,_,_,e,_⟩,_⟩:=x;exact Ow e
 | rng lo hi=>obtain ⟨_,_,_,e⟩:=x;exact Ow e
 | frz ob u=>obtain ⟨e,_⟩:=x;exact Ow e
 | tbl ps=>exact Ow (show h.get? a=some _ from x)
 | met f y=>exact Ow (show h.get? a=some _ from x)
 | ext φ=>obtain ⟨_,⟨_,e⟩,_⟩:=x;exact Ow e
theorem Paired.mapP:∀ {l₁:List α}{l₂:List β},Paired F l₁ l₂->(∀ a b,F a b->G a b)->Paired G l₁ l₂
 | _,_, .nil,_=> .nil
 | _,_, .cons r t,f=> .cons (f _ _ r) (Paired.mapP t f)
theorem Zr.stay(x:Zr P w H h a o)(k:∀ b u,(b=a \/ H b=some (.own a))->h.get? b=some u->h'.get? b=some u)(ho:∀ b,H b=some (.own a)->H' b=some (.own a))(ht:∀ b xs,H b=some (.tup xs)->H' b=some (.tup xs)):Zr P w H' h' a o:=by
 induction o with
 | lst xs=>obtain ⟨z,its,n,r,e⟩:=x;exact ⟨z,its,n,r,k _ _ (.inl rfl) e⟩
 | tup xs=>obtain ⟨z,its,r,ob,e,c⟩:=x;exact ⟨z,its,r,ob,k _ _ (.inl rfl) e,c⟩
 | dK kvs=>obtain ⟨z,y,vs,r,ob,es,ep,e,c⟩:=x;exact ⟨z,y,vs,r,ob,es,ep,k _ _ (.inl rfl) e,c⟩
 | dT kvs=>
  obtain ⟨z,y,xs,r,ob,es,ep,e,c⟩:=x;exact ⟨z,y,xs,Paired.mapP r fun p q z=>⟨z.1,ht _ _ z.2.1,z.2.2⟩,ob,es,ep,k _ _ (.inl rfl) e,c⟩
 | set S n=>obtain ⟨ob,es,ep,t,e,c⟩:=x;exact ⟨ob,es,ep,t,k _ _ (.inl rfl) e,c⟩
 | ins C dx fs=>
  obtain ⟨d,z,ne,e,mA,⟨od,es,ep,e2,c⟩,r⟩:=x;exact ⟨ho _ d,z,ne,k _ _ (.inl rfl) e,mA,⟨od,es,ep,k _ _ (.inr d) e2,c⟩,r⟩
 | own y=>obtain ⟨ob,e⟩:=x;exact ⟨ob,k _ _ (.inl rfl) e⟩
 | xd fs=>obtain ⟨mA,⟨od,es,ep,e,c⟩,r⟩:=x;exact ⟨mA,⟨od,es,ep,k _ _ (.inl rfl) e,c⟩,r⟩
 | rng lo hi=>obtain ⟨t,u,v,e⟩:=x;exact ⟨t,u,v,k _ _ (.inl rfl) e⟩
 | frz ob u ih=>obtain ⟨e,q⟩:=x;exact ⟨k _ _ (.inl rfl) e,ih q⟩
 | tbl ps=>
  have e:h.get? a=some {cls:= .none,data:= .fields ps}:=x;show h'.get? a=some {cls:= .none,data:= .fields ps};exact k a _ (.inl rfl) e
 | met f y=>
  have e:h.get? a=some (W.methodObj (.ref f) (.ref y)):=x;show h'.get? a=some (W.methodObj (.ref f) (.ref y));exact k a _ (.inl rfl) e
 | ext φ=>obtain ⟨p,⟨o,e⟩,st⟩:=x;exact ⟨st _ _ p fun o q=>k _ _ (.inl rfl) q,⟨o,k _ _ (.inl rfl) e⟩,st⟩
theorem HOk.lt(x:HOk P w H h)(e:H a=some o):a < h.objs.size:=(x a o e).lt
theorem HOk.fresh(x:HOk P w H h)(e:h.objs.size<=a):H a=none:=by
 cases q:H a with
 | none=>rfl
 | some u=>exact absurd (Nat.lt_of_lt_of_le (x.lt q) e) (Nat.lt_irrefl _)
theorem HOk.kept(x:HOk P w H h)(k:∀ b u,h.get? b=some u->h'.get? b=some u):HOk P w H h':=fun a o e=>
 (x a o e).stay (fun b u _ q=>k b u q) (fun _ q=>q) fun _ _ q=>q
theorem HOk.laid(x:HOk P w H h)(k:∀ b u,h.get? b=some u->h'.get? b=some u)(hp:h.objs.size<=a)(new:Zr P w (upd H a o) h' a o):HOk P w (upd H a o) h':=fun b u e=>by
 have hn:=x.fresh hp
 by_cases hb:b=a
 .subst hb;rw [ZC] at e;cases e;exact new
 .rw [ZE hb] at e
  exact (x b u e).stay (fun c v _ q=>k c v q) (fun c q=>by rw [ZE (ZG q hn)];exact q) fun c xs q=>by rw [ZE (ZG q hn)];exact q
end
def Rd(H:Hp)(a:Addr)(u:HO):Prop:=H a=some u \/ ∃ o,H a=some (.frz o u)
theorem Rd.ok(r:Rd H a u)(x:HOk P w H h):Zr P w H h a u:=by
 rcases r with r | ⟨o,r⟩
 .exact x a u r
 .obtain ⟨_,q⟩:=x a _ r
  exact q
def Mut:Option HO->Prop
 | some (.lst _)=>True
 | some (.dK _)=>True
 | some (.dT _)=>True
 | some (.set _ _)=>True
 | some (.ins _ _ _)=>True
 | some (.ext _)=>True
 | _=>False
section
theorem HOk.write(ok:HOk P w H h)(mu:Mut (H x))(he:e=x \/ H e=some (.own x))(k:∀ b u,b≠e->h.get? b=some u->h'.get? b=some u)(heo:∃ u,h'.get? e=some u)(new:Zr P w (upd H x o') h' x o'):HOk P w (upd H x o') h':=fun b u q=>by
 have nown:∀ c y,H c=some (.own y)->c≠x:=fun c y r z=>by subst z;rw [r] at mu;exact mu
 have ntup:∀ c xs,H c=some (.tup xs)->c≠x:=fun c xs r z=>by subst z;rw [r] at mu;exact mu
 by_cases hb:b=x
 .subst hb;rw [ZC] at q;cases q;exact new
 .rw [ZE hb] at q
  by_cases hbe:b=e
  .have q':H b=some (.own x):=by
    rcases he with z | z
    .exact absurd (hbe.trans z) hb
    .rw [hbe];exact z
   rw [q] at q';cases q';obtain ⟨v,hv⟩:=heo;exact ⟨v,by rw [hbe];exact hv⟩
  .refine (ok b u q).stay (fun c v hc r=>k c v ?_ r) (fun c r=>by rw [ZE (nown c b r)];exact r) fun c xs r=>by rw [ZE (ntup c xs r)];exact r
   rcases hc with rfl | hc
   .exact hbe
   .rintro rfl
    rcases he with z | z
    .exact nown c b hc z
    .rw [hc] at z;cases z;exact hb rfl
end
structure Un(fs ex:List Addr)(H H':Hp)(h h':Heap):Prop where
 keep:∀ b o,h.get? b=some o->H b=none->b ∉ fs->b ∉ ex->h'.get? b=some o
 slot:∀ b o,h.get? b=some o->H b=none->b∈fs->b ∉ ex->∃ sl,h'.get? b=some {o with slots:=sl}
 free:∀ b o,h.get? b=some o->H b=none->b ∉ ex->H' b=none
 there:∀ b o,h.get? b=some o->b ∉ ex->∃ o',h'.get? b=some o'
 tups:∀ b xs,H b=some (.tup xs)->H' b=some (.tup xs)
 frzs:∀ b o u,H b=some (.frz o u)->H' b=some (.frz o u)
 tbls:∀ b ps,H b=some (.tbl ps)->∃ more,H' b=some (.tbl (ps++ more))
section
variable{fs fs' ex ex':List Addr}{H H1 H2:Hp}{h h1 h2 h':Heap}{a x e:Addr}{o:HO}
theorem Un.any(u:Un fs ex H H1 h h1)(q:h.get? b=some ob)(n:H b=none)(hx:b ∉ ex):∃ sl,h1.get? b=some {ob with slots:=sl}:=by
 by_cases hb:b∈fs
 .exact u.slot b ob q n hb hx
 .exact ⟨ob.slots,u.keep b ob q n hb hx⟩
theorem Un.kept(k:∀ b u,h.get? b=some u->h'.get? b=some u):Un fs ex H H h h':=
 ⟨fun b ob q _ _ _=>k b ob q,fun b ob q _ _ _=>⟨ob.slots,k b ob q⟩,fun _ _ _ n _=>n,fun b ob q _=>⟨ob,k b ob q⟩,fun _ _ q=>q,fun _ _ _ q=>q,fun _ ps q=>⟨#[],by rw [q];simp⟩⟩
theorem Un.refl:Un fs ex H H h h:=Un.kept fun _ _ q=>q
theorem Un.laid(k:∀ b u,h.get? b=some u->h'.get? b=some u)(hp:h.objs.size<=a)(hn:H a=none):Un fs ex H (upd H a o) h h' where
 keep:=fun b u q _ _ _=>k b u q
 slot:=fun b u q _ _ _=>⟨u.slots,k b u q⟩
 free:=fun b u q n _=>by rw [ZE (O9 (Nat.lt_of_lt_of_le (Ow q) hp))];exact n
 there:=fun b u q _=>⟨u,k b u q⟩
 tups:=fun b xs q=>by rw [ZE (ZG q hn)];exact q
 frzs:=fun b u xs q=>by rw [ZE (ZG q hn)];exact q
 tbls:=fun b ps q=>⟨#[],by rw [ZE (ZG q hn),q];simp⟩
theorem Un.write(mu:Mut (H x))(he:e=x \/ H e=some (.own x))(k:∀ b u,b≠e->h.get? b=some u->h'.get? b=some u)(heo:∃ u,h'.get? e=some u):Un fs ex H (upd H x o) h h':=by
 have hx:∀ b,H b=none->b≠x:=fun b n z=>by subst z;rw [n] at mu;exact mu
 have hb:∀ b,H b=none->b≠e:=fun b n z=>by
  subst z;rcases he with r | r
  .exact hx b n r
  .rw [n] at r;cases r
 have hm:∀ b u,H b=some u-> ¬ Mut (some u)->b≠x:=fun b u q nm z=>by subst z;rw [q] at mu;exact nm mu
 refine ⟨fun b u q n _ _=>k b u (hb b n) q,fun b u q n _ _=>⟨u.slots,k b u (hb b n) q⟩,fun b u q n _=>by rw [ZE (hx b n)];exact n,fun b u q _=>?_,
  fun b xs q=>by rw [ZE (hm b _ q fun z=>z)];exact q,fun b u xs q=>by rw [ZE (hm b _ q fun z=>z)];exact q,fun b ps q=>⟨#[],by rw [ZE (hm b _ q fun z=>z),q];simp⟩⟩
 by_cases hbe:b=e
 .subst hbe;exact heo
 .exact ⟨u,k b u hbe q⟩
end
def trk(h:Heap)(H:Hp):List Addr:=(List.range h.objs.size).filter fun a=>(H a).isSome
def G5(h:Heap)(H:Hp):Heap:=W.hideAll h (trk h H)
theorem N0(h:Heap)(H:Hp):(G5 h H).objs.size=h.objs.size:=W.hideAll_size _ _
theorem D1(e:h.get? b=some o)(n:H b=none):(G5 h H).get? b=some o:=
 W.hideAll_get _ e fun hm=>by
  have q:(H b).isSome=true:=(List.mem_filter.mp hm).2;rw [n] at q;simp at q
theorem Fe(e:(G5 h H).get? b=some o):h.get? b=some o/\H b=none:=by
 have e':h.get? b=some o:=W.of_hideAll (trk h H) e;refine ⟨e',?_⟩
 cases q:H b with
 | none=>rfl
 | some x=>
  have hm:b∈trk h H:=List.mem_filter.mpr ⟨List.mem_range.mpr (Ow e'),by simp [q]⟩;have z:(G5 h H).get? b=none:=W.hideAll_none (trk h H) hm;rw [z] at e;cases e
end L2
namespace L2
open PySem PySem.Spec PyProof.Rows
structure Mod(K:W.Frag)(mg:Str->Option Value)(base:Heap):Prop where
 kin:K.In base
 glob:base.Ns mainGlobals mg
 blt:∃ mb,base.Ns builtinsNs mb/\∀ x:Str,x≠"__name__" ->mb x=bootBuiltins x
 nolimit:base.NoLimit
structure Cx where
 prog:Program
 w:World
 K:W.Frag
 mg:Str->Option Value
 base:Heap
 A:Around
 N:List Str
 s₀:Shared
 H₀:Hp
 env:Env
 outer:List Env
 stack:List Env
 ex:List Addr
 fn:Str->Bool
 calm:Bool
 pn:List (Addr × Obj)
 xe:Value->Shared->Prop
def frs(l:List Env):List Addr:=l.filterMap (·.frame)
abbrev Cx.fs(X:Cx):List Addr:=frs X.outer
def Vis(sc:Scope)(x:Str):Prop:=sc.names.lookup x=some .local \/ sc.names.lookup x=some .cell \/ sc.names.lookup x=some .free
def Loc(sc:Scope)(x:Str):Prop:=sc.names.lookup x=some .local \/ sc.names.lookup x=some .cell
def Look(env:Env)(h:Heap)(m:Str->Option Value)(x:Str)(u:Value):Prop:=
 (env.kindOf x=some .local/\m x=some u) \/ ((env.kindOf x=some .cell \/ env.kindOf x=some .free)/\∃ c,env.cells.lookup x=some c/\h.IsCell c (some u))
structure Cx.Ok(X:Cx):Prop where
 mod:Mod X.K X.mg X.base
 kind:X.env.scope.kind= .function
 glob:X.env.globals=mainGlobals
 blt:X.env.builtins=builtinsNs
 above:X.s₀.heap.objs.size<=X.env.locals
 inj:∀ x y c,X.env.cells.lookup x=some c->X.env.cells.lookup y=some c->x=y
 has:∀ x,(X.env.kindOf x=some .cell \/ X.env.kindOf x=some .free)->∃ c,X.env.cells.lookup x=some c
 cab:∀ x c,X.fn x=true->X.env.cells.lookup x=some c->X.s₀.heap.objs.size<=c
 hd:X.calm=true->X.A.handled=none
 frames:X.A.frames=some X.stack
 stk:X.stack=X.outer \/ (X.stack=X.env::X.outer/\X.env.frame=some X.env.locals)
 exf:∀ b∈X.ex,b≠X.env.locals/\∀ x c,X.env.cells.lookup x=some c->c≠b
 bs:∀ b o,X.base.get? b=some o->X.s₀.heap.get? b=some o/\X.H₀ b=none
 bsz:X.base.objs.size<=X.s₀.heap.objs.size
 noex:∀ b o,X.base.get? b=some o->b ∉ X.ex
 exfs:∀ b∈X.ex,b ∉ X.fs
 funs:X.s₀.heap.FunFrames X.base X.outer
 frf:∀ b∈X.fs,X.H₀ b=none
structure Inv(X:Cx)(pins:List (Addr × Obj))(U:List (Option V))(H:Hp)(s:Shared):Prop where
 ok:X.Ok
 os:s.os=X.s₀.os
 bare:AllBare s.gens
 base:Un X.fs X.ex X.H₀ H X.s₀.heap s.heap
 loc:∃ m,s.heap.Ns X.env.locals m/\∀ (i:Nat) (x:Str) (v:V),X.N[i]?=some x->U[i]?=some (some v)->Vis X.env.scope x->∃ u,RelV v u/\Look X.env s.heap m x u
 cell:∀ x c,X.env.cells.lookup x=some c->∃ v,s.heap.IsCell c v
 free:H X.env.locals=none
 freeC:∀ x c,X.env.cells.lookup x=some c->H c=none
 pin:∀ p∈X.pn++ pins,s.heap.get? p.1=some p.2/\H p.1=none/\p.1≠X.env.locals/\p.1 ∉ X.fs/\∀ v,p.2.data≠ .cell v
 hok:HOk X.prog X.w H s.heap
 len:U.length=X.N.length
section
variable{X:Cx}
theorem Cx.Ok.nofr(ok:X.Ok)(e:X.base.get? b=some o):b ∉ X.fs:=fun hb=>by
 have:=(ok.funs.mem hb).1;rw [e] at this;cases this
theorem Inv.bs(I:Inv X pins U H s):∀ b o,X.base.get? b=some o->s.heap.get? b=some o/\H b=none:=fun b o e=>
 ⟨I.base.keep b o (I.ok.bs b o e).1 (I.ok.bs b o e).2 (I.ok.nofr e) (I.ok.noex b o e),I.base.free b o (I.ok.bs b o e).1 (I.ok.bs b o e).2 (I.ok.noex b o e)⟩
theorem Inv.bk(I:Inv X pins U H s):∀ b o,X.base.get? b=some o->s.heap.get? b=some o:=fun b o e=>(I.bs b o e).1
theorem Inv.mod(I:Inv X pins U H s):Mod X.K X.mg X.base:=I.ok.mod
theorem Inv.kIn(I:Inv X pins U H s):X.K.In s.heap:=I.ok.mod.kin.keeps I.bk
theorem Inv.lt(I:Inv X pins U H s):X.env.locals < s.heap.objs.size:=let ⟨_,hn,_⟩:=I.loc;hn.lt
theorem Inv.sz(I:Inv X pins U H s):X.s₀.heap.objs.size<=s.heap.objs.size:=O6 I.ok.above (PF I.lt)
theorem Inv.nofs(I:Inv X pins U H s)(h:s.heap.objs.size<=a):a ∉ X.fs:=fun hb=>by
 obtain ⟨_,o,ho,_⟩:=I.ok.funs.mem hb;exact absurd (Nat.lt_of_lt_of_le (Ow ho) (O6 I.sz h)) (Nat.lt_irrefl _)
theorem Inv.cne(I:Inv X pins U H s):∀ x c,X.env.cells.lookup x=some c->c≠X.env.locals:=fun x c e z=>by
 obtain ⟨v,o,ho,hd⟩:=I.cell x c e;obtain ⟨m,⟨o',es,ep,ho',hd',_⟩,_⟩:=I.loc;rw [z,ho'] at ho;cases ho;rw [hd'] at hd;cases hd
theorem Inv.funs(I:Inv X pins U H s):s.heap.FunFrames X.base X.outer:=by
 have all:∀ (l:List Env),(∀ b∈frs l,b∈X.fs)->X.s₀.heap.FunFrames X.base l->s.heap.FunFrames X.base l:=by
  intro l
  induction l with
  | nil=>intro _ _;trivial
  | cons env r ih=>
   intro hs hl;obtain ⟨hk,⟨L,o,hf,hn,ho,hd⟩,hr⟩:=hl;have hL:L∈X.fs:=hs L (by unfold frs;rw [List.filterMap_cons,hf];exact O5);obtain ⟨sl,e⟩:=I.base.slot L o ho (I.ok.frf L hL) hL fun z=>I.ok.exfs L z hL;exact ⟨hk,⟨L,_,hf,hn,e,hd⟩,ih (fun b hb=>hs b (by unfold frs;rw [List.filterMap_cons,hf];exact Ot _ hb)) hr⟩
 exact all X.outer (fun _ hb=>hb) I.ok.funs
theorem Inv.stack(I:Inv X pins U H s):s.heap.FunFrames X.base X.stack:=by
 rcases I.ok.stk with e | ⟨e,hf⟩
 .rw [e];exact I.funs
 .rw [e]
  obtain ⟨m,hn,_⟩:=I.loc;refine .cons (by rw [I.ok.kind];decide) hf hn ?_ I.funs;exact Heap.get?_none_of_le (O6 I.ok.bsz I.ok.above)
theorem Inv.stkSub(I:Inv X pins U H s):∀ b∈frs X.stack,b∈X.env.locals::X.fs:=fun b hb=>by
 rcases I.ok.stk with e | ⟨e,hf⟩
 .rw [e] at hb;exact Ot _ hb
 .rw [e] at hb
  unfold frs at hb;rw [List.filterMap_cons,hf] at hb;exact hb
theorem Inv.stkFree(I:Inv X pins U H s):∀ b∈frs X.stack,H b=none:=fun b hb=>by
 rcases O8.mp (I.stkSub b hb) with e | hb
 .rw [e];exact I.free
 .obtain ⟨_,o,ho,_⟩:=I.ok.funs.mem hb
  exact I.base.free b o ho (I.ok.frf b hb) fun z=>I.ok.exfs b z hb
theorem Inv.step{ch:List Addr}(I:Inv X pins U H s)(hch:∀ b∈ch,(b∈X.ex \/ X.s₀.heap.objs.size<=b)/\b≠X.env.locals/\(∀ x c,X.env.cells.lookup x=some c->c≠b)/\∀ p∈X.pn++ pins,p.1≠b)(keep:∀ b o,b≠X.env.locals->b ∉ X.fs->b ∉ ch->s.heap.get? b=some o->H b=none->h'.get? b=some o)(slot:∀ b o,b≠X.env.locals->b∈X.fs->b ∉ ch->s.heap.get? b=some o->H b=none->∃ sl,h'.get? b=some {o with slots:=sl})(free:∀ b o,b ∉ ch->s.heap.get? b=some o->H b=none->H' b=none)(there:∀ b o,b ∉ ch->s.heap.get? b=some o->∃ o',h'.get? b=some o')(tups:∀ b xs,H b=some (.tup xs)->H' b=some (.tup xs))(frzs:∀ b o u,H b=some (.frz o u)->H' b=some (.frz o u))(tbls:∀ b ps,H b=some (.tbl ps)->∃ more,H' b=some (.tbl (ps++ more)))(ns:∀ m,s.heap.Ns X.env.locals m->h'.Ns X.env.locals m)(hok:HOk X.prog X.w H' h')(hg:AllBare g'):
  Inv X pins U H' {s with heap:=h',gens:=g',drawn:=d',toks:=t'}:=by
 have neL:∀ b o,X.s₀.heap.get? b=some o->b≠X.env.locals:=fun b o e=>O9 (Nat.lt_of_lt_of_le (Ow e) I.ok.above)
 have neC:∀ b o,X.s₀.heap.get? b=some o->b ∉ X.ex->b ∉ ch:=fun b o e hx hb=>by
  rcases (hch b hb).1 with z | z
  .exact hx z
  .exact absurd (Nat.lt_of_lt_of_le (Ow e) z) (Nat.lt_irrefl _)
 have cellK:∀ x c,X.env.cells.lookup x=some c->∀ v,s.heap.IsCell c v->h'.IsCell c v:=fun x c e v ⟨o,ho,hd⟩=>by
  have nch:c ∉ ch:=fun z=>(hch c z).2.2.1 x c e rfl
  by_cases hc:c∈X.fs
  .obtain ⟨sl,q⟩:=slot c o (I.cne x c e) hc nch ho (I.freeC x c e)
   exact ⟨_,q,hd⟩
  .exact ⟨o,keep c o (I.cne x c e) hc nch ho (I.freeC x c e),hd⟩
 refine ⟨I.ok,I.os,hg,⟨fun b o e n hb hx=>?_,fun b o e n hb hx=>?_,fun b o e n hx=>?_,fun b o e hx=>?_,fun b xs e=>tups b xs (I.base.tups b xs e),fun b o xs e=>frzs b o xs (I.base.frzs b o xs e),fun b ps e=>?_⟩,?_,fun x c e=>?_,?_,fun x c e=>?_,fun p hp=>?_,hok,I.len⟩
 .exact keep b o (neL b o e) hb (neC b o e hx) (I.base.keep b o e n hb hx) (I.base.free b o e n hx)
 .obtain ⟨sl,e1⟩:=I.base.slot b o e n hb hx
  obtain ⟨sl',e2⟩:=slot b _ (neL b o e) hb (neC b o e hx) e1 (I.base.free b o e n hx);exact ⟨sl',e2⟩
 .obtain ⟨o',e1⟩:=I.base.there b o e hx
  exact free b o' (neC b o e hx) e1 (I.base.free b o e n hx)
 .obtain ⟨o',e1⟩:=I.base.there b o e hx
  exact there b o' (neC b o e hx) e1
 .obtain ⟨m1,e1⟩:=I.base.tbls b ps e
  obtain ⟨m2,e2⟩:=tbls b _ e1;exact ⟨m1++ m2,by rw [e2,Array.append_assoc]⟩
 .obtain ⟨m,hn,hl⟩:=I.loc
  refine ⟨m,ns m hn,fun i x v e1 e2 e3=>?_⟩;obtain ⟨u,r,l⟩:=hl i x v e1 e2 e3;refine ⟨u,r,?_⟩;rcases l with l | ⟨k,c,e,z⟩
  .exact .inl l
  .exact .inr ⟨k,c,e,cellK x c e _ z⟩
 .obtain ⟨v,z⟩:=I.cell x c e
  exact ⟨v,cellK x c e v z⟩
 .obtain ⟨m,⟨o,_,_,ho,_⟩,_⟩:=I.loc
  exact free _ o (fun z=>(hch _ z).2.1 rfl) ho I.free
 .obtain ⟨v,o,ho,hd⟩:=I.cell x c e
  exact free c o (fun z=>(hch c z).2.2.1 x c e rfl) ho (I.freeC x c e)
 .obtain ⟨e,n,ne,nf,d⟩:=I.pin p hp
  have nch:p.1 ∉ ch:=fun z=>(hch p.1 z).2.2.2 p hp rfl;exact ⟨keep p.1 p.2 ne nf nch e n,free p.1 p.2 nch e n,ne,nf,d⟩
theorem Inv.un(I:Inv X pins U H s)(u:Un X.fs [] H H' s.heap h')(hok:HOk X.prog X.w H' h'):Inv X pins U H' {s with heap:=h',toks:=t'}:=by
 obtain ⟨m,⟨o,es,ep,ho,r⟩,_⟩:=id I.loc;obtain ⟨sl,hL⟩:=u.any ho I.free (by simp)
 exact I.step (g':=s.gens) (d':=s.drawn) (ch:= []) (fun _ z=>nomatch z) (fun b o _ hb _ e n=>u.keep b o e n hb (by simp)) (fun b o _ hb _ e n=>u.slot b o e n hb (by simp)) (fun b o _ e n=>u.free b o e n (by simp)) (fun b o _ e=>u.there b o e (by simp)) u.tups u.frzs u.tbls (fun m' hm=>by
  obtain ⟨o',es',ep',ho',r'⟩:=hm;rw [ho] at ho';cases ho';exact ⟨_,es',ep',hL,r'⟩) hok I.bare
theorem Inv.call(I:Inv X pins U H s)(u:Un (frs X.stack) ch H H' s.heap h')(hok:HOk X.prog X.w H' h')(hg:AllBare g')(hch:∀ b∈ch,(b∈X.ex \/ X.s₀.heap.objs.size<=b)/\b≠X.env.locals/\(∀ x c,X.env.cells.lookup x=some c->c≠b)/\∀ p∈X.pn++ pins,p.1≠b):
  Inv X pins U H' {s with heap:=h',gens:=g',drawn:=d',toks:=t'}:=by
 obtain ⟨m,⟨o,es,ep,ho,r⟩,_⟩:=id I.loc;obtain ⟨sl,hL⟩:=u.any ho I.free fun z=>(hch _ z).2.1 rfl
 exact I.step (ch:=ch) hch (fun b o hL hb hc e n=>u.keep b o e n (fun z=>(O8.mp (I.stkSub b z)).elim hL hb) hc) (fun b o _ _ hc e n=>u.any e n hc) (fun b o hc e n=>u.free b o e n hc) (fun b o hc e=>u.there b o e hc) u.tups u.frzs u.tbls (fun m' hm=>by
  obtain ⟨o',es',ep',ho',r'⟩:=hm;rw [ho] at ho';cases ho';exact ⟨_,es',ep',hL,r'⟩) hok hg
theorem Inv.turned(I:Inv X pins U H s)(k:∀ b o,b≠it->s.heap.get? b=some o->h'.get? b=some o)(hn:H it=none)(hL:it≠X.env.locals)(h1:it∈X.ex \/ X.s₀.heap.objs.size<=it)(h2:∀ x c,X.env.cells.lookup x=some c->c≠it)(h3:∀ p∈X.pn++ pins,p.1≠it):Inv X pins U H {s with heap:=h',toks:=t'}:=by
 have nit:∀ b u,H b=some u->b≠it:=fun b u e z=>by rw [z,hn] at e;cases e
 refine I.step (g':=s.gens) (d':=s.drawn) (ch:= [it]) (fun b hb=>?_) (fun b o _ _ hc e _=>k b o (fun z=>hc (by simp [z])) e) (fun b o _ _ hc e _=>⟨o.slots,k b o (fun z=>hc (by simp [z])) e⟩) (fun _ _ _ _ n=>n)
  (fun b o hc e=>⟨o,k b o (fun z=>hc (by simp [z])) e⟩) (fun _ _ e=>e) (fun _ _ _ e=>e) (fun b ps e=>⟨#[],by rw [e];simp⟩) (fun m hm=>?_) (fun b u e=>?_) I.bare
 .have e:b=it:=by simpa using hb
  subst e;exact ⟨h1,hL,h2,h3⟩
 .obtain ⟨o,es,ep,ho,r⟩:=hm
  exact ⟨o,es,ep,k _ o (Ne.symm hL) ho,r⟩
 .refine (I.hok b u e).stay (fun c v hc q=>k c v ?_ q) (fun _ q=>q) fun _ _ q=>q
  rcases hc with z | z
  .rw [z];exact nit b u e
  .exact nit c _ z
theorem Inv.tok(I:Inv X pins U H s)(t:Nat):Inv X pins U H {s with toks:=t}:=I.un (h':=s.heap) (t':=t) Un.refl I.hok
theorem Inv.kept(I:Inv X pins U H s)(k:∀ b u,s.heap.get? b=some u->h'.get? b=some u):Inv X pins U H {s with heap:=h',toks:=t'}:=I.un (Un.kept k) (I.hok.kept k)
theorem Inv.laid(I:Inv X pins U H s)(k:∀ b u,s.heap.get? b=some u->h'.get? b=some u)(hp:s.heap.objs.size<=a)(new:Zr X.prog X.w (upd H a o) h' a o):
  Inv X pins U (upd H a o) {s with heap:=h',toks:=t'}:=I.un (Un.laid k hp (I.hok.fresh hp)) (I.hok.laid k hp new)
theorem Inv.write(I:Inv X pins U H s)(mu:Mut (H x))(he:e=x \/ H e=some (.own x))(k:∀ b u,b≠e->s.heap.get? b=some u->h'.get? b=some u)(heo:∃ u,h'.get? e=some u)(new:Zr X.prog X.w (upd H x o) h' x o):Inv X pins U (upd H x o) {s with heap:=h',toks:=t'}:=I.un (Un.write mu he k heo) (I.hok.write mu he k heo new)
theorem Inv.weak(I:Inv X pins U H s)(hl:U'.length=U.length)(w:∀ (i:Nat) v,U'[i]?=some (some v)->U[i]?=some (some v)):Inv X pins U' H s:=
 ⟨I.ok,I.os,I.bare,I.base,let ⟨m,hn,hl'⟩:=I.loc;⟨m,hn,fun i x v e1 e2 e3=>hl' i x v e1 (w i v e2) e3⟩,I.cell,I.free,I.freeC,I.pin,I.hok,hl.trans I.len⟩
theorem Inv.pins_of(I:Inv X pins U H s)(h:∀ p∈pins',s.heap.get? p.1=some p.2/\H p.1=none/\p.1≠X.env.locals/\p.1 ∉ X.fs/\∀ v,p.2.data≠ .cell v):Inv X pins' U H s:=
 ⟨I.ok,I.os,I.bare,I.base,I.loc,I.cell,I.free,I.freeC,fun p hp=>(O2.mp hp).elim (fun z=>I.pin p (List.mem_append_left _ z)) (h p),I.hok,I.len⟩
theorem WA{N:List Str}(hN:N.Nodup){i j:Nat}(a:N[i]?=some x)(b:N[j]?=some x):i=j:=by
 obtain ⟨h1,e1⟩:=Ol.mp a;obtain ⟨h2,e2⟩:=Ol.mp b;exact (List.getElem_inj hN).mp (e1.trans e2.symm)
theorem Wd(I:Inv X pins U H s)(hN:X.N.Nodup)(hi:X.N[i]?=some x)(hx:Loc X.env.scope x)(r:RelV v u)(h:∀ s',Inv X pins (U.set i (some v)) H s'->(∃ a,Heap.SameBut a s.heap s'.heap/\(a=X.env.locals \/ X.env.cells.lookup x=some a))->Q () s')(hf:X.fn x=true \/ X.env.scope.names.lookup x=some .local:=by first | exact .inl rfl | exact .inr rfl | assumption):wpAny M A (storeName X.env x u) Q E s:=by
 obtain ⟨m,hn,hl⟩:=id I.loc;have hcls:(X.env.scope.kind== .class || (X.env.scope.kind== .module && X.env.locals !=X.env.globals))=false:=by rw [I.ok.kind];rfl
 have hiσ:i < U.length:=by rw [I.len];exact (Ol.mp hi).1
 have cne:=I.cne
 have tracked:∀ {a:Addr}{h':Heap},(∃ o,s.heap.get? a=some o/\H a=none)->Heap.SameBut a s.heap h'->HOk X.prog X.w H h':=fun {a h'} ha hs b ob e=>by
  obtain ⟨_,_,hfree⟩:=ha;refine (I.hok b ob e).stay (fun c w' hc q=>(hs.2 c ?_).trans q) (fun _ q=>q) fun _ _ q=>q;rintro rfl;rcases hc with rfl | hc
  .rw [hfree] at e;cases e
  .rw [hfree] at hc;cases hc
 rcases hx with hk | hk
 .refine wpAny_storeName_local hk hn (fun h' hn' hs=>?_) hcls
  obtain ⟨oL,_,_,hoL,_⟩:=id hn;refine h _ ⟨I.ok,I.os,I.bare,⟨fun b o e n hb hx=>?_,fun b o e n hb hx=>?_,I.base.free,fun b o e hx=>?_,I.base.tups,I.base.frzs,I.base.tbls⟩,⟨_,hn',fun j y v' e1 e2 e3=>?_⟩,fun y c e=>?_,I.free,I.freeC,fun p hp=>?_,tracked ⟨oL,hoL,I.free⟩ hs,by simpa using I.len⟩ ⟨_,hs, .inl rfl⟩
  .exact (hs.2 b (O9 (Nat.lt_of_lt_of_le (Ow e) I.ok.above))).trans (I.base.keep b o e n hb hx)
  .obtain ⟨sl,e1⟩:=I.base.slot b o e n hb hx
   exact ⟨sl,(hs.2 b (O9 (Nat.lt_of_lt_of_le (Ow e) I.ok.above))).trans e1⟩
  .obtain ⟨o',e1⟩:=I.base.there b o e hx
   exact ⟨o',(hs.2 b (O9 (Nat.lt_of_lt_of_le (Ow e) I.ok.above))).trans e1⟩
  .by_cases hj:j=i
   .subst hj
    rw [hi] at e1;cases e1;rw [List.getElem?_set_self hiσ] at e2;cases e2;exact ⟨u,r, .inl ⟨hk,by simp⟩⟩
   .rw [List.getElem?_set_ne (Ne.symm hj)] at e2
    obtain ⟨u',r',q⟩:=hl j y v' e1 e2 e3;refine ⟨u',r',?_⟩;rcases q with ⟨k,e⟩ | ⟨k,c,e,z⟩
    .refine .inl ⟨k,?_⟩
     have:y≠x:=fun e=>hj (WA hN e1 (e ▸ hi));simp [this,e]
    .exact .inr ⟨k,c,e,z.sameBut hs (cne y c e)⟩
  .obtain ⟨w',z⟩:=I.cell y c e
   exact ⟨w',z.sameBut hs (cne y c e)⟩
  .obtain ⟨e,n,ne,nf,d⟩:=I.pin p hp
   exact ⟨(hs.2 p.1 ne).trans e,n,ne,nf,d⟩
 .have hfn:X.fn x=true:=by
   rcases hf with z | z
   .exact z
   .rw [z] at hk;cases hk
  obtain ⟨c,hc⟩:=I.ok.has x (.inl hk);obtain ⟨w',z⟩:=I.cell x c hc;refine wpAny_storeName_cell I.ok.kind hk hc z (fun h' hc' hs=>?_);obtain ⟨oc,hoc,hocd⟩:=id z;refine h {s with heap:=h'} ⟨I.ok,I.os,I.bare,⟨fun b o e n hb hx=>?_,fun b o e n hb hx=>?_,I.base.free,fun b o e hx=>?_,I.base.tups,I.base.frzs,I.base.tbls⟩,⟨m,hn.sameBut hs (Ne.symm (cne x c hc)),fun j y v' e1 e2 e3=>?_⟩,fun y c' e=>?_,I.free,I.freeC,fun p hp=>?_,tracked ⟨oc,hoc,I.freeC x c hc⟩ hs,by simpa using I.len⟩ ⟨c,hs, .inr hc⟩
  .exact (hs.2 b (O9 (Nat.lt_of_lt_of_le (Ow e) (I.ok.cab x c hfn hc)))).trans (I.base.keep b o e n hb hx)
  .obtain ⟨sl,e1⟩:=I.base.slot b o e n hb hx
   exact ⟨sl,(hs.2 b (O9 (Nat.lt_of_lt_of_le (Ow e) (I.ok.cab x c hfn hc)))).trans e1⟩
  .obtain ⟨o',e1⟩:=I.base.there b o e hx
   exact ⟨o',(hs.2 b (O9 (Nat.lt_of_lt_of_le (Ow e) (I.ok.cab x c hfn hc)))).trans e1⟩
  .by_cases hj:j=i
   .subst hj
    rw [hi] at e1;cases e1;rw [List.getElem?_set_self hiσ] at e2;cases e2;exact ⟨u,r, .inr ⟨.inl hk,c,hc,hc'⟩⟩
   .rw [List.getElem?_set_ne (Ne.symm hj)] at e2
    obtain ⟨u',r',q⟩:=hl j y v' e1 e2 e3;refine ⟨u',r',?_⟩;rcases q with q | ⟨k,c',e,z'⟩
    .exact .inl q
    .refine .inr ⟨k,c',e,z'.sameBut hs ?_⟩
     rintro rfl;exact hj (WA hN e1 (I.ok.inj _ _ _ e hc ▸ hi))
  .by_cases hcc:c'=c
   .subst hcc;exact ⟨_,hc'⟩
   .obtain ⟨w2,z2⟩:=I.cell y c' e
    exact ⟨w2,z2.sameBut hs hcc⟩
  .obtain ⟨e,n,ne,nf,d⟩:=I.pin p hp
   refine ⟨(hs.2 p.1 ?_).trans e,n,ne,nf,d⟩;intro q;rw [q,hoc] at e;have q':oc=p.2:=Oy e;exact d w' (by rw [<-q'];exact hocd)
theorem UO(I:Inv X pins U H s)(hN:X.N.Nodup)(hi:X.N[i]?=some x)(hx:Loc X.env.scope x)(r:RelV v u)(h:∀ s',Inv X pins (U.set i (some v)) H s'->Q () s')(hf:X.fn x=true \/ X.env.scope.names.lookup x=some .local:=by first | exact .inl rfl | exact .inr rfl | assumption):wpAny M A (storeName X.env x u) Q E s:=
 Wd I hN hi hx r (fun s' I' _=>h s' I') hf
theorem Inv.call'(I:Inv X pins U H s)(ho:s'.os=s.os)(u:Un (frs X.stack) ch H H' s.heap s'.heap)(hok:HOk X.prog X.w H' s'.heap)(hg:AllBare s'.gens)(hch:∀ b∈ch,(b∈X.ex \/ X.s₀.heap.objs.size<=b)/\b≠X.env.locals/\(∀ x c,X.env.cells.lookup x=some c->c≠b)/\∀ p∈X.pn++ pins,p.1≠b):Inv X pins U H' s':=by
 obtain ⟨h',g',d',t',o'⟩:=s';have e:o'=s.os:=ho;subst e;exact I.call (g':=g') (t':=t') (d':=d') u hok hg hch
end
abbrev XK:=Value->Option Addr->Hp->Prop
abbrev St:=List (Option V)
abbrev VK:=V->Hp->Prop
abbrev TE:=St->Hp->VK->Prop
abbrev TT:=St->Hp->(Bool->Hp->Prop)->Prop
abbrev TA:=St->Hp->(List V->Hp->Prop)->Prop
structure Ends where
 nx:St->Hp->Prop
 rt:VK
 bk:St->Hp->Prop:=fun _ _=>False
 ct:St->Hp->Prop:=fun _ _=>False
abbrev TS:=Ends->St->Hp->Prop
def EP(X:Cx)(pins:List (Addr × Obj))(U:St)(Q:VK)(u:Value)(s':Shared):Prop:= ∃ v H',Inv X pins U H' s'/\RelV v u/\Q v H'
def TP(X:Cx)(pins:List (Addr × Obj))(U:St)(Q:Bool->Hp->Prop)(b:Bool)(s':Shared):Prop:= ∃ H',Inv X pins U H' s'/\Q b H'
def AP(X:Cx)(pins:List (Addr × Obj))(U:St)(Q:List V->Hp->Prop)(us:List Value)(s':Shared):Prop:= ∃ vs H',Inv X pins U H' s'/\Vals vs us/\Q vs H'
def SP(X:Cx)(pins:List (Addr × Obj))(D:Ends)(f:Flow)(s':Shared):Prop:=
 match f with
 | .next=> ∃ U' H',Inv X pins U' H' s'/\D.nx U' H'
 | .brk=> ∃ U' H',Inv X pins U' H' s'/\D.bk U' H'
 | .cont=> ∃ U' H',Inv X pins U' H' s'/\D.ct U' H'
 | .ret u=> ∃ v U' H',Inv X pins U' H' s'/\RelV v u/\D.rt v H'
def PE(X:Cx)(e:Expr)(t:TE):Prop:=
 ∀ (pins:List (Addr × Obj)) (s:Shared) (U:St) (H:Hp) (Q:VK),Inv X pins U H s->t U H Q->wpAny (model X.prog X.w) X.A (eval e X.env) (EP X pins U Q) X.xe s
def PT(X:Cx)(e:Expr)(t:TT):Prop:=
 ∀ (pins:List (Addr × Obj)) (s:Shared) (U:St) (H:Hp) (Q:Bool->Hp->Prop),Inv X pins U H s->t U H Q->wpAny (model X.prog X.w) X.A (isTrue e X.env (eval e X.env)) (TP X pins U Q) X.xe s
def PW(X:Cx)(e:Expr)(t:TT):Prop:=
 ∀ (whole:Sem Value) (pins:List (Addr × Obj)) (s:Shared) (U:St) (H:Hp) (Q:Bool->Hp->Prop),Inv X pins U H s->t U H Q->wpAny (model X.prog X.w) X.A (isTrue e X.env whole) (TP X pins U Q) X.xe s
theorem PW.pt(h:PW X e t):PT X e t:=h _
def PA(X:Cx)(es:List Expr)(t:TA):Prop:=
 ∀ (pos:Pos) (pins:List (Addr × Obj)) (s:Shared) (U:St) (H:Hp) (Q:List V->Hp->Prop),Inv X pins U H s->t U H Q->wpAny (model X.prog X.w) X.A (spliced (backTo pos (starEach es X.env))) (AP X pins U Q) X.xe s
def PS(X:Cx)(st:Stmt)(t:TS):Prop:=
 ∀ (pins:List (Addr × Obj)) (s:Shared) (U:St) (H:Hp) (D:Ends),Inv X pins U H s->t D U H->wpAny (model X.prog X.w) X.A (exec st X.env) (SP X pins D) X.xe s
def PSs(X:Cx)(st:List Stmt)(t:TS):Prop:=
 ∀ (pins:List (Addr × Obj)) (s:Shared) (U:St) (H:Hp) (D:Ends),Inv X pins U H s->t D U H->wpAny (model X.prog X.w) X.A (execs st X.env) (SP X pins D) X.xe s
theorem thn(h:wpAny M A t Q E s)(hQ:∀ a s,Q a s->Q' a s):wpAny M A t Q' E s:=wpAny_mono h hQ fun _ _ x=>x
end L2
namespace L2
open PySem PySem.Spec PyProof.Rows
section
variable{X:Cx}
def W6(o:Option (Option V))(P:V->Prop):Prop:=match o with
 | some (some v)=>P v
 | _=>False
theorem W6.old(h:W6 o P):∃ v,o=some (some v)/\P v:=by
 match o,h with
 | some (some v),h=>exact ⟨v,rfl,h⟩
def Vw(x:V)(P:Int->Prop):Prop:=match x with
 | .int c=>P c
 | _=>False
theorem Vw.old(h:Vw x P):∃ c,x= .int c/\P c:=by
 cases x <;> first | exact ⟨_,rfl,h⟩ | exact h.elim
def Y6(x:V)(P:Addr->Prop):Prop:=match x with
 | .ref c=>P c
 | _=>False
theorem Y6.old(h:Y6 x P):∃ c,x= .ref c/\P c:=by
 cases x <;> first | exact ⟨_,rfl,h⟩ | exact h.elim
def UB(i:Nat):TE:=fun U H Q=>W6 U[i]? fun v=>Q v H
def tC(v:V):TE:=fun _ H Q=>Q v H
theorem Ke(hN:X.N[i]?=some x)(hv:Vis X.env.scope x)(hd:(x==("__debug__" :Str))=false:=by decide)(hcd:(x==("__classdict__" :Str))=false:=by decide):PE X (.Name x pos) (UB i):=by
 intro pins s U H Q I h;replace h:=W6.old h;obtain ⟨v,e,h⟩:=h;obtain ⟨m,hn,hl⟩:=I.loc;obtain ⟨u,r,l⟩:=hl i x v hN e hv;have fin:EP X pins U Q u s:=⟨v,H,I,r,h⟩;rcases l with ⟨hk,hm⟩ | ⟨hk,c,hc,hcell⟩
 .exact wpAny_Name (wpAny_loadName_local I.ok.kind hk hn hm fin) hd
 .rcases hk with hk | hk
  .exact wpAny_Name (wpAny_loadName_cell I.ok.kind hk hc hcell fin) hd
  .exact wpAny_Name (wpAny_loadName_free I.ok.kind hk hc hcell fin hcd) hd
theorem ZD:PE X (.Constant (.int i) j pos) (tC (.int i)):=fun _ _ _ H _ I h=>wpAny_Constant_int ⟨.int i,H,I.tok _,⟨_,rfl⟩,h⟩
theorem Vr:PE X (.Constant (.bool b) j pos) (tC (.bl b)):=fun _ _ _ H _ I h=>Constant_bool ⟨.bl b,H,I,rfl,h⟩
theorem Y0:PE X (.Constant .none j pos) (tC .non):=fun _ _ _ H _ I h=>Constant_none ⟨.non,H,I,rfl,h⟩
theorem ZY:PE X (.Constant (.str x) j pos) (tC (.str x)):=fun _ _ _ H _ I h=>Calls.Constant_str ⟨.str x,H,I.tok _,⟨_,rfl⟩,h⟩
def Gl(X:Cx)(x:Str):Prop:=X.env.kindOf x=some .globalImplicit
theorem JZ(I:Inv X pins U H s)(hg:Gl X x)(hm:X.mg x=some u)(h:Q u s)(hd:(x==("__debug__" :Str))=false:=by decide):wpAny (model X.prog X.w) X.A (eval (.Name x pos) X.env) Q E s:=
 Calls.Name_function_global I.ok.kind hg (Calls.loadGlobal_global (by rw [I.ok.glob];exact I.mod.glob.keeps I.bk) hm h) hd
theorem Uw(I:Inv X pins U H s)(hg:Gl X x)(hm:X.mg x=none)(hv:bootBuiltins x=some u)(h:Q u s)(hn:x≠"__name__" :=by decide)(hd:(x==("__debug__" :Str))=false:=by decide):wpAny (model X.prog X.w) X.A (eval (.Name x pos) X.env) Q E s:=by
 obtain ⟨mb,h1,h2⟩:=I.mod.blt;exact Calls.Name_function_global I.ok.kind hg (Calls.loadGlobal_builtin (by rw [I.ok.glob];exact I.mod.glob.keeps I.bk) hm (by rw [I.ok.blt];exact h1.keeps I.bk) ((h2 x hn).trans hv) h) hd
theorem Yx(hg:Gl X x)(hm:X.mg x=some u)(r:RelV v u)(hd:(x==("__debug__" :Str))=false:=by decide):PE X (.Name x pos) (tC v):=
 fun _ _ _ H _ I h=>JZ I hg hm ⟨v,H,I,r,h⟩ hd
theorem My(hg:Gl X x)(hm:X.mg x=none)(hv:bootBuiltins x=some u)(r:RelV v u)(hn:x≠"__name__" :=by decide)(hd:(x==("__debug__" :Str))=false:=by decide):PE X (.Name x pos) (tC v):=
 fun _ _ _ H _ I h=>Uw I hg hm hv ⟨v,H,I,r,h⟩ hn hd
variable{a b:Expr}{ta tb:TE}{pos:Pos}
def PC(X:Cx)(op:CmpOp)(a b:Expr)(t:TE):Prop:=
 ∀ (pins:List (Addr × Obj)) (s:Shared) (U:St) (H:Hp) (Q:VK),Inv X pins U H s->t U H Q->
  wpAny (model X.prog X.w) X.A (eval a X.env) (fun v s₁=>wpAny (model X.prog X.w) X.A (eval b X.env) (fun u s₂=>wpAny (model X.prog X.w) X.A (compareOp op v u) (EP X pins U Q) X.xe s₂) X.xe s₁) X.xe s
def tB(t:TE):TT:=fun U H Q=>t U H fun x H1=> ∃ c,x= .bl c/\Q c H1
theorem Vp(h:PC X op a b t)(h1:behindInMarks op b=false:=by first | exact nobehind _ (by decide) (by decide) | rfl):PT X (.Compare a [op] [b] pos) (tB t):=by
 intro pins s U H Q I hw;refine wpAny_isTrue_Compare1 (thn (h pins s U H _ I hw) fun v s1 h1=>thn h1 fun u s2 h2=>thn h2 fun c s3 ⟨x,H1,I1,r1,q1⟩=>?_) h1;obtain ⟨d,rfl,q⟩:=q1;cases r1;exact wpAny_truthy_bool ⟨H1,I1,q⟩
theorem Yi(h:PE X e t)(he:∀ whole,isTrue e X.env whole=(do let v <-whole;standAt e.pos;holding [v] (truthy v)):=by intro _;rfl):PT X e (tB t):=by
 intro pins s U H Q I hw;refine isTrue_plain (thn (h pins s U H _ I hw) fun v s1 ⟨x,H1,I1,r1,q1⟩=>?_) (he _);obtain ⟨d,rfl,q⟩:=q1;cases r1;exact wpAny_truthy_bool ⟨H1,I1,q⟩
variable{rest:List Expr}
def OG(t u:TT):TT:=fun U H Q=>t U H fun c H1=>if c=true then u U H1 Q else Q false H1
def tOr(t u:TT):TT:=fun U H Q=>t U H fun c H1=>if c=true then Q true H1 else u U H1 Q
def L9(t:TT):TT:=fun U H Q=>t U H fun c H1=>Q (!c) H1
theorem VE(ha:PT X a tA):PW X (.BoolOp .And [a] pos) tA:=by
 intro wh pins s U H Q I h;refine isTrue_and (thn (ha pins s U H Q I h) fun c s1 e=>?_)
 cases c with
 | true=>exact isTrue_and_nil e
 | false=>exact e
theorem VM(ha:PT X a tA):PW X (.BoolOp .Or [a] pos) tA:=by
 intro wh pins s U H Q I h;refine isTrue_or (thn (ha pins s U H Q I h) fun c s1 e=>?_)
 cases c with
 | false=>exact isTrue_or_nil e
 | true=>exact e
theorem Vo(ha:PT X a tA)(hb:PW X (.BoolOp .And (b::rest) pos) tB'):PW X (.BoolOp .And (a::b::rest) pos) (OG tA tB'):=by
 intro wh pins s U H Q I h;refine isTrue_and (thn (ha pins s U H _ I h) fun c s1 ⟨H1,I1,q1⟩=>?_)
 cases c with
 | true=>exact hb wh pins s1 U H1 Q I1 q1
 | false=>exact ⟨H1,I1,q1⟩
theorem VX(ha:PT X a tA)(hb:PW X (.BoolOp .Or (b::rest) pos) tB'):PW X (.BoolOp .Or (a::b::rest) pos) (tOr tA tB'):=by
 intro wh pins s U H Q I h;refine isTrue_or (thn (ha pins s U H _ I h) fun c s1 ⟨H1,I1,q1⟩=>?_)
 cases c with
 | true=>exact ⟨H1,I1,q1⟩
 | false=>exact hb wh pins s1 U H1 Q I1 q1
theorem Yz(ha:PT X a tA):PT X (.UnaryOp .Not a pos) (L9 tA):=by
 intro pins s U H Q I h;exact isTrue_not (ha pins s U H (fun c H1=>Q (!c) H1) I h)
def LR(ta tb:TE):TE:=fun U H Q=>ta U H fun x H1=> ∃ c,x= .bl c/\if c=true then tb U H1 Q else Q (.bl false) H1
def L8(ta tb:TE):TE:=fun U H Q=>ta U H fun x H1=> ∃ c,x= .bl c/\if c=true then Q (.bl true) H1 else tb U H1 Q
def LK(ta:TE):TE:=fun U H Q=>ta U H fun x H1=> ∃ c,x= .bl c/\Q (.bl (!c)) H1
theorem Jp(h:PE X a t):PE X (.BoolOp op [a] pos) t:=fun pins s U H Q I hw=>BoolOp_one (h pins s U H Q I hw)
theorem JV(ha:PE X a ta)(hb:PE X (.BoolOp .And (b::rest) pos) tb):PE X (.BoolOp .And (a::b::rest) pos) (LR ta tb):=by
 intro pins s U H Q I h;refine BoolOp_and (thn (ha pins s U H _ I h) fun v s1 ⟨x,H1,I1,r1,q1⟩=>?_);obtain ⟨c,rfl,q1⟩:=q1;cases r1;refine wpAny_truthy_bool ?_
 cases c with
 | true=>exact hb pins s1 U H1 Q I1 q1
 | false=>exact ⟨.bl false,H1,I1,rfl,q1⟩
theorem Lg(ha:PE X a ta)(hb:PE X (.BoolOp .Or (b::rest) pos) tb):PE X (.BoolOp .Or (a::b::rest) pos) (L8 ta tb):=by
 intro pins s U H Q I h;refine BoolOp_or (thn (ha pins s U H _ I h) fun v s1 ⟨x,H1,I1,r1,q1⟩=>?_);obtain ⟨c,rfl,q1⟩:=q1;cases r1;refine wpAny_truthy_bool ?_
 cases c with
 | false=>exact hb pins s1 U H1 Q I1 q1
 | true=>exact ⟨.bl true,H1,I1,rfl,q1⟩
theorem B2(ha:PE X a ta):PE X (.UnaryOp .Not a pos) (LK ta):=by
 intro pins s U H Q I h;refine UnaryOp_ (thn (ha pins s U H _ I h) fun v s1 ⟨x,H1,I1,r1,q1⟩=>?_);obtain ⟨c,rfl,q1⟩:=q1;cases r1;exact not_of (wpAny_truthy_bool ⟨.bl (!c),H1,I1,rfl,q1⟩)
end
end L2
namespace L2
open PySem PySem.Spec PyProof.Rows
def SqL(K:W.Frag)(H:Hp)(a:Addr)(xs:List V):Prop:=
 Rd H a (.lst xs) \/
  ∃ (o:Obj) (its:Array Value) (n:Nat),K.lookup a=some o/\o.cls= .type "list" /\o.dict=none/\o.data= .seq its n/\its.size<=sizeLine/\Vals xs its.toList
def SqT(K:W.Frag)(H:Hp)(a:Addr)(xs:List V):Prop:=
 Rd H a (.tup xs) \/
  ∃ (o:Obj) (its:Array Value) (n:Nat),K.lookup a=some o/\o.cls= .type "tuple" /\o.data= .seq its n/\its.size<=sizeLine/\Vals xs its.toList
def Od:Value->Option V
 | .none=>some .non
 | .bool b=>some (.bl b)
 | .int i _=>some (.int i)
 | .str x _=>some (.str x)
 | .bytes b _=>some (.byt b)
 | .float b _=>some (.flt b)
 | .ref a=>some (.ref a)
 | .type n=>some (.ty n)
 | _=>none
theorem RelV.abs(r:RelV x u):Od u=some x:=by
 cases x with
 | non=>cases r;rfl
 | bl _=>cases r;rfl
 | int _=>obtain ⟨t,rfl⟩:=r;rfl
 | str _=>obtain ⟨t,rfl⟩:=r;rfl
 | byt _=>obtain ⟨t,rfl⟩:=r;rfl
 | flt _=>obtain ⟨t,rfl⟩:=r;rfl
 | ref _=>cases r;rfl
 | ty _=>cases r;rfl
theorem RelV.inj(r:RelV x u)(q:RelV y u):x=y:=Oy (r.abs.symm.trans q.abs)
theorem Vals.inj:∀ {xs ys:List V}{us:List Value},Vals xs us->Vals ys us->xs=ys
 | _,_,_, .nil, .nil=>rfl
 | _,_,_, .cons r t, .cons r' t'=>by rw [r.inj r',Vals.inj t t']
section
theorem SqL.of{K:W.Frag}(h:H a=some (.lst xs)):SqL K H a xs:= .inl (.inl h)
theorem SqT.of{K:W.Frag}(h:H a=some (.tup xs)):SqT K H a xs:= .inl (.inl h)
theorem Inv.list(I:Inv X pins U H s)(h:SqL X.K H a xs):∃ its:List Value,Vals xs its/\PlainL s.heap a its.toArray/\xs.length<=sizeLine:=by
 rcases h with h | ⟨o,its,n,hk,hc,hd,hs,hz,r⟩
 .obtain ⟨z,its,n,r,e⟩:=h.ok I.hok
  exact ⟨its,r,⟨_,n,e,rfl,rfl,rfl⟩,z⟩
 .refine ⟨its.toList,r,⟨o,n,I.kIn a o hk,hc,hd,by simpa using hs⟩,?_⟩
  have e:=r.length;simp only [Array.length_toList] at e;omega
theorem Inv.tuple(I:Inv X pins U H s)(h:SqT X.K H a xs):∃ its:List Value,Vals xs its/\IsTup s.heap a its.toArray/\xs.length<=sizeLine:=by
 rcases h with h | ⟨o,its,n,hk,hc,hs,hz,r⟩
 .obtain ⟨z,its,r,p⟩:=h.ok I.hok
  exact ⟨its,r,p.is,z⟩
 .refine ⟨its.toList,r,⟨o,I.kIn a o hk,hc,n,by simpa using hs⟩,?_⟩
  have e:=r.length;simp only [Array.length_toList] at e;omega
theorem Inv.list_inj(I:Inv X pins U H s)(h:SqL X.K H a xs)(h':SqL X.K H a ys):xs=ys:=by
 obtain ⟨its,r,⟨o,n,e,_,_,d⟩,_⟩:=I.list h;obtain ⟨its',r',⟨o',n',e',_,_,d'⟩,_⟩:=I.list h';rw [e] at e';cases e';rw [d] at d';injection d' with d1 _;have:its=its':=by simpa using congrArg Array.toList d1
 subst this;exact r.inj r'
theorem Inv.tuple_inj(I:Inv X pins U H s)(h:SqT X.K H a xs)(h':SqT X.K H a ys):xs=ys:=by
 obtain ⟨its,r,⟨o,e,_,n,d⟩,_⟩:=I.tuple h;obtain ⟨its',r',⟨o',e',_,n',d'⟩,_⟩:=I.tuple h';rw [e] at e';cases e';rw [d] at d';injection d' with d1 _;have:its=its':=by simpa using congrArg Array.toList d1
 subst this;exact r.inj r'
end
abbrev Cx.wish(X:Cx)(E:Value->Shared->Prop):Cx:={X with xe:=E}
abbrev Cx.nox(X:Cx):Cx:=X.wish fun _ _=>False
theorem Cx.Ok.wish{X:Cx}(ok:X.Ok)(E:Value->Shared->Prop):(X.wish E).Ok:=
 ⟨ok.mod,ok.kind,ok.glob,ok.blt,ok.above,ok.inj,ok.has,ok.cab,ok.hd,ok.frames,ok.stk,ok.exf,ok.bs,ok.bsz,ok.noex,ok.exfs,ok.funs,ok.frf⟩
theorem Cx.Ok.unwish{X:Cx}(ok:(X.wish E).Ok):X.Ok:=
 ⟨ok.mod,ok.kind,ok.glob,ok.blt,ok.above,ok.inj,ok.has,ok.cab,ok.hd,ok.frames,ok.stk,ok.exf,ok.bs,ok.bsz,ok.noex,ok.exfs,ok.funs,ok.frf⟩
section
theorem Inv.wish(I:Inv X pins U H s)(E:Value->Shared->Prop):Inv (X.wish E) pins U H s:=⟨I.ok.wish E,I.os,I.bare,I.base,I.loc,I.cell,I.free,I.freeC,I.pin,I.hok,I.len⟩
theorem Inv.unwish(I:Inv (X.wish E) pins U H s):Inv X pins U H s:=⟨I.ok.unwish,I.os,I.bare,I.base,I.loc,I.cell,I.free,I.freeC,I.pin,I.hok,I.len⟩
theorem SP.unwish(h:SP (X.wish E) pins D f s'):SP X pins D f s':=by
 cases f with
 | next=>obtain ⟨U',H',I,q⟩:=h;exact ⟨U',H',I.unwish,q⟩
 | brk=>obtain ⟨U',H',I,q⟩:=h;exact ⟨U',H',I.unwish,q⟩
 | cont=>obtain ⟨U',H',I,q⟩:=h;exact ⟨U',H',I.unwish,q⟩
 | ret u=>obtain ⟨v,U',H',I,r,q⟩:=h;exact ⟨v,U',H',I.unwish,r,q⟩
theorem PSs.nox{st:List Stmt}(h:PSs X.nox st t):PSs X st t:=fun pins s U H D I hw=>
 wpAny_mono (h pins s U H D (I.wish _) hw) (fun _ _ q=>q.unwish) fun _ _ z=>False.elim z
end
section
variable{st:Stmt}{rest:List Stmt}{t u:TS}{te:TE}
def LL:TS:=fun D U H=>D.nx U H
def ZK(t u:TS):TS:=fun D U H=>t {D with nx:=u D} U H
theorem ZO:PSs X [] LL:=fun _ _ U H _ I h=>wpAny_execs_nil ⟨U,H,I,h⟩
theorem ZA(h1:PS X st t)(h2:PSs X rest u):PSs X (st::rest) (ZK t u):=by
 intro pins s U H D I h;refine wpAny_execs_cons (thn (h1 pins s U H {D with nx:=u D} I h) fun f s1 q=>?_)
 cases f with
 | next=>
  obtain ⟨U',H',I',q⟩:=q;exact h2 pins s1 U' H' D I' q
 | ret v=>exact q
 | brk=>exact q
 | cont=>exact q
theorem ZF(h1:PS X st t):PSs X [st] t:=by
 intro pins s U H D I h;refine wpAny_execs_cons (thn (h1 pins s U H D I h) fun f s1 q=>?_)
 cases f with
 | next=>exact wpAny_execs_nil q
 | ret v=>exact q
 | brk=>exact q
 | cont=>exact q
theorem Inv.quiet(I:Inv X pins U H s):interactive X.env=false:=by simp [interactive,I.ok.kind]
def Mi(te:TE):TS:=fun D U H=>te U H fun _ H1=>D.nx U H1
theorem Ye(he:PE X e te)(hs:swapsWith e none pos.line X.env=pure false:=by rfl):PS X (.Expr e pos) (Mi te):=by
 intro pins s U H D I h;exact wpAny_Expr_any (thn (he pins s U H _ I h) fun v s1 ⟨x,H1,I1,r1,q1⟩=>⟨U,H1,I1,q1⟩) I.quiet hs
def L7(te:TE):TS:=fun D U H=>te U H D.rt
theorem ZV(he:PE X e te):PS X (.Return (some e) pos) (L7 te):=by
 intro pins s U H D I h;exact wpAny_Return_some (thn (he pins s U H _ I h) fun v s1 ⟨x,H1,I1,r1,q1⟩=>⟨x,U,H1,I1,r1,q1⟩)
def Zv(c:TT)(t u:TS):TS:=fun D U H=>c U H fun b H1=>if b=true then t D U H1 else u D U H1
theorem Zg(hc:PT X c tc)(ha:PSs X a t)(hb:PSs X b u):PS X (.If c a b pos) (Zv tc t u):=by
 intro pins s U H D I h;refine wpAny_If (thn (hc pins s U H _ I h) fun d s1 ⟨H1,I1,q1⟩=>?_)
 cases d with
 | true=>exact ha pins s1 U H1 D I1 q1
 | false=>exact hb pins s1 U H1 D I1 q1
def KH:TS:=fun _ _ _=>False
theorem Wh:PSs X sts KH:=fun _ _ _ _ _ _ h=>h.elim
end
abbrev TG:=V->St->Hp->(St->Hp->Prop)->Prop
abbrev TGs:=List V->St->Hp->(St->Hp->Prop)->Prop
def PG(X:Cx)(target:Expr)(t:TG):Prop:=
 ∀ (pins:List (Addr × Obj)) (s:Shared) (U:St) (H:Hp) (v:V) (u:Value) (Q:St->Hp->Prop),Inv X pins U H s->RelV v u->t v U H Q->
  wpAny (model X.prog X.w) X.A (assign target X.env u) (fun _ s'=> ∃ U' H',Inv X pins U' H' s'/\Q U' H') X.xe s
def PGs(X:Cx)(ts:List Expr)(t:TGs):Prop:=
 ∀ (pins:List (Addr × Obj)) (s:Shared) (U:St) (H:Hp) (vs:List V) (us:List Value) (Q:St->Hp->Prop),Inv X pins U H s->Vals vs us->t vs U H Q->
  wpAny (model X.prog X.w) X.A (assignInOrder ((assignEach ts X.env).map (·.2)) us) (fun _ s'=> ∃ U' H',Inv X pins U' H' s'/\Q U' H') X.xe s
abbrev L0:=V->V->V->Hp->(Hp->Prop)->Prop
def L1(X:Cx)(t:L0):Prop:=
 ∀ (pins:List (Addr × Obj)) (s:Shared) (U:St) (H:Hp) (o i v:V) (ov iv u:Value) (Q:Hp->Prop),Inv X pins U H s->RelV o ov->RelV i iv->RelV v u->t o i v H Q->
  wpAny (model X.prog X.w) X.A (setItem ov iv u) (fun _ s'=> ∃ H',Inv X pins U H' s'/\Q H') X.xe s
abbrev TIp:=V->V->Hp->VK->Prop
def PIp(X:Cx)(op:Operator)(t:TIp):Prop:=
 ∀ (pins:List (Addr × Obj)) (s:Shared) (U:St) (H:Hp) (x y:V) (v u:Value) (Q:VK),Inv X pins U H s->RelV x v->RelV y u->t x y H Q->
  wpAny (model X.prog X.w) X.A (inplaceOp op v u) (EP X pins U Q) X.xe s
section
variable{X:Cx}
def YZ(i:Nat):TG:=fun v U H Q=>Q (U.set i (some v)) H
theorem ZL(i:Nat)(hN:X.N.Nodup)(hi:X.N[i]?=some x:=by exact rfl)(hx:Loc X.env.scope x:=by exact Or.inl rfl)(hf:X.fn x=true \/ X.env.scope.names.lookup x=some .local:=by first | exact .inl rfl | exact .inr rfl | assumption):PG X (.Name x pos) (YZ i):=by
 intro pins s U H v u Q I r h;exact wpAny_assign_Name (UO I hN hi hx r (fun s' I'=>⟨_,H,I',h⟩) hf)
def RE:TGs:=fun vs U H Q=>match vs with
 | []=>Q U H
 | _=>False
theorem RE.old(h:RE vs U H Q):vs= []/\Q U H:=by
 match vs,h with
 | [],h=>exact ⟨rfl,h⟩
def Jh(t:TG)(u:TGs):TGs:=fun vs U H Q=>match vs with
 | v::r=>t v U H fun U' H'=>u r U' H' Q
 | _=>False
theorem Jh.old(h:Jh t u vs U H Q):∃ v r,vs=v::r/\t v U H fun U' H'=>u r U' H' Q:=by
 match vs,h with
 | v::r,h=>exact ⟨v,r,rfl,h⟩
theorem YX:PGs X [] RE:=by
 intro pins s U H vs us Q I r h;replace h:=RE.old h;obtain ⟨e,h⟩:=h;subst e;cases r;exact assignInOrder_nil ⟨U,H,I,h⟩
theorem Zf(h1:PG X e t)(h2:PGs X es u)(hs:(assignEach (e::es) X.env).map (·.2)=assign e X.env::(assignEach es X.env).map (·.2):=by rfl):PGs X (e::es) (Jh t u):=by
 intro pins s U H vs us Q I r h;replace h:=Jh.old h;obtain ⟨v,vr,e1,h⟩:=h;subst e1
 cases r with
 | cons r rr=>
  rw [hs];refine assignInOrder_cons (thn (h1 pins s U H _ _ _ I r h) fun _ s1 ⟨σ1,H1,I1,q1⟩=>?_);exact h2 pins s1 σ1 H1 _ _ Q I1 rr q1
def Fu(K:W.Frag)(n:Nat)(t:TGs):TG:=fun v U H Q=>Y6 v fun a=> ∃ xs,SqT K H a xs/\xs.length=n/\t xs U H Q
theorem Yr(hc:X.calm=true)(h:PGs X es t)(hn:(assignEach es X.env).length=n:=by rfl)(hst:(assignEach es X.env).findIdx? (·.1)=none:=by rfl):PG X (.Tuple es k pos) (Fu X.K n t):=by
 intro pins s U H v u Q I r hw;replace hw:=Y6.old hw;obtain ⟨a,e1,xs,hq,hl,hw⟩:=hw;subst e1;cases r;obtain ⟨its,rv,ht,hz⟩:=I.tuple hq;refine assign_Tuple_tuple (I.ok.hd hc) ht (by simp [hn,<-hl,rv.length]) hst fun h' hx=>?_;have I1:Inv X pins U H {s with heap:=h'}:=I.kept (t':=s.toks) fun b o e=>hx b o (O9 (Ow e)) e;exact h pins _ U H xs _ Q I1 (by simpa using rv) hw
def OZ(to ti:TE)(t:L0):TG:=fun v U H Q=>to U H fun o H1=>ti U H1 fun i H2=>t o i v H2 fun H3=>Q U H3
theorem Gw(ho:PE X o to)(hi:PE X i ti)(hs:L1 X t)(ha:∀ v,assign (.Subscript o i pos) X.env v=(do
   let ov <-holding [v] (eval o X.env)
   let iv <-holding [v,ov] (eval i X.env)
   standAt pos
   holding [v,ov,iv] (setItem ov iv v)
   release [v,ov,iv] []):=by intro _;rfl):PG X (.Subscript o i pos) (OZ to ti t):=by
 intro pins s U H v u Q I r h;rw [ha];refine wpAny_bind (wpAny_holding (thn (ho pins s U H _ I h) fun ov s1 ⟨x,H1,I1,r1,q1⟩=>?_));refine wpAny_bind (wpAny_holding (thn (hi pins s1 U H1 _ I1 q1) fun iv s2 ⟨y,H2,I2,r2,q2⟩=>?_));refine wpAny_bind (wpAny_standAt (wpAny_bind (wpAny_holding (thn (hs pins s2 U H2 x y v ov iv u _ I2 r1 r2 r q2) fun _ s3 ⟨H3,I3,q3⟩=>?_))));exact wpAny_release ⟨U,H3,I3,q3⟩
def Tg(te:TE)(g:TG):TS:=fun D U H=>te U H fun x H1=>g x U H1 D.nx
theorem V9(he:PE X e te)(hg:PG X tg g)(hs:swapsWithSole [tg] e pos.line X.env=pure false:=by rfl)(hw:swappedStores [tg] e X.env=pure none:=by rfl)(h1:(assignEach [tg] X.env).map (·.2)= [assign tg X.env]:=by rfl):PS X (.Assign [tg] e pos) (Tg te g):=by
 intro pins s U H D I h;refine wpAny_Assign_stores (thn (he pins s U H _ I h) fun v s1 ⟨x,H1,I1,r1,q1⟩=>?_) hs hw;rw [h1];exact thn (hg pins s1 U H1 x v _ I1 r1 q1) fun _ s2 q=>q
theorem ZM(i:Nat)(hN:X.N.Nodup)(he:PE X e te)(hi:X.N[i]?=some x:=by exact rfl)(hx:Loc X.env.scope x:=by exact Or.inl rfl)(hs:swapsWith e (some (.Name x pos')) pos.line X.env=pure false:=by rfl)(hf:X.fn x=true \/ X.env.scope.names.lookup x=some .local:=by first | exact .inl rfl | exact .inr rfl | assumption):
  PS X (.Assign [.Name x pos'] e pos) (Tg te (YZ i)):=by
 intro pins s U H D I h;refine wpAny_Assign_Name (thn (he pins s U H _ I h) fun v s1 ⟨y,H1,I1,r1,q1⟩=>?_) hs;exact UO I1 hN hi hx r1 (fun s2 I2=>⟨_,H1,I2,q1⟩) hf
def OE(i:Nat)(te:TE)(ti:TIp):TS:=fun D U H=> ∃ x,U[i]?=some (some x)/\te U H fun y H1=>ti x y H1 fun z H2=>D.nx (U.set i (some z)) H2
theorem Bz(hN:X.N.Nodup)(hi:X.N[i]?=some x)(hx:Loc X.env.scope x)(he:PE X e te)(ho:PIp X op ti)(hf:X.fn x=true \/ X.env.scope.names.lookup x=some .local:=by first | exact .inl rfl | exact .inr rfl | assumption):
  PS X (.AugAssign (.Name x pos') op e pos) (OE i te ti):=by
 intro pins s U H D I h;obtain ⟨v,e1,h⟩:=h;obtain ⟨m,hn,hl⟩:=I.loc;have vis:Vis X.env.scope x:=by rcases hx with k | k;exact .inl k;exact .inr (.inl k)
 obtain ⟨u,r,l⟩:=hl i x v hi e1 vis;refine wpAny_AugAssign_Name ?_
 have go:wpAny (model X.prog X.w) X.A (eval e X.env) (fun w s₂=>wpAny (model X.prog X.w) X.A (inplaceOp op u w) (fun r s₃=>wpAny (model X.prog X.w) X.A (storeName X.env x r) (fun _=>SP X pins D .next) X.xe s₃) X.xe s₂) X.xe s:=by
  refine thn (he pins s U H _ I h) fun w s1 ⟨y,H1,I1,r1,q1⟩=>?_;refine thn (ho pins s1 U H1 v y u w _ I1 r r1 q1) fun z s2 ⟨zv,H2,I2,r2,q2⟩=>?_;exact UO I2 hN hi hx r2 (fun s3 I3=>⟨_,H2,I3,q2⟩) hf
 rcases l with ⟨hk,hm⟩ | ⟨hk,c,hc,hcell⟩
 .exact wpAny_loadName_local I.ok.kind hk hn hm go
 .rcases hk with hk | hk
  .exact wpAny_loadName_cell I.ok.kind hk hc hcell go
  .rcases hx with k | k
   .have:X.env.scope.names.lookup x=some .free:=hk
    rw [k] at this;cases this
   .have:X.env.scope.names.lookup x=some .free:=hk
    rw [k] at this;cases this
end
structure It where
 go:Nat->Hp->Prop
 yld:Nat->Hp->V->Hp->Prop
 stop:Nat->Hp->Prop
def Ve(X:Cx)(pins:List (Addr × Obj))(H:Hp)(b:Addr):Prop:=
 H b=none/\b≠X.env.locals/\b ∉ X.fs/\(b∈X.ex \/ X.s₀.heap.objs.size<=b)/\(∀ x c,X.env.cells.lookup x=some c->c≠b)/\∀ p∈X.pn++ pins,p.1≠b
theorem Inv.fpOk(I:Inv X pins U H s)(hb:s.heap.objs.size<=b)(hn:H' b=none):Ve X pins H' b:=by
 refine ⟨hn,Nat.ne_of_gt (Nat.lt_of_lt_of_le I.lt hb),I.nofs hb, .inr (O6 I.sz hb),fun x c e z=>?_,fun p hp z=>?_⟩
 .obtain ⟨v,q⟩:=I.cell x c e
  exact absurd (Nat.lt_of_lt_of_le q.lt (by rw [z];exact hb)) (Nat.lt_irrefl _)
 .exact absurd (Nat.lt_of_lt_of_le (Ow (I.pin p hp).1) (by rw [z];exact hb)) (Nat.lt_irrefl _)
structure Turn(P:Program)(w:World)(K:W.Frag)(tg:Expr)(J:It)(fp:List Addr)(it:Addr)(tn:Nat->Heap->Prop):Prop where
 mem:it∈fp
 obj:∀ i h,tn i h->∀ b∈fp,∃ o,h.get? b=some o/\∀ v,o.data≠ .cell v
 keep:∀ i h h',tn i h->(∀ b∈fp,∀ o,h.get? b=some o->h'.get? b=some o)->tn i h'
 item:∀ (X:Cx),X.prog=P->X.w=w->X.K=K->X.calm=true->∀ (i:Nat) (pins:List (Addr × Obj)) (s:Shared) (U:St) (H:Hp) (E:Value->Shared->Prop),Inv X pins U H s->(∀ b∈fp,Ve X pins H b)->tn i s.heap->J.go i H->
  wpAny (model P w) X.A (pyNext (.ref it)) (fun r s1=> ∃ u,r=some u/\
   wpAny (model P w) X.A (letOwnedTupleGo tg (.ref it) u) (fun _ s2=> ∃ x H',Inv X pins U H' s2/\RelV x u/\J.yld i H x H'/\tn (i + 1) s2.heap/\∀ b∈fp,H' b=none) E s1) E s
 done:∀ (X:Cx),X.prog=P->X.w=w->X.K=K->X.calm=true->∀ (i:Nat) (pins:List (Addr × Obj)) (s:Shared) (U:St) (H:Hp) (E:Value->Shared->Prop),Inv X pins U H s->(∀ b∈fp,Ve X pins H b)->tn i s.heap->J.stop i H->
  wpAny (model P w) X.A (pyNext (.ref it)) (fun r s1=>r=none/\Inv X pins U H s1) E s
 self:∀ (A:Around) (i:Nat) (s:Shared) (Q:Value->Shared->Prop) (E:Value->Shared->Prop),tn i s.heap->Q (.ref it) s->wpAny (model P w) A (pyIter (.ref it)) Q E s
abbrev TI:=St->Hp->(It->Hp->Prop)->Prop
def PIE(X:Cx)(pins:List (Addr × Obj))(U:St)(tg:Expr)(R:It->Hp->Prop)(itv:Value)(s2:Shared):Prop:=
 ∃ (it:Addr) (fp:List Addr) (tn:Nat->Heap->Prop) (J:It) (H':Hp),itv= .ref it/\Inv X pins U H' s2/\Turn X.prog X.w X.K tg J fp it tn/\tn 0 s2.heap/\(∀ b∈fp,Ve X pins H' b)/\R J H'
def PI(X:Cx)(tg iter:Expr)(wi:TI):Prop:=
 ∀ (pins:List (Addr × Obj)) (s:Shared) (U:St) (H:Hp) (R:It->Hp->Prop),Inv X pins U H s->wi U H R->
  wpAny (model X.prog X.w) X.A (eval iter X.env) (fun v s1=>wpAny (model X.prog X.w) X.A (pyIter v) (PIE X pins U tg R) X.xe s1) X.xe s
theorem D7(ho:s.heap.get? it=some o)(hc:o.cls= .type n)(hd:o.data= .fields vs)(hn: ["enumerate","zip","dict_itemiterator","dict_reverseitemiterator","odict_iterator","itertools.zip_longest","itertools.pairwise"].contains n=false)(hQ:Q () s):wpAny M A (letOwnedTupleGo tg (.ref it) u) Q E s:=by
  unfold letOwnedTupleGo;cases tg <;> first
    | exact wpAny_pure hQ
    | (cases u <;> first
        | exact wpAny_pure hQ
        | (refine wpAny_bind (wpAny_load ho ?_)
           rw [hc,hd];show wpAny M A (if (["enumerate","zip","dict_itemiterator","dict_reverseitemiterator","odict_iterator","itertools.zip_longest","itertools.pairwise"].contains n && vs[0]?==some (rawInt _))=true then _ else _) Q E s;rw [if_neg (by intro h;rw [hn,Bool.false_and] at h;cases h)];exact wpAny_pure hQ))
def Itl(K:W.Frag)(a:Addr):It:=
 ⟨fun i H=> ∃ xs x,SqL K H a xs/\xs[i]?=some x,fun i H x H'=>H'=H/\∀ xs,SqL K H a xs->xs[i]?=some x,fun i H=> ∃ xs,SqL K H a xs/\xs.length<=i⟩
def Itt(K:W.Frag)(a:Addr):It:=
 ⟨fun i H=> ∃ xs x,SqT K H a xs/\xs[i]?=some x,fun i H x H'=>H'=H/\∀ xs,SqT K H a xs->xs[i]?=some x,fun i H=> ∃ xs,SqT K H a xs/\xs.length<=i⟩
def Itr(lo:Int)(n:Nat):It:=⟨fun i _=>i < n,fun i H x H'=>H'=H/\x= .int (lo + i),fun i _=>n<=i⟩
theorem NR{P:Program}{w:World}{K:W.Frag}{tg:Expr}(a it:Addr):Turn P w K tg (Itl K a) [it] it (fun i h=>h.IsListIter it a i) where
 mem:=by simp
 obj:=fun i h st b hb=>by
  have e:b=it:=by simpa using hb
  subst e;obtain ⟨o,e,c,d⟩:=st;exact ⟨o,e,fun v z=>by rw [d] at z;cases z⟩
 keep:=fun i h h' st k=>st.at fun o e=>k it (by simp) o e
 item:=by
  intro X hP hw hK hc i pins s U H E I hf st hg;subst hP hw hK;obtain ⟨xs,x,hq,hx⟩:=hg;obtain ⟨its,rv,p,hz⟩:=I.list hq;obtain ⟨u,hu,ru⟩:=rv.get hx;obtain ⟨f0,f1,f2,f3,f4,f5⟩:=hf it (by simp);refine wpAny_pyNext_list_item st p.isList (x:=u) (by simpa using hu) fun h' st' sb=>?_;have I1:Inv X pins U H {s with heap:=h'}:=I.turned (t':=s.toks) (fun b o hb e=>(sb.2 b hb).trans e) f0 f1 f3 f4 f5;obtain ⟨o,e,c,d⟩:=id st';exact ⟨u,rfl,D7 (s:={s with heap:=h'}) e c d (by decide) ⟨x,H,I1,ru,⟨rfl,fun ys hy=>by rw [I.list_inj hy hq];exact hx⟩,st',fun b hb=>(hf b hb).1⟩⟩
 done:=by
  intro X hP hw hK hc i pins s U H E I hf st hg;subst hP hw hK;obtain ⟨xs,hq,hx⟩:=hg;obtain ⟨its,rv,p,hz⟩:=I.list hq;obtain ⟨f0,f1,f2,f3,f4,f5⟩:=hf it (by simp);have hl:=rv.length;exact wpAny_pyNext_list_end (I.ok.hd hc) st p.isList (by simp;omega) fun h' eb=>⟨rfl,I.turned (t':=s.toks) (fun b o hb e=>eb b o hb e) f0 f1 f3 f4 f5⟩
 self:=fun _ _ _ _ _ st h=>wpAny_pyIter_listiter st h
theorem RU{P:Program}{w:World}{K:W.Frag}{tg:Expr}(a it:Addr):Turn P w K tg (Itt K a) [it] it (fun i h=>h.IsTupleIter it a i) where
 mem:=by simp
 obj:=fun i h st b hb=>by
  have e:b=it:=by simpa using hb
  subst e;obtain ⟨o,e,c,d⟩:=st;exact ⟨o,e,fun v z=>by rw [d] at z;cases z⟩
 keep:=fun i h h' st k=>st.at fun o e=>k it (by simp) o e
 item:=by
  intro X hP hw hK hc i pins s U H E I hf st hg;subst hP hw hK;obtain ⟨xs,x,hq,hx⟩:=hg;obtain ⟨its,rv,p,hz⟩:=I.tuple hq;obtain ⟨u,hu,ru⟩:=rv.get hx;obtain ⟨f0,f1,f2,f3,f4,f5⟩:=hf it (by simp);refine wpAny_pyNext_tuple_item st (show s.heap.IsTuple a its.toArray from p) (x:=u) (by simpa using hu) fun h' st' sb=>?_;have I1:Inv X pins U H {s with heap:=h'}:=I.turned (t':=s.toks) (fun b o hb e=>(sb.2 b hb).trans e) f0 f1 f3 f4 f5;obtain ⟨o,e,c,d⟩:=id st';exact ⟨u,rfl,D7 (s:={s with heap:=h'}) e c d (by decide) ⟨x,H,I1,ru,⟨rfl,fun ys hy=>by rw [I.tuple_inj hy hq];exact hx⟩,st',fun b hb=>(hf b hb).1⟩⟩
 done:=by
  intro X hP hw hK hc i pins s U H E I hf st hg;subst hP hw hK;obtain ⟨xs,hq,hx⟩:=hg;obtain ⟨its,rv,p,hz⟩:=I.tuple hq;obtain ⟨f0,f1,f2,f3,f4,f5⟩:=hf it (by simp);have hl:=rv.length;exact wpAny_pyNext_tuple_end (I.ok.hd hc) st (show s.heap.IsTuple a its.toArray from p) (by simp;omega) fun h' eb=>⟨rfl,I.turned (t':=s.toks) (fun b o hb e=>eb b o hb e) f0 f1 f3 f4 f5⟩
 self:=fun _ _ _ _ _ st h=>wpAny_pyIter_tupleiter st h
theorem RV{P:Program}{w:World}{K:PySem.W.Frag}{tg:Expr}(it:Addr)(lo:Int)(n:Nat):Turn P w K tg (Itr lo n) [it] it (fun i h=>IsRangeIter h it (lo + (i:Nat) * 1) ((n:Int) - (i:Nat)) 1) where
 mem:=by simp
 obj:=fun i h st b hb=>by
  have e:b=it:=by simpa using hb
  subst e
  exact ⟨_,st,fun v z=>by
   have z':Data.fields _=Data.cell v:=z;cases z'⟩
 keep:=fun i h h' st k=>k it (by simp) _ st
 item:=by
  intro X hP hw hK hc i pins s U H E I hf st hg;subst hP hw hK;obtain ⟨f0,f1,f2,f3,f4,f5⟩:=hf it (by simp);have W:=Walks.range (prog:=X.prog) (w:=X.w) (I.ok.hd hc) it lo 1 n;refine W.item i s _ _ hg st fun v h' tk hv st' kk=>?_;obtain ⟨t,rfl⟩:=hv;have I1:Inv X pins U H {s with heap:=h',toks:=tk}:=I.turned (fun b o hb e=>kk b o (by simpa using hb) e) f0 f1 f3 f4 f5;refine ⟨_,rfl,D7 (s:={s with heap:=h',toks:=tk}) (n:="range_iterator") st' rfl rfl (by decide) ⟨.int (lo + i),H,I1,⟨t,?_⟩,⟨rfl,rfl⟩,st',fun b hb=>(hf b hb).1⟩⟩;rw [Int.mul_one]
 done:=by
  intro X hP hw hK hc i pins s U H E I hf st hg;subst hP hw hK;obtain ⟨f0,f1,f2,f3,f4,f5⟩:=hf it (by simp);exact wpAny_pyNext_range_end (I.ok.hd hc) st (by have:n<=i:=hg;omega) fun h' eb=>⟨rfl,I.turned (t':=s.toks) (fun b o hb e=>eb b o hb e) f0 f1 f3 f4 f5⟩
 self:=fun _ _ _ _ _ st h=>wpAny_pyIter_rangeiter st h
end L2
namespace L2
open PySem PySem.Spec PyProof.Rows
section
def Dz(K:W.Frag)(tl:TE):TI:=fun U H R=>tl U H fun x H1=>Y6 x fun a=>(∃ xs,SqL K H1 a xs)/\R (Itl K a) H1
def OU(K:W.Frag)(tl:TE):TI:=fun U H R=>tl U H fun x H1=>Y6 x fun a=>(∃ xs,SqT K H1 a xs)/\R (Itt K a) H1
theorem Yk(hl:PE X l tl):PI X tg l (Dz X.K tl):=by
 intro pins s U H R I h;refine thn (hl pins s U H _ I h) fun v s1 ⟨x,H1,I1,r1,q1⟩=>?_;replace q1:=Y6.old q1;obtain ⟨a,e,⟨xs,hq⟩,q⟩:=q1;subst e;cases r1;obtain ⟨its,rv,p,hz⟩:=I1.list hq;refine wpAny_pyIter_list p.isList ?_;refine ⟨s1.heap.objs.size, [s1.heap.objs.size],_,_,H1,rfl,I1.kept (t':=s1.toks) fun b o e=>Oj _ e,NR a _,⟨_,O3 _ rfl,rfl,rfl⟩,fun b hb=>?_,q⟩;have e:b=s1.heap.objs.size:=by simpa using hb
 subst e;exact I1.fpOk (Om _) (I1.hok.fresh (Om _))
theorem JA(hl:PE X l tl):PI X tg l (OU X.K tl):=by
 intro pins s U H R I h;refine thn (hl pins s U H _ I h) fun v s1 ⟨x,H1,I1,r1,q1⟩=>?_;replace q1:=Y6.old q1;obtain ⟨a,e,⟨xs,hq⟩,q⟩:=q1;subst e;cases r1;obtain ⟨its,rv,p,hz⟩:=I1.tuple hq;refine wpAny_pyIter_tuple (show s1.heap.IsTuple a its.toArray from p) ?_;refine ⟨s1.heap.objs.size, [s1.heap.objs.size],_,_,H1,rfl,I1.kept (t':=s1.toks) fun b o e=>Oj _ e,RU a _,⟨_,O3 _ rfl,rfl,rfl⟩,fun b hb=>?_,q⟩;have e:b=s1.heap.objs.size:=by simpa using hb
 subst e;exact I1.fpOk (Om _) (I1.hok.fresh (Om _))
theorem Bu{lo hi:Int}(I:Inv X pins U H s)(h1: -(2 ^ 62)<=lo)(h2:lo < 2 ^ 62)(h3: -(2 ^ 62)<=hi)(h4:hi < 2 ^ 62)(q:R (Itr lo (hi - lo).toNat) H):wpAny (model X.prog X.w) X.A (pyIter (.ref s.heap.objs.size)) (PIE X pins U tg R) E {s with heap:=s.heap.push {cls:= .type "range",data:= .fields #[.int lo t, .int hi u, .int 1 v]},toks:=tk}:=by
 refine wpAny_pyIter_range (IsRange.new ..) (small_one h1 h2 h3 h4) ?_;have I1:Inv X pins U H {s with heap:=s.heap.push {cls:= .type "range",data:= .fields #[.int lo t, .int hi u, .int 1 v]},toks:=tk}:=I.kept fun b o e=>Oj _ e;refine ⟨(s.heap.push {cls:= .type "range",data:= .fields #[.int lo t, .int hi u, .int 1 v]}).objs.size, [(s.heap.push {cls:= .type "range",data:= .fields #[.int lo t, .int hi u, .int 1 v]}).objs.size],_,_,H,rfl,
  I1.kept (t':=tk) fun b o e=>Oj _ e,RV _ lo (hi - lo).toNat,?_,fun b hb=>?_,q⟩
 .have e1:lo + ((0:Nat):Int) * 1=lo:=by simp
  have e2:(((hi - lo).toNat:Nat):Int) - ((0:Nat):Int)=Builtin.Range.rangeSize lo hi 1:=by rw [rangeSize_one];split <;> omega
  show IsRangeIter _ _ (lo + ((0:Nat):Int) * 1) ((((hi - lo).toNat:Nat):Int) - ((0:Nat):Int)) 1;rw [e1,e2];exact O3 _ rfl
 .have e:b=(s.heap.push {cls:= .type "range",data:= .fields #[.int lo t, .int hi u, .int 1 v]}).objs.size:=by simpa using hb
  subst e;exact I1.fpOk (Om _) (I1.hok.fresh (Om _))
def Lq(ta:TA):TI:=fun U H R=>ta U H fun vs H1=> ∃ j:Int,vs= [.int j]/\ -(2 ^ 62)<=j/\j < 2 ^ 62/\R (Itr 0 j.toNat) H1
theorem VN(hg:Gl X "range")(hm:X.mg "range" =none)(ha:PA X [a] ta)(hs:starEach [a] X.env= [(false,eval a X.env)]:=by rfl):PI X tg (.Call (.Name "range" p) [a] [] pos) (Lq ta):=by
 intro pins s U H R I h;refine Call_ (Uw I hg hm boot_range (PyProof.Rows.callWith_type1 (thn (ha pos pins s U H _ I h) fun us s1 ⟨vs,H1,I1,r1,q1⟩=>?_) hs rfl));obtain ⟨j,e,q1,q2,q⟩:=q1;subst e
 cases r1 with
 | cons r rr=>
  cases rr;obtain ⟨t,rfl⟩:=r;exact call_range_1 (Bu I1 (by omega) (by omega) q1 q2 (by simpa using q))
def Vg(wi:TI)(g:TG)(tb:TS):TS:=fun D U H=>wi U H fun J H1=> ∃ W:Nat->Nat->St->Hp->Prop,(∃ m,W 0 m U H1)/\∀ i m U H,W i m U H->
 (J.stop i H/\D.nx U H) \/ (J.go i H/\∃ N:St->Hp->Prop,(∀ U' H',N U' H'->∃ m',m' < m/\W (i + 1) m' U' H')/\∀ x H',J.yld i H x H'->g x U H' fun σ2 H2=>tb {D with nx:=N,ct:=N,bk:=D.nx} σ2 H2)
def Z1(fp:List Addr)(h:Heap):List (Addr × Obj):=fp.filterMap fun b=>(h.get? b).map fun o=>(b,o)
theorem YT(hb:b∈fp)(e:h.get? b=some o):(b,o)∈Z1 fp h:=List.mem_filterMap.mpr ⟨b,hb,by rw [e];rfl⟩
theorem Jx(hp:p∈Z1 fp h):p.1∈fp/\h.get? p.1=some p.2:=by
 obtain ⟨b,hb,e⟩:=List.mem_filterMap.mp hp
 cases q:h.get? b with
 | none=>rw [q] at e;cases e
 | some o=>
  rw [q] at e;have e':(b,o)=p:=Oy e;subst e';exact ⟨hb,q⟩
theorem Inv.pinned(I:Inv X pins U H s)(hf:∀ b∈fp,Ve X pins H b)(ho:∀ b∈fp,∃ o,s.heap.get? b=some o/\∀ v,o.data≠ .cell v):Inv X (pins++ Z1 fp s.heap) U H s:=
 I.pins_of fun p hp=>(O2.mp hp).elim (fun z=>I.pin p (Oz _ z)) fun z=>by
  obtain ⟨hb,e⟩:=Jx z;obtain ⟨f0,f1,f2,_⟩:=hf p.1 hb;obtain ⟨o,e',d⟩:=ho p.1 hb;rw [e] at e';cases e';exact ⟨e,f0,f1,f2,d⟩
theorem Inv.unpinned(I:Inv X (pins++ pl) U H s):Inv X pins U H s:=I.pins_of fun p hp=>I.pin p (Oz _ (List.mem_append_left _ hp))
theorem Yb(hp:PassesOwn (model X.prog X.w) X.A X.env X.xe)(hc:X.calm=true)(hi:PI X tg iter wi)(hg:PG X tg g)(hb:PSs X body tb)(hs:∀ x,foldedSetIterable iter X.env x=pure x:=by intro _;rfl):PS X (.For tg iter body [] pos) (Vg wi g tb):=by
 intro pins s U H D I h;refine wpAny_For (thn (hi pins s U H _ I h) fun v s1 h1=>thn h1 fun itv s2 h2=>?_) hs;obtain ⟨it,fp,tn,J,H2,e,I2,T,st2,f2,W,⟨m0,w0⟩,turn⟩:=h2;subst e;have stat:∀ {H':Hp},(∀ b∈fp,H' b=none)->∀ b∈fp,Ve X pins H' b:=fun hn b hb=>⟨hn b hb,(f2 b hb).2⟩;refine codeAny_forLoop_any (fun n s'=> ∃ i U' H',Inv X pins U' H' s'/\tn i s'.heap/\(∀ b∈fp,H' b=none)/\W i n U' H') ?_ m0 ⟨0,U,H2,I2,st2,fun b hb=>(f2 b hb).1,w0⟩;rintro n s3 ⟨i,σ3,H3,I3,st3,fr3,w3⟩;rcases turn i n σ3 H3 w3 with ⟨stop,qn⟩ | ⟨go,N,hN,step⟩
 .refine wpAny_passesOwn hp (thn (T.done X rfl rfl rfl hc i pins s3 σ3 H3 X.xe I3 (stat fr3) st3 stop) fun r s4 ⟨hr,I4⟩=>?_)
  subst hr;exact wpAny_execs_nil ⟨σ3,H3,I4,qn⟩
 .refine wpAny_passesOwn hp (thn (T.item X rfl rfl rfl hc i pins s3 σ3 H3 X.xe I3 (stat fr3) st3 go) fun r s4 ⟨u,hr,h4⟩=>?_)
  subst hr;refine wpAny_passesOwn hp (thn h4 fun _ s5 ⟨x,H5,I5,r5,y5,st5,fr5⟩=>?_);have I5':=I5.pinned (stat fr5) (T.obj _ _ st5);refine wpAny_passesOwn hp (thn (hg _ s5 σ3 H5 x u _ I5' r5 (step x H5 y5)) fun _ s6 ⟨σ6,H6,I6,q6⟩=>?_);refine wpAny_passesOwn hp (thn (hb _ s6 σ6 H6 _ I6 q6) fun f s7 q7=>?_)
  have again:∀ {σ7:St}{H7:Hp},Inv X (pins++ Z1 fp s5.heap) σ7 H7 s7->N σ7 H7->∃ m,m < n/\∃ i U' H',Inv X pins U' H' s7/\tn i s7.heap/\(∀ b∈fp,H' b=none)/\W i m U' H':=fun {σ7 H7} I7 n7=>by
   obtain ⟨m',hm,w7⟩:=hN σ7 H7 n7;refine ⟨m',hm,i + 1,σ7,H7,I7.unpinned,T.keep _ _ _ st5 fun b hb o e=>(I7.pin (b,o) (Oz _ (Oz _ (YT hb e)))).1,fun b hb=>?_,w7⟩;obtain ⟨o,e,d⟩:=T.obj _ _ st5 b hb;exact (I7.pin (b,o) (Oz _ (Oz _ (YT hb e)))).2.1
  cases f with
  | next=>obtain ⟨σ7,H7,I7,n7⟩:=q7;exact again I7 n7
  | cont=>obtain ⟨σ7,H7,I7,n7⟩:=q7;exact again I7 n7
  | brk=>obtain ⟨σ7,H7,I7,q7⟩:=q7;exact ⟨σ7,H7,I7.unpinned,q7⟩
  | ret v=>obtain ⟨x7,σ7,H7,I7,r7,q7⟩:=q7;exact ⟨x7,σ7,H7,I7.unpinned,r7,q7⟩
end
theorem EF{K:PySem.W.Frag}{g:TG}{tb:TS}{D:Ends}(Pv:Nat->St->Hp->Prop)(h0:Pv 0 U H)(hl:∀ i U H,i<=xs.length->Pv i U H->SqL K H a xs)(hs:∀ i x U H,xs[i]?=some x->Pv i U H->g x U H fun σ2 H2=>tb {D with nx:=Pv (i + 1),ct:=Pv (i + 1),bk:=D.nx} σ2 H2)(hd:∀ U H,Pv xs.length U H->D.nx U H):
  ∃ W:Nat->Nat->St->Hp->Prop,(∃ m,W 0 m U H)/\∀ i m U H,W i m U H->
   ((Itl K a).stop i H/\D.nx U H) \/ ((Itl K a).go i H/\∃ N:St->Hp->Prop,(∀ U' H',N U' H'->∃ m',m' < m/\W (i + 1) m' U' H')/\∀ x H',(Itl K a).yld i H x H'->g x U H' fun σ2 H2=>tb {D with nx:=N,ct:=N,bk:=D.nx} σ2 H2):=by
 refine ⟨fun i m U H=>m=xs.length - i/\i<=xs.length/\Pv i U H,⟨xs.length,by simp,O7 _,h0⟩,?_⟩;rintro i m U H ⟨rfl,hi,p⟩;have q:=hl i U H hi p
 by_cases hlt:i < xs.length
 .refine .inr ⟨⟨xs,xs[i],q,by simp [hlt]⟩,Pv (i + 1),fun U' H' p'=>⟨xs.length - (i + 1),by omega,rfl,hlt,p'⟩,fun x H' y=>?_⟩
  obtain ⟨e,y⟩:=y;subst e;exact hs i x U _ (y xs q) p
 .have e:i=xs.length:=by omega
  subst e;exact .inl ⟨⟨xs,q,Om _⟩,hd U H p⟩
theorem ND{K:PySem.W.Frag}{g:TG}{tb:TS}{D:Ends}(Pv:Nat->St->Hp->Prop)(h0:Pv 0 U H)(hl:∀ i U H,i<=xs.length->Pv i U H->SqT K H a xs)(hs:∀ i x U H,xs[i]?=some x->Pv i U H->g x U H fun σ2 H2=>tb {D with nx:=Pv (i + 1),ct:=Pv (i + 1),bk:=D.nx} σ2 H2)(hd:∀ U H,Pv xs.length U H->D.nx U H):
  ∃ W:Nat->Nat->St->Hp->Prop,(∃ m,W 0 m U H)/\∀ i m U H,W i m U H->
   ((Itt K a).stop i H/\D.nx U H) \/ ((Itt K a).go i H/\∃ N:St->Hp->Prop,(∀ U' H',N U' H'->∃ m',m' < m/\W (i + 1) m' U' H')/\∀ x H',(Itt K a).yld i H x H'->g x U H' fun σ2 H2=>tb {D with nx:=N,ct:=N,bk:=D.nx} σ2 H2):=by
 refine ⟨fun i m U H=>m=xs.length - i/\i<=xs.length/\Pv i U H,⟨xs.length,by simp,O7 _,h0⟩,?_⟩;rintro i m U H ⟨rfl,hi,p⟩;have q:=hl i U H hi p
 by_cases hlt:i < xs.length
 .refine .inr ⟨⟨xs,xs[i],q,by simp [hlt]⟩,Pv (i + 1),fun U' H' p'=>⟨xs.length - (i + 1),by omega,rfl,hlt,p'⟩,fun x H' y=>?_⟩
  obtain ⟨e,y⟩:=y;subst e;exact hs i x U _ (y xs q) p
 .have e:i=xs.length:=by omega
  subst e;exact .inl ⟨⟨xs,q,Om _⟩,hd U H p⟩
theorem N8{lo:Int}{g:TG}{tb:TS}{D:Ends}(Pv:Nat->St->Hp->Prop)(h0:Pv 0 U H)(hs:∀ i U H,i < n->Pv i U H->g (.int (lo + i)) U H fun σ2 H2=>tb {D with nx:=Pv (i + 1),ct:=Pv (i + 1),bk:=D.nx} σ2 H2)(hd:∀ U H,Pv n U H->D.nx U H):
  ∃ W:Nat->Nat->St->Hp->Prop,(∃ m,W 0 m U H)/\∀ i m U H,W i m U H->
   ((Itr lo n).stop i H/\D.nx U H) \/ ((Itr lo n).go i H/\∃ N:St->Hp->Prop,(∀ U' H',N U' H'->∃ m',m' < m/\W (i + 1) m' U' H')/\∀ x H',(Itr lo n).yld i H x H'->g x U H' fun σ2 H2=>tb {D with nx:=N,ct:=N,bk:=D.nx} σ2 H2):=by
 refine ⟨fun i m U H=>m=n - i/\i<=n/\Pv i U H,⟨n,by simp,O7 _,h0⟩,?_⟩;rintro i m U H ⟨rfl,hi,p⟩
 by_cases hlt:i < n
 .refine .inr ⟨hlt,Pv (i + 1),fun U' H' p'=>⟨n - (i + 1),by omega,rfl,hlt,p'⟩,fun x H' y=>?_⟩
  obtain ⟨e,y⟩:=y;subst e y;exact hs i U _ hlt p
 .have e:i=n:=by omega
  subst e;exact .inl ⟨Om _,hd U H p⟩
end L2
namespace L2
open PySem PySem.Spec PyProof.Rows
abbrev R2:=V->V->Hp->VK->Prop
def OpR(X:Cx)(f:Value->Value->Sem Value)(r:R2):Prop:=
 ∀ (pins:List (Addr × Obj)) (s:Shared) (U:St) (H:Hp) (x y:V) (v u:Value) (Q:VK),Inv X pins U H s->RelV x v->RelV y u->r x y H Q->
  wpAny (model X.prog X.w) X.A (f v u) (EP X pins U Q) X.xe s
def UnR(X:Cx)(f:Value->Sem Value)(r:V->Hp->VK->Prop):Prop:=
 ∀ (pins:List (Addr × Obj)) (s:Shared) (U:St) (H:Hp) (x:V) (v:Value) (Q:VK),Inv X pins U H s->RelV x v->r x H Q->
  wpAny (model X.prog X.w) X.A (f v) (EP X pins U Q) X.xe s
def VB(X:Cx)(f:Value)(r:List V->Hp->VK->Prop):Prop:=
 ∀ (pins:List (Addr × Obj)) (s:Shared) (U:St) (H:Hp) (xs:List V) (us:List Value) (Q:VK),Inv X pins U H s->Vals xs us->r xs H Q->
  wpAny (model X.prog X.w) X.A (call f us) (EP X pins U Q) X.xe s
def tOp(r:R2)(ta tb:TE):TE:=fun U H Q=>ta U H fun x H1=>tb U H1 fun y H2=>r x y H2 Q
def tUn(r:V->Hp->VK->Prop)(ta:TE):TE:=fun U H Q=>ta U H fun x H1=>r x H1 Q
def rI(C:Int->Int->Prop)(g:Int->Int->V):R2:=fun x y H Q=>Vw x fun i=>Vw y fun j=>C i j/\Q (g i j) H
theorem rI.old(h:rI C g x y H Q):∃ i j,x= .int i/\y= .int j/\C i j/\Q (g i j) H:=by
 replace h:=Vw.old h;obtain ⟨i,e,h⟩:=h;replace h:=Vw.old h;obtain ⟨j,e',h⟩:=h;exact ⟨i,j,e,e',h⟩
def rI0(g:Int->Int->V):R2:=fun x y H Q=>Vw x fun i=>Vw y fun j=>Q (g i j) H
theorem rI0.old(h:rI0 g x y H Q):∃ i j,x= .int i/\y= .int j/\Q (g i j) H:=by
 replace h:=Vw.old h;obtain ⟨i,e,h⟩:=h;replace h:=Vw.old h;obtain ⟨j,e',h⟩:=h;exact ⟨i,j,e,e',h⟩
def rU(g:Int->V):V->Hp->VK->Prop:=fun x H Q=> ∃ i,x= .int i/\Q (g i) H
section
theorem LD(ha:PE X a ta)(hb:PE X b tb){R:V->V->Hp->Prop}(I:Inv X pins U H s)(h:ta U H fun x H1=>tb U H1 fun y H2=>R x y H2){f:Value->Value->Sem Value}(hf:∀ v u s2 x y H2,Inv X pins U H2 s2->RelV x v->RelV y u->R x y H2->wpAny (model X.prog X.w) X.A (f v u) Q X.xe s2):
  wpAny (model X.prog X.w) X.A (eval a X.env) (fun v s₁=>wpAny (model X.prog X.w) X.A (eval b X.env) (fun u s₂=>wpAny (model X.prog X.w) X.A (f v u) Q X.xe s₂) X.xe s₁) X.xe s:=by
 refine thn (ha pins s U H _ I h) fun v s1 ⟨x,H1,I1,r1,q1⟩=>?_;refine thn (hb pins s1 U H1 _ I1 q1) fun u s2 ⟨y,H2,I2,r2,q2⟩=>?_;exact hf v u s2 x y H2 I2 r1 r2 q2
theorem ZX(ho:OpR X (binaryOp op) r)(ha:PE X a ta)(hb:PE X b tb):PE X (.BinOp a op b pos) (tOp r ta tb):=by
 intro pins s U H Q I h;exact wpAny_BinOp (LD ha hb I h fun v u s2 x y H2 I2 rx ry q=>ho pins s2 U H2 x y v u Q I2 rx ry q)
theorem Mw(ho:UnR X (unaryOp op) r)(ha:PE X a ta):PE X (.UnaryOp op a pos) (tUn r ta):=by
 intro pins s U H Q I h;exact UnaryOp_ (thn (ha pins s U H _ I h) fun v s1 ⟨x,H1,I1,r1,q1⟩=>ho pins s1 U H1 x v Q I1 r1 q1)
theorem opI{g:Int->Int->Int}(rule:∀ (i j:Int) (t u:Tok) (s:Shared) (Q:Value->Shared->Prop) (E:Value->Shared->Prop),C i j->Q (.int (g i j) s.toks) {s with toks:=s.toks + 1}->wpAny (model X.prog X.w) X.A (f (.int i t) (.int j u)) Q E s):
  OpR X f (rI C fun i j=> .int (g i j)):=by
 intro pins s U H x y v u Q I rx ry h;replace h:=rI.old h;obtain ⟨i,j,rfl,rfl,hc,q⟩:=h;obtain ⟨t,rfl⟩:=rx;obtain ⟨t',rfl⟩:=ry;exact rule i j t t' s _ _ hc ⟨.int (g i j),H,I.tok _,⟨_,rfl⟩,q⟩
theorem Kg{g:Int->Int->Int}(rule:∀ (i j:Int) (t u:Tok) (s:Shared) (Q:Value->Shared->Prop) (E:Value->Shared->Prop),Q (.int (g i j) s.toks) {s with toks:=s.toks + 1}->wpAny (model X.prog X.w) X.A (f (.int i t) (.int j u)) Q E s):
  OpR X f (rI0 fun i j=> .int (g i j)):=by
 intro pins s U H x y v u Q I rx ry h;replace h:=rI0.old h;obtain ⟨i,j,rfl,rfl,q⟩:=h;obtain ⟨t,rfl⟩:=rx;obtain ⟨t',rfl⟩:=ry;exact rule i j t t' s _ _ ⟨.int (g i j),H,I.tok _,⟨_,rfl⟩,q⟩
theorem FQ{g:Int->Int->Bool}(rule:∀ (i j:Int) (t u:Tok) (s:Shared) (Q:Value->Shared->Prop) (E:Value->Shared->Prop),Q (.bool (g i j)) s->wpAny (model X.prog X.w) X.A (f (.int i t) (.int j u)) Q E s):
  OpR X f (rI0 fun i j=> .bl (g i j)):=by
 intro pins s U H x y v u Q I rx ry h;replace h:=rI0.old h;obtain ⟨i,j,rfl,rfl,q⟩:=h;obtain ⟨t,rfl⟩:=rx;obtain ⟨t',rfl⟩:=ry;exact rule i j t t' s _ _ ⟨.bl (g i j),H,I,rfl,q⟩
def Og(i j:Int):Prop:=0 < j/\j < 1073741824
def L4(i j:Int):Prop:=0<=j/\j<=1000000/\i.natAbs < 2 ^ 64
def IV(i j:Int):Prop:=(-(2 ^ 64) < i/\i < 2 ^ 64) \/ (-(2 ^ 64) < j/\j < 2 ^ 64)
theorem IV.ok(h:IV i j):IntMulOk i j:=by
 rcases h with ⟨h1,h2⟩ | ⟨h1,h2⟩
 .exact .of_left (intBits_le_64 h1 h2)
 .exact .of_right (intBits_le_64 h1 h2)
theorem YC:OpR X (binaryOp .Add) (rI0 fun i j=> .int (i + j)):=Kg fun _ _ _ _ _ _ _ q=>add_int q
theorem Va:OpR X (binaryOp .Sub) (rI0 fun i j=> .int (i - j)):=Kg fun _ _ _ _ _ _ _ q=>sub_int q
theorem Y7:OpR X (binaryOp .Mult) (rI IV fun i j=> .int (i * j)):=opI fun _ _ _ _ _ _ _ hc q=>mul_int q hc.ok
theorem Mz:OpR X (binaryOp .FloorDiv) (rI Og fun i j=> .int (i / j)):=opI fun i j _ _ _ _ _ hc q=>by
 have h1:(0:Int) < j:=hc.1;have h2:j < 1073741824:=hc.2;exact floordiv_int (by omega) (by rw [Int.fdiv_eq_ediv_of_nonneg i (by omega)];exact q) (.inl (PyProof.noPylong_small (by omega)))
theorem Vs:OpR X (binaryOp .Mod) (rI (fun _ j=>0 < j) fun i j=> .int (i % j)):=opI fun i j _ _ _ _ _ hc q=>by
 have h1:(0:Int) < j:=hc;exact mod_int' (by omega) (by rw [Int.fmod_eq_emod_of_nonneg i (by omega)];exact q)
theorem B6:OpR X (binaryOp .Pow) (rI L4 fun i j=> .int (i ^ j.toNat)):=opI fun _ _ _ _ _ _ _ hc q=>pow_int_small hc.1 hc.2.1 hc.2.2 q
theorem Fm:OpR X (inplaceOp .Add) (rI0 fun i j=> .int (i + j)):=Kg fun _ _ _ _ _ _ _ q=>iadd_int q
theorem Fl:OpR X (inplaceOp .Mult) (rI IV fun i j=> .int (i * j)):=opI fun _ _ _ _ _ _ _ hc q=>imul_int q hc.ok
theorem unI{g:Int->Int}(rule:∀ (i:Int) (t:Tok) (s:Shared) (Q:Value->Shared->Prop) (E:Value->Shared->Prop),Q (.int (g i) s.toks) {s with toks:=s.toks + 1}->wpAny (model X.prog X.w) X.A (f (.int i t)) Q E s):
  UnR X f (rU fun i=> .int (g i)):=by
 intro pins s U H x v Q I rx h;obtain ⟨i,rfl,q⟩:=h;obtain ⟨t,rfl⟩:=rx;exact rule i t s _ _ ⟨.int (g i),H,I.tok _,⟨_,rfl⟩,q⟩
theorem W7:UnR X (unaryOp .USub) (rU fun i=> .int (-i)):=unI fun _ _ _ _ _ q=>neg_int q
end
def LU:V->V->Bool
 | .non, .non=>true | .non, .int _=>true | .int _, .non=>true | .non, .bl _=>true | .bl _, .non=>true | .non, .str _=>true | .str _, .non=>true
 | .int _, .int _=>true | .bl _, .bl _=>true | .str _, .str _=>true | .byt _, .byt _=>true
 | .int _, .str _=>true | .str _, .int _=>true | .bl _, .str _=>true | .str _, .bl _=>true
 | _,_=>false
def rEq:R2:=fun x y H Q=>LU x y=true/\Q (.bl (decide (x=y))) H
def rNe:R2:=fun x y H Q=>LU x y=true/\Q (.bl (!decide (x=y))) H
theorem TD:decide (V.int i=V.int j)=(i==j):=by
 rw [Bool.eq_iff_iff];simp
theorem MT:decide (V.bl i=V.bl j)=(i==j):=by
 rw [Bool.eq_iff_iff];simp
theorem G9:decide (V.str i=V.str j)=(i==j):=by
 rw [Bool.eq_iff_iff];simp
theorem NM:decide (V.byt i=V.byt j)=(i.toList==j.toList):=by
 rw [Bool.eq_iff_iff];cases i;cases j;simp
section
variable{a b c:Expr}{ta tb tc:TE}
theorem Zw(I:Inv X pins U H s)(q:Q (.bl k) H)(e:k=k'):EP X pins U Q (.bool k') s:=by
 subst e;exact ⟨.bl k,H,I,rfl,q⟩
theorem YN:OpR X (compareOp .Eq) rEq:=by
 intro pins s U H x y v u Q I rx ry h;obtain ⟨hs,q⟩:=h
 cases x with
 | non=>
  cases rx
  cases y with
  | non=>cases ry;exact PySem.EqNone.eq_none_none (Zw I q (by simp))
  | bl j=>cases ry;exact PySem.EqNone.eq_none_bool (Zw I q (by simp))
  | int j=>obtain ⟨t',rfl⟩:=ry;exact PySem.EqNone.eq_none_int (Zw I q (by simp))
  | str j=>obtain ⟨t',rfl⟩:=ry;exact PySem.EqNone.eq_none_str (Zw I q (by simp))
  | _=>exact absurd (show false=true from hs) PH
 | bl i=>
  cases rx
  cases y with
  | non=>cases ry;exact PySem.EqNone.eq_bool_none (Zw I q (by simp))
  | bl j=>cases ry;exact eq_bool (Zw I q MT)
  | str j=>obtain ⟨t',rfl⟩:=ry;exact PySem.EqMixed.eq_bool_str (Zw I q (by simp))
  | _=>exact absurd (show false=true from hs) PH
 | int i=>
  obtain ⟨t,rfl⟩:=rx
  cases y with
  | non=>cases ry;exact PySem.EqNone.eq_int_none (Zw I q (by simp))
  | int j=>obtain ⟨t',rfl⟩:=ry;exact eq_int (Zw I q TD)
  | str j=>obtain ⟨t',rfl⟩:=ry;exact PySem.EqMixed.eq_int_str (Zw I q (by simp))
  | _=>exact absurd (show false=true from hs) PH
 | str i=>
  obtain ⟨t,rfl⟩:=rx
  cases y with
  | non=>cases ry;exact PySem.EqNone.eq_str_none (Zw I q (by simp))
  | bl j=>cases ry;exact PySem.EqMixed.eq_str_bool (Zw I q (by simp))
  | int j=>obtain ⟨t',rfl⟩:=ry;exact PySem.EqMixed.eq_str_int (Zw I q (by simp))
  | str j=>obtain ⟨t',rfl⟩:=ry;exact eq_str (Zw I q G9)
  | _=>exact absurd (show false=true from hs) PH
 | byt i=>
  obtain ⟨t,rfl⟩:=rx
  cases y with
  | byt j=>obtain ⟨t',rfl⟩:=ry;exact W.eq_bytes (Zw I q NM)
  | _=>exact absurd (show false=true from hs) PH
 | _=>cases y <;> exact absurd (show false=true from hs) PH
theorem B7:OpR X (compareOp .NotEq) rNe:=by
 intro pins s U H x y v u Q I rx ry h;obtain ⟨hs,q⟩:=h
 cases x with
 | non=>
  cases rx
  cases y with
  | non=>cases ry;exact PySem.EqNone.ne_none_none (Zw I q (by simp))
  | bl j=>cases ry;exact PySem.EqNone.ne_none_bool (Zw I q (by simp))
  | int j=>obtain ⟨t',rfl⟩:=ry;exact PySem.EqNone.ne_none_int (Zw I q (by simp))
  | str j=>obtain ⟨t',rfl⟩:=ry;exact PySem.EqNone.ne_none_str (Zw I q (by simp))
  | _=>exact absurd (show false=true from hs) PH
 | bl i=>
  cases rx
  cases y with
  | non=>cases ry;exact PySem.EqNone.ne_bool_none (Zw I q (by simp))
  | bl j=>cases ry;exact ne_bool (Zw I q (congrArg not MT))
  | str j=>obtain ⟨t',rfl⟩:=ry;exact PySem.EqMixed.ne_bool_str (Zw I q (by simp))
  | _=>exact absurd (show false=true from hs) PH
 | int i=>
  obtain ⟨t,rfl⟩:=rx
  cases y with
  | non=>cases ry;exact PySem.EqNone.ne_int_none (Zw I q (by simp))
  | int j=>obtain ⟨t',rfl⟩:=ry;exact ne_int (Zw I q (congrArg not TD))
  | str j=>obtain ⟨t',rfl⟩:=ry;exact PySem.EqMixed.ne_int_str (Zw I q (by simp))
  | _=>exact absurd (show false=true from hs) PH
 | str i=>
  obtain ⟨t,rfl⟩:=rx
  cases y with
  | non=>cases ry;exact PySem.EqNone.ne_str_none (Zw I q (by simp))
  | bl j=>cases ry;exact PySem.EqMixed.ne_str_bool (Zw I q (by simp))
  | int j=>obtain ⟨t',rfl⟩:=ry;exact PySem.EqMixed.ne_str_int (Zw I q (by simp))
  | str j=>obtain ⟨t',rfl⟩:=ry;exact ne_str (Zw I q (congrArg not G9))
  | _=>exact absurd (show false=true from hs) PH
 | byt i=>
  obtain ⟨t,rfl⟩:=rx
  cases y with
  | byt j=>obtain ⟨t',rfl⟩:=ry;exact W.ne_bytes (Zw I q (congrArg not NM))
  | _=>exact absurd (show false=true from hs) PH
 | _=>cases y <;> exact absurd (show false=true from hs) PH
theorem Wj:OpR X (compareOp .Lt) (rI0 fun i j=> .bl (decide (i < j))):=FQ fun _ _ _ _ _ _ _ q=>lt_int q
theorem UV:OpR X (compareOp .LtE) (rI0 fun i j=> .bl (decide (i<=j))):=FQ fun _ _ _ _ _ _ _ q=>le_int q
theorem Vt:OpR X (compareOp .Gt) (rI0 fun i j=> .bl (decide (j < i))):=FQ fun _ _ _ _ _ _ _ q=>gt_int q
theorem Ij:OpR X (compareOp .GtE) (rI0 fun i j=> .bl (decide (j<=i))):=FQ fun _ _ _ _ _ _ _ q=>ge_int q
theorem Nh:OpR X (compareOp .In) (fun x y H Q=> ∃ i j,x= .str i/\y= .str j/\Q (.bl (!(Builtin.Str.occurrences j i 0 j.length 1).isEmpty)) H):=by
 intro pins s U H x y v u Q I rx ry h;obtain ⟨i,j,rfl,rfl,q⟩:=h;obtain ⟨t,rfl⟩:=rx;obtain ⟨t',rfl⟩:=ry;exact in_str (Zw I q rfl)
theorem MD:OpR X (compareOp .Is) (fun x y H Q=>y= .non/\Q (.bl (decide (x= .non))) H):=by
 intro pins s U H x y v u Q I rx ry h;obtain ⟨rfl,q⟩:=h;cases ry;refine is_none_gen (Zw I q ?_);cases x <;> first
  | (cases rx;rfl)
  | (obtain ⟨t,rfl⟩:=rx;rfl)
theorem FK:OpR X (compareOp .IsNot) (fun x y H Q=>y= .non/\Q (.bl (!decide (x= .non))) H):=by
 intro pins s U H x y v u Q I rx ry h;obtain ⟨rfl,q⟩:=h;cases ry;refine isnot_none_gen (Zw I q ?_);cases x <;> first
  | (cases rx;rfl)
  | (obtain ⟨t,rfl⟩:=rx;rfl)
theorem OpR.or(h:OpR X f r)(h':OpR X f r'):OpR X f (fun x y H Q=>r x y H Q \/ r' x y H Q):=by
 intro pins s U H x y v u Q I rx ry q;rcases q with q | q
 .exact h pins s U H x y v u Q I rx ry q
 .exact h' pins s U H x y v u Q I rx ry q
theorem ZW(b:Expr)(h:op≠ .In:=by decide)(h2:op≠ .NotIn:=by decide):behindInMarks op b=false:=by
 have e1:(op==CmpOp.In)=false:=by cases op <;> first | rfl | exact absurd rfl h
 have e2:(op==CmpOp.NotIn)=false:=by cases op <;> first | rfl | exact absurd rfl h2
 cases b <;> simp [behindInMarks,e1,e2]
theorem Yy(ho:OpR X (compareOp op) r)(ha:PE X a ta)(hb:PE X b tb)(hm:behindInMarks op b=false):PE X (.Compare a [op] [b] pos) (tOp r ta tb):=by
 intro pins s U H Q I h;exact wpAny_Compare1 (LD ha hb I h fun v u s2 x y H2 I2 rx ry q=>ho pins s2 U H2 x y v u Q I2 rx ry q) hm
def IZ(t:TE):TT:=fun U H Q=>t U H fun x H'=> ∃ k,x= .bl k/\Q k H'
theorem ZN(ho:OpR X (compareOp op) r)(ha:PE X a ta)(hb:PE X b tb)(hm:behindInMarks op b=false):PT X (.Compare a [op] [b] pos) (IZ (tOp r ta tb)):=by
 intro pins s U H Q I h
 refine wpAny_isTrue_Compare1 (thn (ha pins s U H _ I h) fun v s1 ⟨x,H1,I1,r1,q1⟩=>thn (hb pins s1 U H1 _ I1 q1) fun u s2 ⟨y,H2,I2,r2,q2⟩=>
  thn (ho pins s2 U H2 x y v u _ I2 r1 r2 q2) fun c s3 ⟨z,H3,I3,r3,k,e,q3⟩=>?_) hm
 subst e;cases r3;exact wpAny_truthy_bool ⟨H3,I3,q3⟩
def BX(r r':R2)(ta tb tc:TE):TE:=fun U H Q=>ta U H fun x H1=>tb U H1 fun y H2=>r x y H2 fun z H3=> ∃ k,z= .bl k/\
 (if k=true then tc U H3 fun w' H4=>r' y w' H4 Q else Q (.bl false) H3)
theorem B4(ho:OpR X (compareOp op) r)(ho':OpR X (compareOp op') r')(ha:PE X a ta)(hb:PE X b tb)(hc:PE X c tc)(hm:lastMarks [op,op'] [b,c]=false:=by with_unfolding_all rfl):PE X (.Compare a [op,op'] [b,c] pos) (BX r r' ta tb tc):=by
 intro pins s U H Q I h
 refine Compare_chain (thn (ha pins s U H _ I h) fun v s1 ⟨x,H1,I1,r1,q1⟩=>chain_link (thn (hb pins s1 U H1 _ I1 q1) fun u s2 ⟨y,H2,I2,r2,q2⟩=>
  thn (ho pins s2 U H2 x y v u _ I2 r1 r2 q2) fun d s3 ⟨z,H3,I3,r3,k,e,q3⟩=>?_)) hm
 subst e;cases r3;refine wpAny_truthy_bool ?_
 cases k with
 | false=>exact ite_ff ⟨.bl false,H3,I3,rfl,q3⟩
 | true=>exact ite_tt (chain_last (thn (hc pins s3 U H3 _ I3 q3) fun w' s4 ⟨z',H4,I4,r4,q4⟩=>ho' pins s4 U H4 y z' u w' Q I4 r2 r4 q4))
theorem Tt(ho:OpR X (compareOp op) r)(ho':OpR X (compareOp op') r')(ha:PE X a ta)(hb:PE X b tb)(hc:PE X c tc)(hm:lastMarks [op,op'] [b,c]=false:=by with_unfolding_all rfl):PT X (.Compare a [op,op'] [b,c] pos) (IZ (BX r r' ta tb tc)):=by
 intro pins s U H Q I h
 refine isTrue_chain (thn (ha pins s U H _ I h) fun v s1 ⟨x,H1,I1,r1,q1⟩=>test_link (thn (hb pins s1 U H1 _ I1 q1) fun u s2 ⟨y,H2,I2,r2,q2⟩=>
  thn (ho pins s2 U H2 x y v u _ I2 r1 r2 q2) fun d s3 ⟨z,H3,I3,r3,k,e,q3⟩=>?_)) hm
 subst e;cases r3;refine wpAny_truthy_bool ?_
 cases k with
 | false=>
  obtain ⟨k',e',q'⟩:=q3;cases e';exact ite_ff ⟨H3,I3,q'⟩
 | true=>
  refine ite_tt (test_last (thn (hc pins s3 U H3 _ I3 q3) fun w' s4 ⟨z',H4,I4,r4,q4⟩=>thn (ho' pins s4 U H4 y z' u w' _ I4 r2 r4 q4) fun d' s5 ⟨z2,H5,I5,r5,k2,e2,q5⟩=>?_));subst e2;cases r5;exact wpAny_truthy_bool ⟨H5,I5,q5⟩
theorem Uv:(sizeLine:Nat) < 2 ^ 63:=by rw [sizeLine_eq];decide
theorem Vv:OpR X (binaryOp .Add) (fun x y H Q=> ∃ i j,x= .str i/\y= .str j/\i.length + j.length<=sizeLine/\Q (.str (i++ j)) H):=by
 intro pins s U H x y v u Q I rx ry h;obtain ⟨i,j,rfl,rfl,hz,q⟩:=h;obtain ⟨t,rfl⟩:=rx;obtain ⟨t',rfl⟩:=ry;exact add_str (fun t' tk=>⟨.str (i++ j),H,I.tok _,⟨_,rfl⟩,q⟩) hz
theorem vals1(r:Vals [x] us):∃ u,us= [u]/\RelV x u:=by
 cases r with
 | cons r1 r2=>cases r2;exact ⟨_,rfl,r1⟩
theorem vals2(r:Vals [x,y] us):∃ u w',us= [u,w']/\RelV x u/\RelV y w':=by
 cases r with
 | cons r1 r2=>
  cases r2 with
  | cons r3 r4=>cases r4;exact ⟨_,_,rfl,r1,r3⟩
theorem U2(hc:X.calm=true):VB X (.builtin "max") (fun xs H Q=> ∃ i j,xs= [.int i, .int j]/\Q (.int (if j > i then j else i)) H):=by
 intro pins s U H xs us Q I r h;obtain ⟨i,j,rfl,q⟩:=h;obtain ⟨u,w',rfl,⟨t,rfl⟩,⟨t',rfl⟩⟩:=vals2 r;refine max_two_ints (I.ok.hd hc) fun h' tk k=>⟨_,H,I.kept k,?_,q⟩
 by_cases hj:j > i
 .rw [if_pos hj,if_pos hj];exact ⟨_,rfl⟩
 .rw [if_neg hj,if_neg hj];exact ⟨_,rfl⟩
theorem BJ(hc:X.calm=true):VB X (.builtin "min") (fun xs H Q=> ∃ i j,xs= [.int i, .int j]/\Q (.int (if j < i then j else i)) H):=by
 intro pins s U H xs us Q I r h;obtain ⟨i,j,rfl,q⟩:=h;obtain ⟨u,w',rfl,⟨t,rfl⟩,⟨t',rfl⟩⟩:=vals2 r;refine min_two_ints (I.ok.hd hc) fun h' tk k=>⟨_,H,I.kept k,?_,q⟩
 by_cases hj:j < i
 .rw [if_pos hj,if_pos hj];exact ⟨_,rfl⟩
 .rw [if_neg hj,if_neg hj];exact ⟨_,rfl⟩
theorem BL:VB X (.type "int") (fun xs H Q=>(∃ i,xs= [.int i]/\Q (.int i) H) \/ ∃ k,xs= [.bl k]/\Q (.int (if k then 1 else 0)) H):=by
 intro pins s U H xs us Q I r h;rcases h with ⟨i,rfl,q⟩ | ⟨k,rfl,q⟩
 .obtain ⟨u,rfl,t,rfl⟩:=vals1 r
  exact call_int_int ⟨.int i,H,I,⟨_,rfl⟩,q⟩
 .obtain ⟨u,rfl,r1⟩:=vals1 r
  cases r1;exact call_int_bool ⟨.int (if k then 1 else 0),H,I.tok _,⟨_,rfl⟩,q⟩
end
end L2
namespace L2
open PySem PySem.Spec PyProof.Rows
structure MZ(h:Heap)(x dx C:Addr)(mA:Str->Option Value):Prop where
 obj:h.get? x=some (W.instObj C dx)
 ns:h.Ns1 dx mA
 ne:dx≠x
set_option tactic.hygienic true in
theorem Wm{h:Heap}(n:h.Ns1 dx mA):∃ od,h.get? dx=some od/\∀ name,W.lookIn name od=some (mA name):=by
 obtain ⟨o,es,ep,ho,hd,hk,_,hm⟩:=n;refine ⟨o,ho,fun name=>?_⟩;have e:=hm name;unfold nsFind findBy at e;rw [<-Array.find?_toList] at e;unfold W.lookIn;rw [hd];dsimp only
 split
 .rename_i y q
  rw [q] at e;exact congrArg some e
 .rename_i q
  rw [q] at e
  have a:es.toList.any (·.refKey)=false:=by
   rw [List.any_eq_false];intro y hy;obtain ⟨z,t,hkey⟩:=hk y (Array.mem_toList_iff.mp hy);simp [DictEntry.refKey,hkey]
  have a': ¬ es.toList.any (·.refKey)=true:=by rw [a];exact PH
  rw [if_neg a'];exact congrArg some e
theorem MZ.look(I:MZ h x dx C mA):∃ od,W.InstAt h x (W.instObj C dx) C (some od)/\∀ name,W.lookIn name od=some (mA name):=
 let ⟨od,ho,hl⟩:=Wm I.ns
 ⟨od,⟨I.obj,rfl,rfl,ho⟩,hl⟩
section
variable{K:W.Frag}
theorem Fq(X:K.In s.heap)(I:MZ s.heap x dx C mA)(hg:W.plainGet K C name=true)(hh:W.hasDictIn K C=true)(ha:W.findIn K (.ref C) name=some none)(hv:mA name=some v)(hv':W.handedIn v=true)(h:Q v {s with toks:=s.toks + 1}):
  wpAny (model prog w) A (getAttr (.ref x) name expr) Q E s:=by
 obtain ⟨od,J,hl⟩:=I.look;exact W.get_value X J (W.plainGet_of hg).1 (W.findObj_own hh ha rfl (by rw [hl,hv])) hv' h
theorem EA(X:K.In s.heap)(I:MZ s.heap x dx C mA)(hg:W.plainGet K C name=true)(hf:W.findIn K (.ref C) name=some (some (.ref f)))(ht:W.isFn K (.ref f)=true)(hv:mA name=none)(h:Q (.ref f, [.ref x]) s):
  wpAny (model prog w) A (getMethod (.ref x) name pl) Q E s:=by
 obtain ⟨od,J,hl⟩:=I.look;exact W.method_fn X J (W.plainGet_of hg).1 (W.plainGet_of hg).2 hf (beq_iff_eq.mp ht) (by show (W.lookIn name od).map (·.isSome)=some false;rw [hl,hv];rfl) h
theorem Eu(X:K.In s.heap)(I:MZ s.heap x dx C mA)(hs:W.findIn K (.ref C) "__setattr__" =some (some (.builtin "object.__setattr__")))(hp:W.plainOver K C=true)(ht:W.takerIn K C name=some none)(hh:W.hasDictIn K C=true)(hw:PySem.Within mA ns)(hsz:ns.length<=sizeLine)(h:∀ h',MZ h' x dx C (fun y=>if y=name then some v else mA y)->Heap.SameBut dx s.heap h'->Q () {s with heap:=h',toks:=s.toks + 2}):
  wpAny (model prog w) A (setAttr (.ref x) name v) Q E s:=by
 obtain ⟨od,J,hl⟩:=I.look;refine W.set_plain X J hs (W.osa_open (s:={s with toks:=s.toks + 1}) (r:=none) X J hp ht fun b=>?_);obtain ⟨cd,hc,hd'⟩:=W.any_some hh;have hx:s.heap.get? x=some ⟨.ref C,some dx, .plain,#[]⟩:=I.obj;refine wpAny_bind (wpAny_pure (wpAny_bind (wpAny_bind (wpAny_loadPart hx (wpAny_bind (W.Looks.here (s:={s with toks:=s.toks + 1}) (W.looks_clsIn X hc) ?_))))));rw [hd'];refine wpAny_pure (a:=some dx) (wpAny_bind (wpAny_pure (wpAny_bind ?_)));refine wpAny_nsSet1 (s:={s with toks:=s.toks + 1}) I.ns fun h' hn2 hs2=>?_;obtain ⟨oD,esD,epD,hoD,hdD,hcD⟩:=hn2.count (PySem.Within.cons name v hw);refine wpAny_bind (wpAny_lookBehind hoD (by rw [hdD];exact pastItsLine_dict (O6 hcD (by rw [PB];omega))) ?_);exact wpAny_pure (h _ ⟨(hs2.2 _ (Ne.symm I.ne)).trans I.obj,hn2,I.ne⟩ hs2)
theorem T9(X:K.In s.heap)(hm:W.makesIn K C=true)(hi:W.findIn K (.ref C) "__init__" =some (some (.ref f)))(hf:W.typeIn K (.ref f)=some (.type "function"))(h:codeAny (model prog w) (A.under (.builtin "type.__call__" ⟨.ref C::vs,kw⟩)) (.call (.ref f) ⟨.ref (s.heap.objs.size + 1)::vs,kw⟩) (W.InitBack (s.heap.objs.size + 1) R)
   {s with heap:=(s.heap.push W.emptyDict).push (W.instObj C s.heap.objs.size)}):
  codeAny (model prog w) A (.call (.ref C) ⟨vs,kw⟩) R s:=by
 obtain ⟨hh,g,d,t,os⟩:=s;exact W.make_core (W.makes_of X hm) (W.looks_findIn X hi) (fun self=>W.bind_fn X self hf) (.inl rfl) h
end
def Zz(f:Str)(v:V):List (Str × V)->List (Str × V)
 | []=> [(f,v)]
 | (g,x)::r=>if g=f then (g,v)::r else (g,x)::Zz f v r
theorem Jr(f g:Str)(v:V):∀ fs:List (Str × V),(Zz f v fs).lookup g=if g=f then some v else fs.lookup g
 | []=>by
  show List.lookup g [(f,v)]=_
  by_cases h:g=f
  .have hb:(g==f)=true:=beq_iff_eq.mpr h
   simp only [List.lookup,hb,if_pos h]
  .have hb:(g==f)=false:=beq_eq_false_iff_ne.mpr h
   simp only [List.lookup,hb,if_neg h]
 | (k,x)::r=>by
  have ih:=Jr f g v r;rw [show Zz f v ((k,x)::r)=(if k=f then (k,v)::r else (k,x)::Zz f v r) from rfl]
  by_cases hk:k=f
  .rw [if_pos hk]
   by_cases h:g=k
   .have hb:(g==k)=true:=beq_iff_eq.mpr h
    simp only [List.lookup,hb,if_pos (h.trans hk)]
   .have hb:(g==k)=false:=beq_eq_false_iff_ne.mpr h
    simp only [List.lookup,hb,if_neg (fun e:g=f=>h (e.trans hk.symm))]
  .rw [if_neg hk]
   by_cases h:g=k
   .have hb:(g==k)=true:=beq_iff_eq.mpr h
    simp only [List.lookup,hb,if_neg (fun e:g=f=>hk (h.symm.trans e))]
   .have hb:(g==k)=false:=beq_eq_false_iff_ne.mpr h
    simp only [List.lookup,hb];exact ih
theorem JK(f:Str)(v:V):∀ fs:List (Str × V),f∈(Zz f v fs).map (·.1)/\∀ g,g∈fs.map (·.1)->g∈(Zz f v fs).map (·.1)
 | []=>⟨by simp [Zz],fun g h=>by simp at h⟩
 | (k,x)::r=>by
  obtain ⟨i1,i2⟩:=JK f v r;rw [show Zz f v ((k,x)::r)=(if k=f then (k,v)::r else (k,x)::Zz f v r) from rfl]
  by_cases hk:k=f
  .rw [if_pos hk]
   subst hk;exact ⟨by simp,fun g h=>by simpa using h⟩
  .rw [if_neg hk]
   refine ⟨?_,fun g h=>?_⟩
   .rw [O0]
    exact Ot _ i1
   .rw [O0] at h |-
    rcases O8.mp h with e | e
    .exact O8.mpr (.inl e)
    .exact Ot _ (i2 g e)
theorem XF(f:Str)(v:V):∀ fs:List (Str × V),(Zz f v fs).length<=fs.length + 1
 | []=>by simp [Zz]
 | (k,x)::r=>by
  have ih:=XF f v r;rw [show Zz f v ((k,x)::r)=(if k=f then (k,v)::r else (k,x)::Zz f v r) from rfl]
  by_cases hk:k=f
  .rw [if_pos hk,PB,PB];omega
  .rw [if_neg hk,PB,PB];omega
theorem JD.some_of(r:JD (some v) o):∃ u,o=some u/\RelV v u:=by
 cases o with
 | none=>exact (show False from r).elim
 | some u=>exact ⟨u,rfl,r⟩
theorem JD.none_of(r:JD none o):o=none:=by
 cases o with
 | none=>rfl
 | some u=>exact (show False from r).elim
theorem Wo(r:RelV v u):W.handedIn u=true:=by
 cases v with
 | non=>cases (show u=Value.none from r);rfl
 | bl b=>cases (show u=Value.bool b from r);rfl
 | int i=>obtain ⟨t,e⟩:=(show ∃ t,u=Value.int i t from r);cases e;rfl
 | str x=>obtain ⟨t,e⟩:=(show ∃ t,u=Value.str x t from r);cases e;rfl
 | byt b=>obtain ⟨t,e⟩:=(show ∃ t,u=Value.bytes b t from r);cases e;rfl
 | flt b=>obtain ⟨t,e⟩:=(show ∃ t,u=Value.float b t from r);cases e;rfl
 | ref a=>cases (show u=Value.ref a from r);rfl
 | ty n=>cases (show u=Value.type n from r);rfl
section
theorem Xm(hok:HOk P w H h)(e:H a=some (.ins C dx fs)):∃ mA,MZ h a dx C mA/\(∀ f,JD (fs.lookup f) (mA f))/\PySem.Within mA (fs.map (·.1))/\fs.length<=1000/\H dx=some (.own a):=by
 obtain ⟨d,z,ne,ob,mA,n,r,q⟩:=(show Zr P w H h a (.ins C dx fs) from hok a _ e);exact ⟨mA,⟨ob,n,ne⟩,r,q,z,d⟩
end
structure Cls(K:W.Frag)(C:Addr):Prop where
 pg:W.plainGet K C Str.empty=true
 hd:W.hasDictIn K C=true
 po:W.plainOver K C=true
 sa:W.findIn K (.ref C) "__setattr__" =some (some (.builtin "object.__setattr__"))
theorem Cls.get{K:W.Frag}(c:Cls K C)(f:Str):W.plainGet K C f=true:=c.pg
def Y1(K:W.Frag)(C:Addr)(f:Str):Prop:=W.findIn K (.ref C) f=some none
theorem Y1.taker{K:W.Frag}(n:Y1 K C f):W.takerIn K C f=some none:=by
 unfold W.takerIn;rw [show W.findIn K (.ref C) f=some none from n]
 rfl
structure Con(K:W.Frag)(C:Addr)(f:Str)(v:V)(u:Value):Prop where
 at_:W.findIn K (.ref C) f=some (some u)
 rel:RelV v u
 get:W.specialIn K u "__get__" =some none
 cp:W.copiedNames.contains f=false
structure XB(K:W.Frag)(C:Addr)(m:Str)(f:Addr):Prop where
 at_:W.findIn K (.ref C) m=some (some (.ref f))
 fn:W.isFn K (.ref f)=true
 kp:W.keepIn K (.ref f)=true
section
theorem MO(I:Inv X pins U H s)(e:H a=some (.ins C dx fs))(c:Cls X.K C)(n:Y1 X.K C f)(l:fs.lookup f=some v)(h:∀ u s',Inv X pins U H s'->RelV v u->Q u s'):wpAny (model X.prog X.w) A (getAttr (.ref a) f b) Q E s:=by
 obtain ⟨mA,O,r,_,_,_⟩:=Xm I.hok e;obtain ⟨u,hu,ru⟩:=JD.some_of (v:=v) (o:=mA f) (by rw [<-l];exact r f);exact Fq I.kIn O (c.get f) c.hd n hu (Wo ru) (h u _ (I.tok _) ru)
theorem WH(I:Inv X pins U H s)(e:H a=some (.ins C dx fs))(c:Cls X.K C)(k:XB X.K C m g)(l:fs.lookup m=none)(h:Q (.ref g, [.ref a]) s):wpAny (model X.prog X.w) A (getMethod (.ref a) m pl) Q E s:=by
 obtain ⟨mA,O,r,_,_,_⟩:=Xm I.hok e;have hn:mA m=none:=JD.none_of (by rw [<-l];exact r m);exact EA I.kIn O (c.get m) k.at_ k.fn hn h
theorem Rh(I:Inv X pins U H s)(e:H a=some (.ins C dx fs))(c:Cls X.K C)(n:Y1 X.K C f)(hl:fs.length < 1000)(ry:RelV y u)(h:∀ s',Inv X pins U (upd H a (.ins C dx (Zz f y fs))) s'->Q () s'):wpAny (model X.prog X.w) A (setAttr (.ref a) f u) Q E s:=by
 obtain ⟨mA,O,r,wi,_,ho⟩:=Xm I.hok e;have hz:(fs.map (·.1)).length<=sizeLine:=by rw [Oh,sizeLine_eq];omega
 refine Eu I.kIn O c.sa c.po n.taker c.hd wi hz fun h' O' sb=>h _ ?_;have hd:∃ o,h'.get? dx=some o:=let ⟨o,_,_,e',_⟩:=O'.ns;⟨o,e'⟩
 refine I.write (x:=a) (e:=dx) (by rw [e];exact True.intro) (.inr ho) (fun b q hb z=>(sb.2 b hb).trans z) hd ?_;refine ⟨by rw [ZE O.ne];exact ho,?_,O.ne,O'.obj,_,O'.ns,fun g=>?_,fun g hg=>?_⟩
 .have:=XF f y fs;omega
 .show JD ((Zz f y fs).lookup g) (if g=f then some u else mA g)
  rw [Jr]
  by_cases q:g=f
  .rw [if_pos q,if_pos q];exact ry
  .rw [if_neg q,if_neg q];exact r g
 .by_cases q:g=f
  .rw [q];exact (JK f y fs).1
  .refine (JK f y fs).2 g (wi g fun z=>hg ?_)
   show (if g=f then some u else mA g)=none;rw [if_neg q];exact z
theorem Inv.made(I:Inv X pins U H s):Inv X pins U (upd (upd H s.heap.objs.size (.own (s.heap.objs.size + 1))) (s.heap.objs.size + 1) (.ins C s.heap.objs.size []))
  {s with heap:=(s.heap.push W.emptyDict).push (W.instObj C s.heap.objs.size)}:=by
 have e1:(s.heap.push W.emptyDict).get? s.heap.objs.size=some W.emptyDict:=O3 s.heap rfl
 have e2:((s.heap.push W.emptyDict).push (W.instObj C s.heap.objs.size)).get? (s.heap.objs.size + 1)=some (W.instObj C s.heap.objs.size):=by
  have:=O3 (s.heap.push W.emptyDict) (o:=W.instObj C s.heap.objs.size) rfl
  rwa [Heap.size_push] at this
 have e3:(s.heap.push W.emptyDict).Ns s.heap.objs.size (fun _=>none):=⟨W.emptyDict,#[],_,e1,rfl,(fun e he=>absurd he (by simp)),fun _=>rfl⟩;have I1:=I.laid (a:=s.heap.objs.size) (o:= .own (s.heap.objs.size + 1)) (h':=s.heap.push W.emptyDict) (t':=s.toks) (fun b u q=>Oj _ q) (Om _) ⟨_,e1⟩;refine I1.laid (a:=s.heap.objs.size + 1) (o:= .ins C s.heap.objs.size []) (t':=s.toks) (fun b u q=>Oj _ q) (Nat.le_of_eq (Heap.size_push _ _)) ?_;have ne:s.heap.objs.size≠s.heap.objs.size + 1:=O9 (Nat.lt_succ_self _);refine ⟨by rw [ZE ne,ZC],O7 _,ne,e2,fun _=>none,(Heap.Ns1.of_empty e3).at fun o q=>Oj _ q,fun _=>True.intro,fun y hy=>absurd rfl hy⟩
theorem NP(hb:attributeBase e f env (eval e env)=eval e env)(h:wpAny (model prog w) A (eval e env) (fun o s₁=>wpAny (model prog w) A (getAttr o f true) Q E s₁) E s):wpAny (model prog w) A (eval (.Attribute e f pos) env) Q E s:=
 Attribute_any_ h (by rw [arm_eval_Attribute,hb])
end
def LP(K:W.Frag)(ta:TE)(f:Str):TE:=fun U H Q=>ta U H fun x H1=>Y6 x fun a=> ∃ C dx fs v,H1 a=some (.ins C dx fs)/\Cls K C/\Y1 K C f/\fs.lookup f=some v/\Q v H1
def OI(K:W.Frag)(ta tv:TE)(f:Str):TS:=fun D U H=>tv U H fun y H1=>ta U H1 fun x H2=> ∃ a C dx fs,x= .ref a/\H2 a=some (.ins C dx fs)/\Cls K C/\Y1 K C f/\fs.length < 1000/\
 D.nx U (upd H2 a (.ins C dx (Zz f y fs)))
section
theorem Z6(he:PE X e ta)(hb:attributeBase e f X.env (eval e X.env)=eval e X.env):PE X (.Attribute e f pos) (LP X.K ta f):=by
 intro pins s U H Q I h;refine NP hb (thn (he pins s U H _ I h) fun u s1 ⟨x,H1,I1,rx,q⟩=>?_);replace q:=Y6.old q;obtain ⟨a,ex,C,dx,fs,v,ea,c,n,l,q⟩:=q;subst ex;obtain rfl:u=Value.ref a:=rx;exact MO I1 ea c n l fun u' s2 I2 ru=>⟨v,H1,I2,ru,q⟩
theorem V8(ha:PE X o ta)(hv:PE X value tv)(hs:swapsWith value (some (.Attribute o f pos')) pos.line X.env=pure false):PS X (.Assign [.Attribute o f pos'] value pos) (OI X.K ta tv f):=by
 intro pins s U H D I h;refine plainObj_wpAny_Assign_Attribute (thn (hv pins s U H _ I h) fun u s1 ⟨y,H1,I1,ry,q⟩=>thn (ha pins s1 U H1 _ I1 q) fun ov s2 ⟨x,H2,I2,rx,a,C,dx,fs,ex,ea,c,n,l,q2⟩=>?_) hs;subst ex;obtain rfl:ov=Value.ref a:=rx;exact Rh I2 ea c n l ry fun s3 I3=>⟨U,_,I3,q2⟩
end
section
variable{H:Hp}
inductive UL(K:W.Frag)(H:Hp):V->Value->Prop where
 | non:UL K H .non (.type "NoneType")
 | bl (x:Bool):UL K H (.bl x) (.type "bool")
 | int (i:Int):UL K H (.int i) (.type "int")
 | str (x:Str):UL K H (.str x) (.type "str")
 | flt (x:UInt64):UL K H (.flt x) (.type "float")
 | lst {a:Addr}{xs:List V}(e:H a=some (.lst xs)):UL K H (.ref a) (.type "list")
 | frz {a:Addr}{o:Obj}{xs:List V}(e:H a=some (.frz o (.lst xs))):UL K H (.ref a) (.type "list")
 | tup {a:Addr}{xs:List V}(e:H a=some (.tup xs)):UL K H (.ref a) (.type "tuple")
 | dK {a:Addr}{kvs:List (Key × V)}(e:H a=some (.dK kvs)):UL K H (.ref a) (.type "dict")
 | dT {a:Addr}{kvs:List (List Key × V)}(e:H a=some (.dT kvs)):UL K H (.ref a) (.type "dict")
 | ins {a C dx:Addr}{fs:List (Str × V)}(e:H a=some (.ins C dx fs)) (cl:Cls K C) (ha:W.findIn K (.ref C) "__class__" =some (some (.builtin "object.__class__")))
   (hn:W.specialIn K (.builtin "object.__class__") "__get__" =some (some (.builtin "getset_descriptor.__get__"))) (htk:W.takesIn K (.builtin "object.__class__")=some true)
   (hm:W.mroIn K C (.type "object")=some true):UL K H (.ref a) (.ref C)
theorem Ny(I:Inv X pins U H s)(rx:RelV x u)(ty:UL X.K H x t)(e:W.kitOne X.K t c=some b)(h:∀ tk,Q (.bool b) {s with toks:=tk}):
  wpAny (model X.prog X.w) A (call (.builtin "isinstance") [u,c]) Q E s:=by
 cases ty with
 | non=>cases (show u=Value.none from rx);exact W.kia_one W.kitx_none I.kIn True.intro e (fun z=>nomatch z) h
 | bl y=>cases (show u=Value.bool y from rx);exact W.kia_one W.kitx_bool I.kIn True.intro e (fun z=>nomatch z) h
 | int i=>obtain ⟨t,q⟩:=(show ∃ t,u=Value.int i t from rx);cases q;exact W.kia_one W.kitx_int I.kIn True.intro e (fun z=>nomatch z) h
 | str y=>obtain ⟨t,q⟩:=(show ∃ t,u=Value.str y t from rx);cases q;exact W.kia_one W.kitx_str I.kIn True.intro e (fun z=>nomatch z) h
 | flt y=>obtain ⟨t,q⟩:=(show ∃ t,u=Value.float y t from rx);cases q;exact W.kia_one W.kitx_float I.kIn True.intro e (fun z=>nomatch z) h
 | @lst a xs ea=>
  cases (show u=Value.ref a from rx);obtain ⟨_,_,n,_,h1⟩:=(show Zr X.prog X.w H s.heap a (.lst xs) from I.hok a _ ea);exact W.kia_one W.kitx_list I.kIn ⟨_,h1,rfl⟩ e (fun z=>nomatch z) h
 | @frz a ob xs ea=>
  cases (show u=Value.ref a from rx);obtain ⟨_,_,_,n,_,h1⟩:=(show Zr X.prog X.w H s.heap a (.frz ob (.lst xs)) from I.hok a _ ea);exact W.kia_one W.kitx_list I.kIn ⟨_,h1,rfl⟩ e (fun z=>nomatch z) h
 | @tup a xs ea=>
  cases (show u=Value.ref a from rx);obtain ⟨_,_,_,p⟩:=(show Zr X.prog X.w H s.heap a (.tup xs) from I.hok a _ ea);obtain ⟨o,h1,_,h2,_⟩:=p;exact W.kia_one W.kitx_tuple I.kIn ⟨o,h1,h2⟩ e (fun z=>nomatch z) h
 | @dK a kvs ea=>
  cases (show u=Value.ref a from rx);obtain ⟨_,_,vs,_,p⟩:=(show Zr X.prog X.w H s.heap a (.dK kvs) from I.hok a _ ea);obtain ⟨o,es,ep,h1,h2,_⟩:=p;exact W.kia_one W.kitx_dict I.kIn ⟨o,h1,h2.1⟩ e (fun z=>nomatch z) h
 | @dT a kvs ea=>
  cases (show u=Value.ref a from rx);obtain ⟨_,_,xs,_,o,es,ep,h1,h2,_⟩:=(show Zr X.prog X.w H s.heap a (.dT kvs) from I.hok a _ ea);exact W.kia_one W.kitx_dict I.kIn ⟨o,h1,h2.1⟩ e (fun z=>nomatch z) h
 | @ins a C dx fs ea cl ha hn htk hm=>
  cases (show u=Value.ref a from rx);obtain ⟨mA,O,_⟩:=Xm I.hok ea;obtain ⟨od,J,_⟩:=O.look;exact W.kia_one (W.kitx_own (cl.get _) cl.hd ha hn htk hm) I.kIn J e (fun z=>nomatch z) h
end
end L2
namespace L2
open PySem PySem.Spec PyProof.Rows
structure YR(k:Nat)(A:Around):Prop where
 hd:A.handled=none
 dp:A.depth + 3 * k + 5 < recursionLimit
 un:A.units + 16 * k + 200 < cLine
theorem YR.mono(r:YR k A)(h:j<=k):YR j A:=⟨r.hd,by have:=r.dp;omega,by have:=r.un;omega⟩
theorem YR.deeper(r:YR (k + 1) A)(env:Env):YR k (A.deeper env):=
 ⟨r.hd,by have:=r.dp;show A.depth + 1 + 3 * k + 5 < _;omega,by have:=r.un;show A.units + 3 + 16 * k + 200 < _;omega⟩
theorem YR.in1(r:YR (k + 1) A):YR k A.in1:=
 ⟨r.hd,by have:=r.dp;show A.depth + 3 * k + 5 < _;omega,by have:=r.un;show A.units + 1 + 16 * k + 200 < _;omega⟩
theorem MI{A:Around}:(A.under (.builtin "type.__call__" ⟨.ref C::us,kw⟩)).depth=A.depth + 1:=by
 first | rfl | simp [Around.under,Code.weight,Code.isCreation,Code.isGuard,Code.isCaller,Code.frames,Code.isFrame,guardIds]
theorem MH{A:Around}:(A.under (.builtin "type.__call__" ⟨.ref C::us,kw⟩)).units=A.units + 1:=by
 first | rfl | simp [Around.under,Code.cUnits,Code.frames,Code.isFrame]
theorem YR.make(r:YR (k + 1) A)(C:Addr)(us:List Value)(kw:List (Str × Value)):YR k (A.under (.builtin "type.__call__" ⟨.ref C::us,kw⟩)):=
 ⟨r.hd,by have:=r.dp;rw [MI];omega,by have:=r.un;rw [MH];omega⟩
theorem YR.depth(r:YR k A):A.depth < recursionLimit:=by have:=r.dp;omega
theorem YR.units(r:YR k A):A.units + 64 < cLine:=by have:=r.un;omega
theorem YR.units0(r:YR k A):A.units < cLine:=by have:=r.un;omega
def Jj:TA:=fun _ H Q=>Q [] H
def YI(ta:TE)(tr:TA):TA:=fun U H Q=>ta U H fun x H1=>tr U H1 fun xs H2=>Q (x::xs) H2
section
variable{t:TA}
theorem YK:PA X [] Jj:=fun _ _ _ _ H Q I h=>Calls.spliced_nil ⟨[],H,I, .nil,h⟩
theorem Z5(ha:PE X e te)(hr:PA X es t)(hs:starEach (e::es) X.env=(false,eval e X.env)::starEach es X.env:=by rfl):PA X (e::es) (YI te t):=by
 intro pos pins s U H Q I h;rw [hs];show wpAny _ _ (spliced ((false,eval e X.env)::backTo pos (starEach es X.env))) _ _ s;refine Calls.spliced_cons (thn (ha pins s U H _ I h) fun u s1 ⟨x,H1,I1,r1,q1⟩=>?_);exact thn (hr pos pins s1 U H1 _ I1 q1) fun us s2 ⟨xs,H2,I2,r2,q2⟩=>⟨x::xs,H2,I2, .cons r1 r2,q2⟩
theorem pa1(a0:PE X e0 t0)(h0:starEach [e0] X.env=(false,eval e0 X.env)::starEach [] X.env:=by rfl):PA X [e0] (YI t0 (Jj)):=Z5 a0 (YK) h0
theorem pa2(a0:PE X e0 t0)(a1:PE X e1 t1)(h0:starEach [e0,e1] X.env=(false,eval e0 X.env)::starEach [e1] X.env:=by rfl)(h1:starEach [e1] X.env=(false,eval e1 X.env)::starEach [] X.env:=by rfl):PA X [e0,e1] (YI t0 (YI t1 (Jj))):=Z5 a0 (Z5 a1 (YK) h1) h0
theorem pa3(a0:PE X e0 t0)(a1:PE X e1 t1)(a2:PE X e2 t2)(h0:starEach [e0,e1,e2] X.env=(false,eval e0 X.env)::starEach [e1,e2] X.env:=by rfl)(h1:starEach [e1,e2] X.env=(false,eval e1 X.env)::starEach [e2] X.env:=by rfl)(h2:starEach [e2] X.env=(false,eval e2 X.env)::starEach [] X.env:=by rfl):PA X [e0,e1,e2] (YI t0 (YI t1 (YI t2 (Jj)))):=Z5 a0 (Z5 a1 (Z5 a2 (YK) h2) h1) h0
theorem pa4(a0:PE X e0 t0)(a1:PE X e1 t1)(a2:PE X e2 t2)(a3:PE X e3 t3)(h0:starEach [e0,e1,e2,e3] X.env=(false,eval e0 X.env)::starEach [e1,e2,e3] X.env:=by rfl)(h1:starEach [e1,e2,e3] X.env=(false,eval e1 X.env)::starEach [e2,e3] X.env:=by rfl)(h2:starEach [e2,e3] X.env=(false,eval e2 X.env)::starEach [e3] X.env:=by rfl)(h3:starEach [e3] X.env=(false,eval e3 X.env)::starEach [] X.env:=by rfl):PA X [e0,e1,e2,e3] (YI t0 (YI t1 (YI t2 (YI t3 (Jj))))):=Z5 a0 (Z5 a1 (Z5 a2 (Z5 a3 (YK) h3) h2) h1) h0
theorem pa5(a0:PE X e0 t0)(a1:PE X e1 t1)(a2:PE X e2 t2)(a3:PE X e3 t3)(a4:PE X e4 t4)(h0:starEach [e0,e1,e2,e3,e4] X.env=(false,eval e0 X.env)::starEach [e1,e2,e3,e4] X.env:=by rfl)(h1:starEach [e1,e2,e3,e4] X.env=(false,eval e1 X.env)::starEach [e2,e3,e4] X.env:=by rfl)(h2:starEach [e2,e3,e4] X.env=(false,eval e2 X.env)::starEach [e3,e4] X.env:=by rfl)(h3:starEach [e3,e4] X.env=(false,eval e3 X.env)::starEach [e4] X.env:=by rfl)(h4:starEach [e4] X.env=(false,eval e4 X.env)::starEach [] X.env:=by rfl):PA X [e0,e1,e2,e3,e4] (YI t0 (YI t1 (YI t2 (YI t3 (YI t4 (Jj)))))):=Z5 a0 (Z5 a1 (Z5 a2 (Z5 a3 (Z5 a4 (YK) h4) h3) h2) h1) h0
theorem pa6(a0:PE X e0 t0)(a1:PE X e1 t1)(a2:PE X e2 t2)(a3:PE X e3 t3)(a4:PE X e4 t4)(a5:PE X e5 t5)(h0:starEach [e0,e1,e2,e3,e4,e5] X.env=(false,eval e0 X.env)::starEach [e1,e2,e3,e4,e5] X.env:=by rfl)(h1:starEach [e1,e2,e3,e4,e5] X.env=(false,eval e1 X.env)::starEach [e2,e3,e4,e5] X.env:=by rfl)(h2:starEach [e2,e3,e4,e5] X.env=(false,eval e2 X.env)::starEach [e3,e4,e5] X.env:=by rfl)(h3:starEach [e3,e4,e5] X.env=(false,eval e3 X.env)::starEach [e4,e5] X.env:=by rfl)(h4:starEach [e4,e5] X.env=(false,eval e4 X.env)::starEach [e5] X.env:=by rfl)(h5:starEach [e5] X.env=(false,eval e5 X.env)::starEach [] X.env:=by rfl):PA X [e0,e1,e2,e3,e4,e5] (YI t0 (YI t1 (YI t2 (YI t3 (YI t4 (YI t5 (Jj))))))):=Z5 a0 (Z5 a1 (Z5 a2 (Z5 a3 (Z5 a4 (Z5 a5 (YK) h5) h4) h3) h2) h1) h0
def L5(t:TA):TE:=fun U H Q=>t U H fun xs H1=>xs.length<=sizeLine/\∀ p,H1 p=none->Q (.ref p) (upd H1 p (.tup xs))
def OA(t:TA):TE:=fun U H Q=>t U H fun xs H1=>xs.length<=sizeLine/\∀ p,H1 p=none->Q (.ref p) (upd H1 p (.lst xs))
theorem Zi(h:PA X es t):PE X (.Tuple es x1 pos) (L5 t):=by
 intro pins s U H Q I hq;refine wpAny_Tuple_spliced (thn (h pos pins s U H _ I hq) fun us s1 ⟨xs,H1,I1,r,z,q⟩=>⟨by rw [<-r.length];exact z,?_⟩);have hf:H1 s1.heap.objs.size=none:=I1.hok.fresh (Om _);refine ⟨.ref s1.heap.objs.size,upd H1 s1.heap.objs.size (.tup xs),I1.laid (t':=s1.toks) (fun b u e=>Oj _ e) (Om _) ?_,rfl,q _ hf⟩;exact ⟨z,us,r,⟨_,O3 _ rfl,rfl,rfl,_,rfl⟩⟩
theorem Zp(h:PA X es t):PE X (.List es pos) (OA t):=by
 intro pins s U H Q I hq;refine wpAny_List_spliced (thn (h pos pins s U H _ I hq) fun us s1 ⟨xs,H1,I1,r,z,q⟩=>⟨by rw [<-r.length];exact z,?_⟩);have hf:H1 s1.heap.objs.size=none:=I1.hok.fresh (Om _);refine ⟨.ref s1.heap.objs.size,upd H1 s1.heap.objs.size (.lst xs),I1.laid (t':=s1.toks) (fun b u e=>Oj _ e) (Om _) ?_,rfl,q _ hf⟩;exact ⟨z,us,0,r,O3 _ rfl⟩
end
abbrev Sp:=List V->Hp->VK->XK->Prop
abbrev CXT:=List Env->Hp->Shared->XK->Value->Shared->Prop
structure Ma(P:Program)(w:World)(K:W.Frag)(mg:Str->Option Value)(base:Heap)(A:Around)(outer:List Env)(s:Shared)(H:Hp):Prop where
 frames:A.frames=some outer
 mod:Mod K mg base
 bs:∀ b o,base.get? b=some o->s.heap.get? b=some o/\H b=none
 bsz:base.objs.size<=s.heap.objs.size
 funs:s.heap.FunFrames base outer
 frf:∀ b∈frs outer,H b=none
 hok:HOk P w H s.heap
 bare:AllBare s.gens
def CE(outer:List Env)(P:Program)(w:World)(H:Hp)(s:Shared)(Q:VK)(u:Value)(s':Shared):Prop:=
 ∃ v H',s'.os=s.os/\AllBare s'.gens/\Un (frs outer) [] H H' s.heap s'.heap/\HOk P w H' s'.heap/\RelV v u/\Q v H'
def CR(CX:CXT)(outer:List Env)(P:Program)(w:World)(H:Hp)(s:Shared)(Q:VK)(E:XK)(r:Result)(s':Shared):Prop:=
 match r with
 | .ok (.ret u)=>CE outer P w H s Q u s'
 | .ok _=>False
 | .error e=>CX outer H s E e s'
structure ZQ(P:Program)(w:World)(K:W.Frag)(mg:Str->Option Value)(base:Heap)(CX:CXT)(k:Nat)(f:Addr)(fd:FuncData)(ps:List Str)(sp:Sp):Prop where
 len:∀ vs H Q E,sp vs H Q E->vs.length=ps.length
 run:∀ (A:Around) (outer:List Env) (s:Shared) (H:Hp) (args:Args) (us:List Value) (vs:List V) (Q:VK) (E:XK),YR k A->Ma P w K mg base A outer s H->BindsTo s fd args (ps.zip us)->Vals vs us->sp vs H Q E->
  codeAny (model P w) A (.call (.ref f) args) (CR CX outer P w H s Q E) s
theorem ZQ.mono{K:W.Frag}(F:ZQ P w K mg base CX j f fd ps sp)(h:j<=k):
  ZQ P w K mg base CX k f fd ps sp:=⟨F.len,fun A outer s H args us vs Q E hr=>F.run A outer s H args us vs Q E (hr.mono h)⟩
theorem Ma.make{K:W.Frag}(e:Ma P w K mg base A outer s H)(C:Addr)(us:List Value)(kw:List (Str × Value)):
  Ma P w K mg base (A.under (.builtin "type.__call__" ⟨.ref C::us,kw⟩)) outer s H:=⟨by first | exact e.frames | (simpa [Around.under,Code.envs,Code.isFrame,pushEnvs] using e.frames),e.mod,e.bs,e.bsz,e.funs,e.frf,e.hok,e.bare⟩
section
theorem Inv.env0(I:Inv X pins U H s):Ma X.prog X.w X.K X.mg X.base X.A X.stack s H:=
 ⟨I.ok.frames,I.ok.mod,I.bs,O6 I.ok.bsz I.sz,I.stack,I.stkFree,I.hok,I.bare⟩
theorem Inv.after(I:Inv X pins U H s)(h:CE X.stack X.prog X.w H s Q u s'):EP X pins U Q u s':=by
 obtain ⟨v,H',os,bare,un,hok,r,q⟩:=h;obtain ⟨hh,g,d,t,os'⟩:=s';obtain rfl:os'=s.os:=os;exact ⟨v,H',I.call (h':=hh) (g':=g) (d':=d) (t':=t) (ch:= []) un hok bare (fun b z=>absurd z (by simp)),r,q⟩
end
def Id(sp:Sp)(dvs:List V)(E:XK)(t:TA):TE:=fun U H Q=>t U H fun vs H1=>sp (vs++ dvs) H1 Q E
def BU(C:Addr)(m:Str)(sp:Sp)(dvs:List V)(E:XK)(ta:TE)(t:TA):TE:=fun U H Q=>ta U H fun x H1=>Y6 x fun a=> ∃ dx fs,H1 a=some (.ins C dx fs)/\fs.lookup m=none/\
 t U H1 fun vs H2=>sp (x::(vs++ dvs)) H2 Q E
def LM(C:Addr)(sp:Sp)(dvs:List V)(E:XK)(t:TA):TE:=fun U H Q=>t U H fun vs H1=> ∀ x dx,H1 x=none->H1 dx=none->dx≠x->
 sp (.ref x::(vs++ dvs)) (upd (upd H1 dx (.own x)) x (.ins C dx [])) (fun v H2=>v= .non/\Q (.ref x) H2) E
def Binds(K:W.Frag)(fd:FuncData)(ps:List Str)(ds:List Value):Prop:=
 ∀ (s:Shared) (us:List Value),K.In s.heap->(us++ ds).length=ps.length->BindsTo s fd ⟨us, []⟩ (ps.zip (us++ ds))
theorem Binds.all{K:W.Frag}(h:∀ us:List Value,us.length=ps.length->bindArgs fd ⟨us, []⟩=pure (ps.zip us)):Binds K fd ps []:=fun s us _ hl=>by
 rw [List.append_nil] at hl |-;exact .of_eq (h us hl)
def JE(CX:CXT)(X:Cx)(E:XK):Prop:= ∀ (pins:List (Addr × Obj)) (U:St) (H:Hp) (s:Shared) (e:Value) (s':Shared),Inv X pins U H s->CX X.stack H s E e s'->X.xe e s'
section
variable{f C:Addr}
theorem R1(F:ZQ X.prog X.w X.K X.mg X.base CX k f fd ps sp)(hr:YR k X.A)(hb:Binds X.K fd ps ds)(hd:Vals dvs ds)(hx:JE CX X E)(I:Inv X pins U H s)(r:Vals vs us)(h:sp (vs++ dvs) H Q E):wpAny (model X.prog X.w) X.A (call (.ref f) us) (EP X pins U Q) X.xe s:=by
 have r2:Vals (vs++ dvs) (us++ ds):=r.append hd;have hl:(us++ ds).length=ps.length:=by rw [<-r2.length];exact F.len _ _ _ _ h
 refine wpAny_call (codeAny_mono (F.run X.A X.stack s H ⟨us, []⟩ (us++ ds) (vs++ dvs) Q E hr I.env0 (hb s us I.kIn hl) r2 h) fun r s' hq=>?_)
 cases r with
 | error e=>exact hx pins U H s e s' I hq
 | ok fl=>
  cases fl with
  | ret u=>exact I.after hq
  | next=>exact False.elim hq
  | brk=>exact False.elim hq
  | cont=>exact False.elim hq
theorem Zy(F:ZQ X.prog X.w X.K X.mg X.base CX k f fd ps sp)(hr:YR k X.A)(hg:Gl X x)(hm:X.mg x=some (.ref f))(hk:W.keepIn X.K (.ref f)=true)(hb:Binds X.K fd ps ds)(hd:Vals dvs ds)(hx:JE CX X E)(ha:PA X (e::es) t)(hdb:(x==("__debug__" :Str))=false:=by decide)(he:starEach (e::es) X.env=(false,eval e X.env)::starEach es X.env:=by rfl)(hpl:(backTo pos (starEach es X.env)).any (·.1)=false:=by rfl):
  PE X (.Call (.Name x p) (e::es) [] pos) (Id sp dvs E t):=by
 intro pins s U H Q I h;refine wpAny_Call_Name_kw (JZ I hg hm ?_ hdb);refine W.callWith_K (h₀:=X.base) I.ok.mod.kin hk (thn (ha pos pins s U H _ I h) fun us s1 ⟨vs,H1,I1,r,q⟩=>⟨I1.kIn,?_⟩) he hpl;exact R1 F hr hb hd hx I1 r q
theorem JU(he:PE X o ta)(c:Cls X.K C)(hm:XB X.K C m f)(F:ZQ X.prog X.w X.K X.mg X.base CX k f fd ps sp)(hr:YR k X.A)(hb:Binds X.K fd ps ds)(hd:Vals dvs ds)(hx:JE CX X E)(ha:PA X (e::es) t)(hst:starEach (e::es) X.env=(false,eval e X.env)::starEach es X.env:=by rfl)(hpl:(backTo pos (starEach es X.env)).any (·.1)=false:=by rfl)(ht:eval (.Call (.Attribute o m apos) (e::es) [] pos) X.env=(do
   let ov <-eval o X.env
   standAt apos.atName
   let (f,first) <-holding [ov] (getMethod ov m pl)
   callWith pos f first (backTo pos (starEach (e::es) X.env)) (backToKw pos (keywordEach [] X.env))):=by rfl):
  PE X (.Call (.Attribute o m apos) (e::es) [] pos) (BU C m sp dvs E ta t):=by
 intro pins s U H Q I h;refine W.methodCall_KW (pl:=pl) (thn (he pins s U H _ I h) fun u s1 ⟨x,H1,I1,rx,q⟩=>?_) ht;replace q:=Y6.old q;obtain ⟨a,ex,dx,fs,ea,l,q⟩:=q;subst ex;obtain rfl:u=Value.ref a:=rx;refine WH I1 ea c hm l ?_;refine W.callWith_K (first:= [.ref a]) (h₀:=X.base) I.ok.mod.kin hm.kp (thn (ha pos pins s1 U H1 _ I1 q) fun us s2 ⟨vs,H2,I2,r,q2⟩=>⟨I2.kIn,?_⟩) hst hpl;exact R1 (us:= .ref a::us) (vs:= .ref a::vs) F hr hb hd hx I2 (.cons rfl r) q2
theorem Tv(he:PE X o ta)(c:Cls X.K C)(hm:XB X.K C m f)(F:ZQ X.prog X.w X.K X.mg X.base CX k f fd ps sp)(hr:YR k X.A)(hb:Binds X.K fd ps ds)(hd:Vals dvs ds)(hx:JE CX X E)(ht:eval (.Call (.Attribute o m apos) [] [] pos) X.env=(do
   let ov <-eval o X.env
   standAt apos.atName
   let (f,first) <-holding [ov] (getMethod ov m pl)
   callWith pos f first (backTo pos (starEach [] X.env)) (backToKw pos (keywordEach [] X.env))):=by rfl):
  PE X (.Call (.Attribute o m apos) [] [] pos) (BU C m sp dvs E ta Jj):=by
 intro pins s U H Q I h;refine W.methodCall_KW (pl:=pl) (thn (he pins s U H _ I h) fun u s1 ⟨x,H1,I1,rx,q⟩=>?_) ht;replace q:=Y6.old q;obtain ⟨a,ex,dx,fs,ea,l,q⟩:=q;subst ex;obtain rfl:u=Value.ref a:=rx;refine WH I1 ea c hm l ?_;exact W.callWith_K0 (first:= [.ref a]) I1.kIn hm.kp (R1 (us:= [.ref a]) (vs:= [.ref a]) F hr hb hd hx I1 (.cons rfl .nil) q)
structure Mk(K:W.Frag)(C f:Addr):Prop where
 makes:W.makesIn K C=true
 init:W.findIn K (.ref C) "__init__" =some (some (.ref f))
 fn:W.isFn K (.ref f)=true
 kp:W.keepIn K (.ref C)=true
theorem Bt(M:Mk X.K C f)(F:ZQ X.prog X.w X.K X.mg X.base CX k f fd ps sp)(hr:YR (k + 1) X.A)(hb:Binds X.K fd ps ds)(hd:Vals dvs ds)(hx:JE CX X E)(I:Inv X pins U H s)(r:Vals vs us)(h:∀ x dx,H x=none->H dx=none->dx≠x->sp (.ref x::(vs++ dvs)) (upd (upd H dx (.own x)) x (.ins C dx [])) (fun v H2=>v= .non/\Q (.ref x) H2) E):
  wpAny (model X.prog X.w) X.A (call (.ref C) us) (EP X pins U Q) X.xe s:=by
 have hq:=h (s.heap.objs.size + 1) s.heap.objs.size (I.hok.fresh (Nat.le_succ _)) (I.hok.fresh (Om _)) (O9 (Nat.lt_succ_self _));have I2:=Inv.made (C:=C) I;have r2:Vals (V.ref (s.heap.objs.size + 1)::(vs++ dvs)) (Value.ref (s.heap.objs.size + 1)::(us++ ds)):= .cons rfl (r.append hd)
 have hl:(Value.ref (s.heap.objs.size + 1)::us++ ds).length=ps.length:=by
  have e:=r2.length;rw [F.len _ _ _ _ hq] at e;exact e.symm
 refine wpAny_call (T9 (f:=f) I.kIn M.makes M.init (beq_iff_eq.mp M.fn) (codeAny_mono (F.run _ X.stack _ _ ⟨Value.ref (s.heap.objs.size + 1)::us, []⟩ (Value.ref (s.heap.objs.size + 1)::(us++ ds)) _ _ E (hr.make C us [])
  (I2.env0.make C us []) (hb _ (Value.ref (s.heap.objs.size + 1)::us) I2.kIn hl) r2 hq) fun r s' hq'=>?_))
 cases r with
 | error e=>exact hx pins U _ _ e s' I2 hq'
 | ok fl=>
  cases fl with
  | ret u=>
   obtain ⟨v,H',I3,rv,ev,q3⟩:=I2.after hq';subst ev;exact ⟨rv,⟨V.ref (s.heap.objs.size + 1),H',I3,rfl,q3⟩⟩
  | next=>exact False.elim hq'
  | brk=>exact False.elim hq'
  | cont=>exact False.elim hq'
theorem FF(M:Mk X.K C f)(F:ZQ X.prog X.w X.K X.mg X.base CX k f fd ps sp)(hr:YR (k + 1) X.A)(hg:Gl X x)(hm:X.mg x=some (.ref C))(hb:Binds X.K fd ps ds)(hd:Vals dvs ds)(hx:JE CX X E)(ha:PA X (e::es) t)(hdb:(x==("__debug__" :Str))=false:=by decide)(he:starEach (e::es) X.env=(false,eval e X.env)::starEach es X.env:=by rfl)(hpl:(backTo pos (starEach es X.env)).any (·.1)=false:=by rfl):
  PE X (.Call (.Name x p) (e::es) [] pos) (LM C sp dvs E t):=by
 intro pins s U H Q I h;refine wpAny_Call_Name_kw (JZ I hg hm ?_ hdb);refine W.callWith_K (h₀:=X.base) I.ok.mod.kin M.kp (thn (ha pos pins s U H _ I h) fun us s1 ⟨vs,H1,I1,r,q⟩=>⟨I1.kIn,?_⟩) he hpl;exact Bt M F hr hb hd hx I1 r q
end
section
variable{fd:FuncData}{ps ks:List Str}{sp:Sp}{E:XK}{t tk:TA}
structure Oe(K:W.Frag)(fd:FuncData)(ps ks:List Str)(g:List Value->List Value->List Value)(gV:List V->List V->List V):Prop where
 to:∀ (s:Shared) (us ws:List Value),K.In s.heap->(g us ws).length=ps.length->BindsTo s fd ⟨us,ks.zip ws⟩ (ps.zip (g us ws))
 rel:∀ {vs:List V}{us:List Value}{zs:List V}{ws:List Value},Vals vs us->Vals zs ws->Vals (gV vs zs) (g us ws)
end
structure Za(N P:List Str)(sc:Scope):Prop where
 kind:sc.kind= .function
 co:sc.isCoroutine=false
 gen:sc.isGenerator=false
 nd:N.Nodup
 pre:N.take P.length=P
 par:∀ x∈P,sc.names.lookup x=some .local \/ sc.names.lookup x=some .cell
 nofree:∀ y∈sc.names,y.2≠ .free
theorem Wz{kindOf:Str->Option NameKind}:∀ {binds:List (Str × Value)}{m:Str->Option Value},(∀ v,(x,v) ∉ binds)->bindL kindOf binds m x=m x
 | [],_,_=>rfl
 | (n,v)::r,m,h=>by
  unfold bindL;rw [Wz fun w hw=>h w (Ot _ hw)]
  split
  .have:x≠n:=by rintro rfl;exact h v O5
   simp [this]
  .rfl
theorem W1{kindOf:Str->Option NameKind}:∀ {binds:List (Str × Value)}{m:Str->Option Value},(∀ v,(x,v) ∉ binds)->bindC kindOf binds m x=m x
 | [],_,_=>rfl
 | (n,v)::r,m,h=>by
  unfold bindC;rw [W1 fun w hw=>h w (Ot _ hw)]
  split
  .rfl
  .have:x≠n:=by rintro rfl;exact h v O5
   simp [this]
theorem W0{kindOf:Str->Option NameKind}:∀ {P:List Str}{vs:List Value}{i:Nat}{m:Str->Option Value},P.Nodup->P[i]?=some x->vs[i]?=some v->kindOf x=some .local->
  bindL kindOf (P.zip vs) m x=some v
 | [],_,_,_,_,h,_,_=>by simp at h
 | _::_, [],_,_,_,_,h,_=>by simp at h
 | p::P,w::vs,0,m,nd,h1,h2,hk=>by
  simp at h1 h2;subst h1;subst h2;show bindL kindOf ((p,w)::P.zip vs) m p=_;unfold bindL;rw [Wz fun v hv=>(List.nodup_cons.mp nd).1 (List.of_mem_zip hv).1,if_pos hk];simp
 | p::P,w::vs,i + 1,m,nd,h1,h2,hk=>by
  show bindL kindOf ((p,w)::P.zip vs) m x=_;unfold bindL;exact W0 (i:=i) (List.nodup_cons.mp nd).2 (by simpa using h1) (by simpa using h2) hk
theorem W3{kindOf:Str->Option NameKind}:∀ {P:List Str}{vs:List Value}{i:Nat}{m:Str->Option Value},P.Nodup->P[i]?=some x->vs[i]?=some v->kindOf x≠some .local->
  bindC kindOf (P.zip vs) m x=some v
 | [],_,_,_,_,h,_,_=>by simp at h
 | _::_, [],_,_,_,_,h,_=>by simp at h
 | p::P,w::vs,0,m,nd,h1,h2,hk=>by
  simp at h1 h2;subst h1;subst h2;show bindC kindOf ((p,w)::P.zip vs) m p=_;unfold bindC;rw [W1 fun v hv=>(List.nodup_cons.mp nd).1 (List.of_mem_zip hv).1,if_neg hk];simp
 | p::P,w::vs,i + 1,m,nd,h1,h2,hk=>by
  show bindC kindOf ((p,w)::P.zip vs) m x=_;unfold bindC;exact W3 (i:=i) (List.nodup_cons.mp nd).2 (by simpa using h1) (by simpa using h2) hk
def start(N:List Str)(vs:List V):St:=vs.map some++ List.replicate (N.length - vs.length) none
def Yo(CX:CXT)(P:Program)(w:World)(K:W.Frag)(mg:Str->Option Value)(base:Heap)(N:List Str)(qual:Str)(scope:Scope)(f:Addr)(cd:Value)(A:Around)(outer:List Env)(s:Shared)(H:Hp)(E:XK):Cx where
 prog:=P
 w:=w
 K:=K
 mg:=mg
 base:=base
 A:=A.deeper (envOfC qual scope s.heap.objs.size f cd)
 N:=N
 s₀:=s
 H₀:=H
 env:=envOfC qual scope s.heap.objs.size f cd
 outer:=outer
 stack:=envOfC qual scope s.heap.objs.size f cd::outer
 ex:= []
 calm:=true
 fn:=fun _=>true
 pn:= []
 xe:=fun e s'=>wpAny (model P w) (A.deeper (envOfC qual scope s.heap.objs.size f cd)) (leaving (envOfC qual scope s.heap.objs.size f cd) e) (fun _ s''=>CX outer H s E e s'') (fun e' s''=>CX outer H s E e' s'') s'
theorem RM{sc:Scope}(h:sc.names.lookup x=some .cell):∃ c,(cellsFrom n sc.names []).lookup x=some c:=by
 have q:=W.cellsFrom_some sc.names n [] (.inl h);exact Option.isSome_iff_exists.mp q
theorem Nz{CX:CXT}{P:Program}{w:World}{K:W.Frag}(S:Za N ps scope)(hd:A.handled=none)(e0:Ma P w K mg base A outer s H)(hl:vs.length=ps.length)(r:Vals vs us)(x:InCallC s s.heap.objs.size (bindL (envOfC qual scope s.heap.objs.size f cd).kindOf (ps.zip us) fun _=>none) (cellsFrom (s.heap.objs.size + 1) scope.names []) (bindC (envOfC qual scope s.heap.objs.size f cd).kindOf (ps.zip us) fun _=>none) s1):
  Inv (Yo CX P w K mg base N qual scope f cd A outer s H E) [] (start N vs) H s1:=by
 have hpl:ps.length<=N.length:=by have:=congrArg List.length S.pre;rw [Ou] at this;omega
 obtain ⟨h1,tk,rfl,hk⟩:=x.done;have noA:∀ b:Addr,b ∉ (Yo CX P w K mg base N qual scope f cd A outer s H E).ex:=fun b z=>absurd (show b∈([]:List Addr) from z) (by simp);refine ⟨⟨e0.mod,S.kind,rfl,rfl,Om _,fun y z c h1 h2=>?_,fun y hy=>?_,fun y c _ h=>?_,fun _=>hd,Around.frames_deeper e0.frames, .inr ⟨rfl,rfl⟩,fun b z=>absurd z (noA b),e0.bs,e0.bsz,fun b _ _=>noA b,fun b z=>absurd z (noA b),e0.funs,e0.frf⟩,
  rfl,e0.bare,Un.kept hk,⟨_,x.toInCall.ns,fun i y v h1 h2 h3=>?_⟩,fun y c h=>⟨_,x.cell y c h⟩,e0.hok.fresh (Om _),fun y c h=>?_,fun p hp=>absurd (show p∈([]:List (Addr × Obj)) from hp) (by simp),e0.hok.kept hk,?_⟩
 .exact name_of_addr x.apart (PySem.mem_of_lookup h1) (PySem.mem_of_lookup h2)
 .have hy:scope.names.lookup y=some .cell \/ scope.names.lookup y=some .free:=hy
  rcases hy with hy | hy
  .exact RM hy
  .exact absurd rfl (S.nofree _ (PySem.mem_of_lookup hy))
 .exact PF (x.above y c (PySem.mem_of_lookup h))
 .have hi:i < vs.length:=by
   unfold start at h2
   by_cases hi:i < vs.length
   .exact hi
   .rw [List.getElem?_append_right (by simpa using hi)] at h2
    rw [List.getElem?_replicate] at h2
    split at h2 <;> cases h2
  have ha:vs[i]?=some v:=by
   unfold start at h2;rw [List.getElem?_append_left (by simpa using hi),On] at h2
   cases e:vs[i]? with
   | none=>rw [e] at h2;cases h2
   | some a=>rw [e] at h2;cases h2;rfl
  obtain ⟨u,hu,rv⟩:=r.get ha
  have hp:ps[i]?=some y:=by
   rw [<-S.pre,List.getElem?_take_of_lt (by omega)];exact h1
  have ndP:ps.Nodup:=by rw [<-S.pre];exact S.nd.sublist (List.take_sublist _ _)
  refine ⟨u,rv,?_⟩;rcases S.par y (Oo hp) with k | k
  .exact .inl ⟨k,W0 ndP hp hu k⟩
  .obtain ⟨c,e⟩:=RM (n:=s.heap.objs.size + 1) k
   refine .inr ⟨.inl k,c,e,?_⟩;have q:=x.cell y c e;rw [W3 ndP hp hu (by show scope.names.lookup y≠_;rw [k];decide)] at q;exact q
 .exact e0.hok.fresh (PF (x.above y c (PySem.mem_of_lookup h)))
 .unfold start
  show _=N.length;rw [Os,Oh,List.length_replicate];omega
theorem Iq{CX:CXT}{P:Program}{K:W.Frag}{dV kV doc pm cdv ct oc:Value}(lk:K.lookup f=some ⟨oc,od, .func (W.fnOf name qual params body scope dV kV doc pm an cdv ct),osl⟩)(hcd:W.codeIn K cdv qual=true)(S:Za N ps scope)(len:∀ vs H Q E,sp vs H Q E->vs.length=ps.length)(hbody:∀ (A:Around) (outer:List Env) (s:Shared) (H:Hp) (vs:List V) (Q:VK) (E:XK),YR k (A.deeper (envOfC qual scope s.heap.objs.size f cdv))->sp vs H Q E->
   ∃ t,PSs (Yo CX P w K mg base N qual scope f cdv A outer s H E) body t/\t {nx:=fun _ H'=>Q .non H',rt:=Q} (start N vs) H):
  ZQ P w K mg base CX (k + 1) f (W.fnOf name qual params body scope dV kV doc pm an cdv ct) ps sp:=by
 refine ⟨len,fun A outer s H args us vs Q E hr e0 hb r hsp=>?_⟩;have hl:=len _ _ _ _ hsp;have KX:K.In s.heap:=e0.mod.kin.keeps fun b o e=>(e0.bs b o e).1;have lim:s.heap.NoLimit:=e0.mod.nolimit.keeps fun b o e=>(e0.bs b o e).1
 have hkind:∀ y∈ps.zip us,scope.names.lookup y.1=some .local \/ (scope.names.lookup y.1=some .cell/\((cellsFrom (s.heap.objs.size + 1) scope.names []).lookup y.1).isSome=true):=fun ⟨n,v⟩ hy=>by
  rcases S.par n (List.of_mem_zip hy).1 with q | q
  .exact .inl q
  .exact .inr ⟨q,W.cellsFrom_some _ _ _ (.inl q)⟩
 refine codeAny_call_function hr.depth (KX _ _ lk) rfl S.co S.gen rfl (W.codeRec_of KX hcd) (hb _ _ _ _ ?_);refine wpAny_newFunctionEnv_cells S.kind hkind fun env he s1 x=>?_;subst he;refine ⟨lim.keeps x.toInCall.keep,codeAny_func ?_⟩;obtain ⟨t,ht,hq⟩:=hbody A outer s H vs Q E (hr.deeper _) hsp;have I:Inv (Yo CX P w K mg base N qual scope f cdv A outer s H E) [] (start N vs) H s1:=Nz S hr.hd e0 hl r x;refine wpAny_mono (ht [] s1 (start N vs) H _ I hq) (fun fl s' hs=>?_) fun e s' hs=>hs
 have fin:∀ {U':St}{H':Hp}{v:V}{u:Value},Inv (Yo CX P w K mg base N qual scope f cdv A outer s H E) [] U' H' s'->RelV v u->Q v H'->CE outer P w H s Q u s':=
  fun {U' H' v u} J rv q=>⟨v,H',J.os,J.bare,J.base,J.hok,rv,q⟩
 cases fl with
 | ret u=>
  obtain ⟨v,U',H',J,rv,q⟩:=hs;exact fin J rv q
 | next=>
  obtain ⟨U',H',J,q⟩:=hs;exact fin (v:=V.non) (u:=Value.none) J rfl q
 | brk=>
  obtain ⟨_,_,_,q⟩:=hs;exact False.elim q
 | cont=>
  obtain ⟨_,_,_,q⟩:=hs;exact False.elim q
end L2
namespace L2
open PySem PySem.Spec PyProof.Rows
section
variable{t:TA}{id T:String}{r:List V->Hp->VK->Prop}
def tCB(r:List V->Hp->VK->Prop)(t:TA):TE:=fun U H Q=>t U H fun vs H1=>r vs H1 Q
theorem ZU(hc:VB X (.builtin id) r)(hg:Gl X x)(hm:X.mg x=none)(hv:bootBuiltins x=some (.builtin id))(ha:PA X (e::es) t)(hn:x≠"__name__" :=by decide)(hdb:(x==("__debug__" :Str))=false:=by decide)(he:starEach (e::es) X.env=(false,eval e X.env)::starEach es X.env:=by rfl)(hpl:(backTo pos (starEach es X.env)).any (·.1)=false:=by rfl):PE X (.Call (.Name x p) (e::es) [] pos) (tCB r t):=by
 intro pins s U H Q I h;refine wpAny_Call_Name_kw (Uw I hg hm hv ?_ hn hdb);exact PyProof.Rows.callWith_builtin1 (thn (ha pos pins s U H _ I h) fun us s1 ⟨vs,H1,I1,r1,q1⟩=>hc pins s1 U H1 vs us Q I1 r1 q1) he hpl
theorem Zm(hc:VB X (.type T) r)(hg:Gl X x)(hm:X.mg x=none)(hv:bootBuiltins x=some (.type T))(ha:PA X (e::es) t)(hn:x≠"__name__" :=by decide)(hdb:(x==("__debug__" :Str))=false:=by decide)(he:starEach (e::es) X.env=(false,eval e X.env)::starEach es X.env:=by rfl)(hpl:(backTo pos (starEach es X.env)).any (·.1)=false:=by rfl):PE X (.Call (.Name x p) (e::es) [] pos) (tCB r t):=by
 intro pins s U H Q I h;refine wpAny_Call_Name_kw (Uw I hg hm hv ?_ hn hdb);exact PyProof.Rows.callWith_type1 (thn (ha pos pins s U H _ I h) fun us s1 ⟨vs,H1,I1,r1,q1⟩=>hc pins s1 U H1 vs us Q I1 r1 q1) he hpl
end
end L2
namespace HT
open PySem PyProof.Rows
section
open PySem.SeqAt
open PySem.AutoSeq1 (wpAny_loadPart')
open PySem.MeetsSeq PySem.MeetsSeq2 PySem.MeetsSeq3
end
section
theorem cat_tup(ht:IsTup s.heap t vs.toArray)(hb:IsTup s.heap b ws.toArray)(hv:vs≠ [])(h1:ws= []->Q (.ref t) s)(h2:ws≠ []->Q (.ref s.heap.objs.size) {s with heap:=s.heap.push {cls:= .type "tuple",data:= .seq (vs++ ws).toArray}})(hsz:vs.length + ws.length<=sizeLine):wpAny (model prog w) A (binaryOp .Add (.ref t) (.ref b)) Q E s:=by
 obtain ⟨⟨cls,dd,data,sl⟩,ho,hc,n,hd⟩:=id ht;obtain ⟨⟨cls2,dd2,data2,sl2⟩,ho2,hc2,n2,hd2⟩:=id hb;simp only at hc hd hc2 hd2;subst hc hd hc2 hd2;have e:vs.toArray++ ws.toArray=(vs++ ws).toArray:=by simp
 by_cases hw:ws= []
 .exact concat_meets ⟨_,ho,rfl⟩ ⟨_,ho2,rfl⟩ noFill_tuple_add seq_tuple_add PySem.F.slot_tuple_add PySem.F.entry_tuple_add (PySem.F.args_tuple_add_2 _ _)
   (tuple_addW1 t b vs.toArray ws.toArray n n2 dd dd2 sl sl2 (by simpa using hv) (by simp [hw])) ⟨ho,ho2,h1 hw⟩
 .refine concat_meets ⟨_,ho,rfl⟩ ⟨_,ho2,rfl⟩ noFill_tuple_add seq_tuple_add PySem.F.slot_tuple_add PySem.F.entry_tuple_add (PySem.F.args_tuple_add_2 _ _)
   (tuple_addW2 t b vs.toArray ws.toArray n n2 dd dd2 sl sl2 (by simpa using hv) (by simpa using hw) (by rw [Ov,Ov];exact hsz)) ⟨ho,ho2,?_⟩
  rw [e];exact h2 hw
def sIx(n d:Nat):Option Int->Nat
 | none=>d
 | some v=>if v < 0 then (v + (n:Int)).toNat else min v.toNat n
theorem sIx_none(n d:Nat):sIx n d none=d:=rfl
theorem sIx_nat(n d k:Nat):sIx n d (some (k:Int))=min k n:=by
 show (if (k:Int) < 0 then ((k:Int) + (n:Int)).toNat else min (k:Int).toNat n)=min k n;rw [if_neg (by omega),Int.toNat_natCast]
theorem KY(n d:Nat)(hd:d<=n)(o:Option Int):sIx n d o<=n:=by
 cases o with
 | none=>exact hd
 | some v=>
  show (if v < 0 then (v + (n:Int)).toNat else min v.toNat n)<=n
  by_cases hv:v < 0
  .rw [if_pos hv];omega
  .rw [if_neg hv];exact Nat.min_le_right _ _
theorem NN(v:Int)(n d:Nat):(if v < 0 then max (v + (n:Int)) 0 else min v (n:Int))=((sIx n d (some v):Nat):Int):=by
 show (if v < 0 then max (v + (n:Int)) 0 else min v (n:Int))=(((if v < 0 then (v + (n:Int)).toNat else min v.toNat n):Nat):Int)
 by_cases hv:v < 0
 .simp only [if_pos hv];omega
 .simp only [if_neg hv];omega
theorem MY(lo hi:Option Int)(n:Nat):Builtin.Slice.sliceAdjust lo hi 1 (n:Int)=(((sIx n 0 lo:Nat):Int),((sIx n n hi:Nat):Int)):=by
 have h1: ¬ ((1:Int) < 0):=by omega
 unfold Builtin.Slice.sliceAdjust;simp only [h1,if_false];refine Prod.ext ?_ ?_
 .cases lo with
  | none=>rfl
  | some v=>exact NN v n 0
 .cases hi with
  | none=>rfl
  | some v=>exact NN v n n
theorem R8(i j:Nat):Builtin.Slice.slicePlaces (i:Int) (j:Int) 1=j - i:=by
 unfold Builtin.Slice.slicePlaces;have h1:(1:Int) > 0:=by omega
 simp only [h1,if_true,Int.ediv_one]
 split <;> omega
theorem Xy(p:IsPart v o)(h:Q o s):wpAny (model prog w) A (Builtin.Slice.slicePartIndex v) Q E s:=by
 cases p with
 | none=>exact slicePart_none h
 | int i t=>exact slicePart_int h
theorem Uj{lo hi:Option Int}{n:Nat}(hs:s.heap.IsSliceOf sl vl vu .none)(pl:IsPart vl lo)(pu:IsPart vu hi)(h:Q (((sIx n 0 lo:Nat):Int),1,sIx n n hi - sIx n 0 lo) s):wpAny (model prog w) A (Builtin.Slice.sliceApplied (.ref sl) (pure (n:Int))) Q E s:=by
 obtain ⟨os,hos,hcs,hds⟩:=id hs;unfold Builtin.Slice.sliceApplied Builtin.Slice.sliceFields;refine wpAny_bind (wpAny_bind (wpAny_field hos hds (x:=vl) rfl (wpAny_bind (wpAny_field hos hds (x:=vu) rfl (wpAny_bind (wpAny_field hos hds (x:= .none) rfl (wpAny_pure ?_)))))));refine wpAny_bind (slicePart_none ?_);show wpAny _ _ (if ((1:Int)==0)=true then _ else _) _ _ s;rw [if_neg (by decide)];refine wpAny_bind (Xy pl (wpAny_bind (Xy pu (wpAny_bind (wpAny_pure ?_)))));show wpAny _ _ (match Builtin.Slice.sliceAdjust lo hi 1 (n:Int) with | (lo,hi)=>pure (lo,(1:Int),Builtin.Slice.slicePlaces lo hi 1)) _ _ s;rw [MY lo hi n];show wpAny _ _ (pure (((sIx n 0 lo:Nat):Int),(1:Int),Builtin.Slice.slicePlaces ((sIx n 0 lo:Nat):Int) ((sIx n n hi:Nat):Int) 1)) _ _ s;rw [R8];exact wpAny_pure h
theorem B0(xs:Array Value)(i k:Nat):((List.range k).filterMap fun (m:Nat)=>xs[((i:Int) + (m:Int) * 1).toNat]?).toArray=((xs.toList.drop i).take k).toArray:=by
 have e:(fun (m:Nat)=>xs[((i:Int) + (m:Int) * 1).toNat]?)=fun m=>xs[i + m]?:=by
  funext m
  have:((i:Int) + (m:Int) * 1).toNat=i + m:=by omega
  rw [this]
 rw [e];have:=pick_run xs i k;rw [List.filterMap_map] at this;have e2:((fun x=>xs[x]?) ∘ fun x=>i + x)=fun m=>xs[i + m]?:=rfl;rw [e2] at this;rw [this]
theorem getItem_tuple_cut{lo hi:Option Int}(ht:IsTup s.heap t items)(hs:s.heap.IsSliceOf sl vl vu .none)(pl:IsPart vl lo)(pu:IsPart vu hi)(hw: ¬ (sIx items.size 0 lo=0/\sIx items.size items.size hi=items.size))(h:Q (.ref s.heap.objs.size) {s with heap:=s.heap.push {cls:= .type "tuple",data:= .seq ((items.toList.drop (sIx items.size 0 lo)).take (sIx items.size items.size hi - sIx items.size 0 lo)).toArray}})(hsz:items.size<=sizeLine):wpAny (model prog w) A (getItem (.ref t) (.ref sl)) Q E s:=by
 have htake:sizeOk (.seq ((items.toList.drop (sIx items.size 0 lo)).take (sIx items.size items.size hi - sIx items.size 0 lo)).toArray):=by
  show ((items.toList.drop (sIx items.size 0 lo)).take (sIx items.size items.size hi - sIx items.size 0 lo)).toArray.size<=sizeLine;rw [Ov,Ou,List.length_drop,Array.length_toList];omega
 have hj:sIx items.size items.size hi<=items.size:=KY _ _ (Om _) hi;obtain ⟨os,hos,hcs,hds⟩:=id hs;have hTs:s.TypeIs (.ref sl) "slice" :=⟨os,hos,hcs⟩;unfold getItem
 try with_reducible refine wpAny_holding ?_
 first | refine wpAny_bind (wpAny_pure ?_) | skip
 refine wpAny_bind (wpAny_sequenceKey ht.typeIs (by decide) ?_);refine wpAny_bind (wpAny_callSpecial?_slot (name:=Str.ofString "__getitem__") ht.typeIs PyProof.Rows.slot_tuple_getitem
  (wpAny_call_entry PyProof.Rows.slot_tuple_getitem ht.typeIs entry_tuple_getitem ?_ (args_tuple_getitem _ _)))
 show wpAny _ _ (Builtin.Tuple.tupleItemsOf (.ref t) >>=_) _ _ s;refine wpAny_bind (tupleItemsOf_ ht ?_);refine wpAny_bind (wpAny_typeOf hTs ?_);rw [if_pos (by decide)];refine wpAny_bind (Uj hs pl pu ?_)
 have hno: ¬ ((((sIx items.size 0 lo:Nat):Int)==0 && (1:Int)==1 && (sIx items.size items.size hi - sIx items.size 0 lo)==items.size)=true):=by
  intro q;rw [O4,O4] at q;have q1:((sIx items.size 0 lo:Nat):Int)=0:=eq_of_beq q.1.1;have q2:sIx items.size items.size hi - sIx items.size 0 lo=items.size:=eq_of_beq q.2;exact hw ⟨by omega,by omega⟩
 show wpAny _ _ (if (((sIx items.size 0 lo:Nat):Int)==0 && (1:Int)==1 && (sIx items.size items.size hi - sIx items.size 0 lo)==items.size)=true then _ else _) _ _ s;rw [if_neg hno,B0]
 first
  | exact wpAny_bind (m:=Builtin.Tuple.tupleExact _) (wpAny_newObj_type (wpAny_pure ⟨_,rfl,wpAny_pure h⟩) htake)
  | exact wpAny_bind (m:=Builtin.Tuple.tupleExact _) (wpAny_newObj_type (wpAny_bind (wpAny_pure (wpAny_pure ⟨_,rfl,wpAny_pure h⟩))) htake)
  | exact wpAny_bind (wpAny_bind (m:=Builtin.Tuple.tupleExact _) (wpAny_newObj_type (wpAny_pure (wpAny_pure ⟨_,rfl,wpAny_pure h⟩)) htake))
  | exact wpAny_bind (wpAny_bind (m:=Builtin.Tuple.tupleExact _) (wpAny_newObj_type (wpAny_pure ⟨_,rfl,wpAny_pure h⟩) htake))
end
end HT
namespace L2
open PySem PySem.Spec PyProof.Rows
abbrev TO:=St->Hp->(Option Int->Hp->Prop)->Prop
def PO(X:Cx)(e:Option Expr)(t:TO):Prop:=
 ∀ (pins:List (Addr × Obj)) (s:Shared) (U:St) (H:Hp) (Q:Option Int->Hp->Prop),Inv X pins U H s->t U H Q->
  wpAny (model X.prog X.w) X.A (evalPart e X.env) (fun u s'=> ∃ o H',Inv X pins U H' s'/\IsPart u o/\Q o H') X.xe s
def Ep:TO:=fun _ H Q=>Q none H
def LJ(t:TE):TO:=fun U H Q=>t U H fun x H1=> ∃ i,x= .int i/\Q (some i) H1
section
variable{X:Cx}{te:TE}{lo hi:Option Expr}{tl th:TO}
theorem YW:PO X none Ep:=by
 intro pins s U H Q I h;rw [evalPart_none];exact wpAny_pure ⟨none,H,I, .none,h⟩
theorem YE(h:PE X e te):PO X (some e) (LJ te):=by
 intro pins s U H Q I hw;rw [evalPart_some];refine thn (h pins s U H _ I hw) fun u s1 ⟨x,H1,I1,r1,q1⟩=>?_;obtain ⟨i,rfl,q⟩:=q1;obtain ⟨t,rfl⟩:=r1;exact ⟨some i,H1,I1, .int i t,q⟩
def SlR(X:Cx)(r:V->Option Int->Option Int->Hp->VK->Prop):Prop:=
 ∀ (pins:List (Addr × Obj)) (s:Shared) (U:St) (H:Hp) (x:V) (v vl vu:Value) (lo hi:Option Int) (sl:Addr) (Q:VK),Inv X pins U H s->RelV x v->s.heap.IsSliceOf sl vl vu .none->IsPart vl lo->IsPart vu hi->r x lo hi H Q->
  ∃ T id,typeLookup (.type T) "__getitem__" =pure (some (.builtin id))/\s.TypeIs v T/\wpAny (model X.prog X.w) X.A (getItem v (.ref sl)) (EP X pins U Q) X.xe s
def tSl(r:V->Option Int->Option Int->Hp->VK->Prop)(te:TE)(tl th:TO):TE:=fun U H Q=>te U H fun x H1=>tl U H1 fun l H2=>th U H2 fun u H3=>r x l u H3 Q
theorem Z3(hr:SlR X r)(he:PE X e te)(hl:PO X lo tl)(hu:PO X hi th):PE X (.Subscript e (.Slice lo hi none p2) pos) (tSl r te tl th):=by
 intro pins s U H Q I h;refine Subscript_ (thn (he pins s U H _ I h) fun v s1 ⟨x,H1,I1,r1,q1⟩=>?_);refine wpAny_Slice (thn (hl pins s1 U H1 _ I1 q1) fun vl s2 ⟨l,H2,I2,pl,q2⟩=>thn (hu pins s2 U H2 _ I2 q2) fun vu s3 ⟨u,H3,I3,pu,q3⟩=>?_);rw [evalPart_none];refine wpAny_pure ?_;have I4:Inv X pins U H3 {s3 with heap:=s3.heap.push {cls:= .type "slice",data:= .fields #[vl,vu, .none]}}:=I3.kept (t':=s3.toks) fun b ob q=>Oj _ q;obtain ⟨T,id,hT,ht,hg⟩:=hr pins {s3 with heap:=s3.heap.push {cls:= .type "slice",data:= .fields #[vl,vu, .none]}} U H3 x v vl vu l u s3.heap.objs.size Q I4 r1 (Heap.IsSliceOf.new ..) pl pu q3;show wpAny (model X.prog X.w) X.A (subscriptTail e (.Slice lo hi none p2) v (.ref s3.heap.objs.size)) (EP X pins U Q) X.xe {s3 with heap:=s3.heap.push {cls:= .type "slice",data:= .fields #[vl,vu, .none]}};exact tail_any (ops:= [.ref s3.heap.objs.size,v]) ht hT hg (by with_unfolding_all rfl)
def JN(xs:List V)(lo hi:Option Int):List V:=(xs.drop (HT.sIx xs.length 0 lo)).take (HT.sIx xs.length xs.length hi - HT.sIx xs.length 0 lo)
theorem XJ(xs:List V)(lo hi:Option Int):(JN xs lo hi).length<=xs.length:=by
 unfold JN;rw [Ou,List.length_drop];omega
def OK(K:W.Frag):V->Option Int->Option Int->Hp->VK->Prop:=fun x lo hi H Q=> ∃ a xs,x= .ref a/\SqT K H a xs/\
 ¬ (HT.sIx xs.length 0 lo=0/\HT.sIx xs.length xs.length hi=xs.length)/\∀ p,H p=none->Q (.ref p) (upd H p (.tup (JN xs lo hi)))
theorem Gc:SlR X (OK X.K):=by
 intro pins s U H x v vl vu lo hi sl Q I rx hs pl pu h;obtain ⟨a,xs,rfl,hx,hw,q⟩:=h;cases rx;obtain ⟨its,r,ht,hz⟩:=I.tuple hx;have hlen:its.toArray.size=xs.length:=by rw [Ov];exact r.length.symm
 refine ⟨"tuple",_,PyProof.Rows.slot_tuple_getitem.lookup,ht.typeIs,?_⟩;refine HT.getItem_tuple_cut ht hs pl pu (by rw [hlen];exact hw) ?_ (by rw [hlen];exact hz);rw [hlen];refine ⟨.ref s.heap.objs.size,_,I.laid (t':=s.toks) (o:= .tup (JN xs lo hi)) (fun b ob q=>Oj _ q) (Om _) ?_,rfl,q _ (I.hok.fresh (Om _))⟩;exact ⟨O6 (XJ xs lo hi) hz,_,(r.drop (HT.sIx xs.length 0 lo)).take (HT.sIx xs.length xs.length hi - HT.sIx xs.length 0 lo),XU.new _ _⟩
def Tq(K:W.Frag):R2:=fun x y H Q=> ∃ a b xs ys,x= .ref a/\y= .ref b/\SqT K H a xs/\SqT K H b ys/\xs≠ []/\xs.length + ys.length<=sizeLine/\
 (ys= []->Q (.ref a) H)/\(ys≠ []->∀ p,H p=none->Q (.ref p) (upd H p (.tup (xs++ ys))))
theorem Vals.nil_iff(r:Vals xs us):us= []↔xs= []:=by
 cases r with
 | nil=>simp
 | cons _ _=>simp
theorem FN:OpR X (binaryOp .Add) (Tq X.K):=by
 intro pins s U H x y v u Q I rx ry h;obtain ⟨a,b,xs,ys,rfl,rfl,ha,hb,hx,hz,q1,q2⟩:=h;cases rx;cases ry;obtain ⟨its,r1,p1,_⟩:=I.tuple ha;obtain ⟨its2,r2,p2,_⟩:=I.tuple hb;refine HT.cat_tup p1 p2 (fun z=>hx (r1.nil_iff.mp z)) (fun z=>⟨.ref a,H,I,rfl,q1 (r2.nil_iff.mp z)⟩) (fun z=>?_) (by rw [<-r1.length,<-r2.length];exact hz);refine ⟨.ref s.heap.objs.size,_,I.laid (t':=s.toks) (o:= .tup (xs++ ys)) (fun b ob q=>Oj _ q) (Om _) ?_,rfl,q2 (fun w=>z (r2.nil_iff.mpr w)) _ (I.hok.fresh (Om _))⟩;exact ⟨by rw [Os];exact hz,_,r1.append r2,XU.new _ _⟩
end
end L2
namespace L2
open PySem PySem.Spec PyProof.Rows
def ixN(n:Nat)(i:Int):Option Nat:=if 0<=i then (if i < n then some i.toNat else none) else if -(n:Int)<=i then some (i + n).toNat else none
def atI{α:Type}(xs:List α)(i:Int):Option α:=(ixN xs.length i).bind fun j=>xs[j]?
theorem G4(h:ixN n i=some j):seqIndex? i n=some j/\j < n/\ -(n:Int)<=i/\i < n:=by
 unfold ixN at h
 by_cases h0:0<=i
 .rw [if_pos h0] at h
  by_cases h1:i < n
  .rw [if_pos h1] at h
   have e:i.toNat=j:=Oy h;exact ⟨by rw [seqIndex_of h0 h1,e],by omega,by omega,h1⟩
  .rw [if_neg h1] at h;cases h
 .rw [if_neg h0] at h
  by_cases h1: -(n:Int)<=i
  .rw [if_pos h1] at h
   have e:(i + n).toNat=j:=Oy h;exact ⟨by rw [seqIndex_neg (by omega) h1,e],by omega,h1,by omega⟩
  .rw [if_neg h1] at h;cases h
theorem TR(h:atI xs i=some v):∃ j,seqIndex? i xs.length=some j/\xs[j]?=some v/\j < xs.length/\ -(xs.length:Int)<=i/\i < xs.length:=by
 unfold atI at h
 cases e:ixN xs.length i with
 | none=>rw [e] at h;cases h
 | some j=>
  rw [e] at h;obtain ⟨h1,h2,h3,h4⟩:=G4 e;exact ⟨j,h1,h,h2,h3,h4⟩
theorem YA{xs:List α}{j:Nat}{v:α}(h:xs[j]?=some v):atI xs (j:Int)=some v:=by
 have hj:j < xs.length:=(Ol.mp h).1
 have e:ixN xs.length (j:Int)=some j:=by
  unfold ixN;rw [if_pos (by omega),if_pos (by omega)];simp
 unfold atI;rw [e];exact h
def IU(b:Expr):Prop:= ∀ o i,subscripted b false o i=operate [o,i] (getItem o i)
def IxR(X:Cx)(r:R2):Prop:=
 ∀ (value slice:Expr) (pins:List (Addr × Obj)) (s:Shared) (U:St) (H:Hp) (x y:V) (v u:Value) (Q:VK),Inv X pins U H s->RelV x v->RelV y u->r x y H Q->
  subscripted slice false v u=operate [v,u] (getItem v u)->wpAny (model X.prog X.w) X.A (subscriptTail value slice v u) (EP X pins U Q) X.xe s
def MtR(X:Cx)(id:String)(r:V->List V->Hp->VK->Prop):Prop:=
 ∀ (pins:List (Addr × Obj)) (s:Shared) (U:St) (H:Hp) (x:V) (xs:List V) (v:Value) (us:List Value) (Q:VK),Inv X pins U H s->RelV x v->Vals xs us->r x xs H Q->
  wpAny (model X.prog X.w) X.A (call (.builtin id) (v::us)) (EP X pins U Q) X.xe s
section
variable{a b:Expr}{ta tb:TE}
theorem ZT(hr:IxR X r)(ha:PE X a ta)(hb:PE X b tb)(hs:IU b:=by exact fun _ _=>rfl):PE X (.Subscript a b pos) (tOp r ta tb):=by
 intro pins s U H Q I h;exact Subscript_ (LD ha hb I h fun v u s2 x y H2 I2 rx ry q=>hr a b pins s2 U H2 x y v u Q I2 rx ry q (hs _ _))
def R5(K:W.Frag):R2:=fun x y H Q=>Y6 x fun p=>Vw y fun i=> ∃ xs v,SqL K H p xs/\atI xs i=some v/\Q v H
theorem R5.old{K:W.Frag}(h:R5 K x y H Q):∃ p xs i v,x= .ref p/\y= .int i/\SqL K H p xs/\atI xs i=some v/\Q v H:=by
 replace h:=Y6.old h;obtain ⟨p,e,h⟩:=h;replace h:=Vw.old h;obtain ⟨i,e',xs,v,h⟩:=h;exact ⟨p,xs,i,v,e,e',h⟩
def Jm(K:W.Frag):R2:=fun x y H Q=>Y6 x fun p=>Vw y fun i=> ∃ xs v,SqT K H p xs/\atI xs i=some v/\Q v H
theorem Jm.old{K:W.Frag}(h:Jm K x y H Q):∃ p xs i v,x= .ref p/\y= .int i/\SqT K H p xs/\atI xs i=some v/\Q v H:=by
 replace h:=Y6.old h;obtain ⟨p,e,h⟩:=h;replace h:=Vw.old h;obtain ⟨i,e',xs,v,h⟩:=h;exact ⟨p,xs,i,v,e,e',h⟩
def E7:R2:=fun x y H Q=> ∃ z i c,x= .str z/\y= .int i/\z.length<=sizeLine/\atI z.cps.toList i=some c/\Q (.str ⟨#[c]⟩) H
theorem Zh:IxR X (R5 X.K):=by
 intro value slice pins s U H x y v u Q I rx ry h hs;replace h:=R5.old h;obtain ⟨p,xs,i,z,rfl,rfl,hq,he,q⟩:=h;cases rx;obtain ⟨t,rfl⟩:=ry;obtain ⟨its,r,pl,hz⟩:=I.list hq;obtain ⟨j,h1,h2,h3,h4,h5⟩:=TR he;obtain ⟨w,ew,rw'⟩:=r.get h2;have hl:=r.length;have hn:=Uv;have fin:EP X pins U Q w s:=⟨z,H,I,rw',q⟩
 by_cases h0:0<=i
 .have hj:i.toNat=j:=by
   rw [seqIndex_of h0 h5] at h1;exact Oy h1
  exact item_listR pl.isList h0 (by omega) (by rw [hj];simpa using ew) fin hs
 .have hj:(i + (its.toArray.size:Int)).toNat=j:=by
   rw [seqIndex_neg (by omega) h4] at h1;rw [Ov,<-hl];exact Oy h1
  exact subscriptTail_builtinR (x:=w) pl.isList.typeIs slot_list_getitem.lookup
   (wpAny_getItem_list_neg (Q:=fun r s'=>r=w/\EP X pins U Q r s') pl.isList (by omega) (by rw [Ov] <;> omega) (by omega) (by rw [hj];simpa using ew) ⟨rfl,fin⟩) hs
theorem Zc:IxR X (Jm X.K):=by
 intro value slice pins s U H x y v u Q I rx ry h hs;replace h:=Jm.old h;obtain ⟨p,xs,i,z,rfl,rfl,hq,he,q⟩:=h;cases rx;obtain ⟨t,rfl⟩:=ry;obtain ⟨its,r,pl,hz⟩:=I.tuple hq;obtain ⟨j,h1,h2,h3,h4,h5⟩:=TR he;obtain ⟨w,ew,rw'⟩:=r.get h2;have hl:=r.length;have hn:=Uv;have fin:EP X pins U Q w s:=⟨z,H,I,rw',q⟩;exact subscriptTail_builtinR (x:=w) pl.typeIs slot_tuple_getitem.lookup
  (getItem_tuple (j:=j) (Q:=fun r s'=>r=w/\EP X pins U Q r s') pl (by omega) (by omega) (by rw [Ov,<-hl];exact h1) (by simpa using ew) ⟨rfl,fin⟩) hs
theorem WE:IxR X E7:=by
 intro value slice pins s U H x y v u Q I rx ry h hs;obtain ⟨z,i,c,rfl,rfl,hz,he,q⟩:=h;obtain ⟨t,rfl⟩:=rx;obtain ⟨t',rfl⟩:=ry;obtain ⟨j,h1,h2,h3,h4,h5⟩:=TR he;have hl:z.cps.toList.length=z.length:=by simp [Str.length]
 rw [hl] at h1 h4 h5;have hn:=Uv
 exact tail_any (typeIs_str s z t) slot_str_getitem.lookup (getItem_str (c:=c) (by
  have e1:decide (i < -(2 ^ 63:Int))=false:=decide_eq_false (by omega);have e2:decide (i ≥ 2 ^ 63)=false:=decide_eq_false (by omega);rw [e1,e2,Bool.or_false]) (by rw [h1];simpa using h2) ⟨.str ⟨#[c]⟩,H,I.tok _,⟨_,rfl⟩,q⟩) hs
theorem MG(its:List Value)(n j:Nat)(u:Value):Obj.mapSeq (·.setIfInBounds j u) {cls:= .type "list",data:= .seq its.toArray n}={cls:= .type "list",data:= .seq (its.set j u).toArray n}:=by
 simp [Obj.mapSeq]
theorem Inv.lst(I:Inv X pins U H s)(h:H p=some (.lst xs)):
  ∃ (its:List Value) (n:Nat),Vals xs its/\s.heap.get? p=some {cls:= .type "list",data:= .seq its.toArray n}/\xs.length<=sizeLine:=by
 obtain ⟨z,its,n,r,e⟩:=I.hok p _ h;exact ⟨its,n,r,e,z⟩
theorem Inv.lstUpd{its its':List Value}(I:Inv X pins U H s)(h:H p=some (.lst xs))(ho:s.heap.get? p=some {cls:= .type "list",data:= .seq its.toArray n})(hf:f {cls:= .type "list",data:= .seq its.toArray n}={cls:= .type "list",data:= .seq its'.toArray n'})(r:Vals ys its')(hz:ys.length<=sizeLine)(t:Nat):
  Inv X pins U (upd H p (.lst ys)) {s with heap:=s.heap.update p f,toks:=t}:=by
 have e:(s.heap.update p f).get? p=some {cls:= .type "list",data:= .seq its'.toArray n'}:=by
  rw [Heap.get?_update_self f ho (by rw [hf] <;> rfl),hf]
 refine I.write (x:=p) (e:=p) (by rw [h];trivial) (.inl rfl) (fun b u hb q=>(Heap.get?_update_other _ _ (Ne.symm hb)).trans q) ⟨_,e⟩ ?_;exact ⟨hz,its',n',r,e⟩
def LX:V->V->V->Hp->(Hp->Prop)->Prop:=fun o i v H Q=> ∃ p xs k j,o= .ref p/\i= .int k/\H p=some (.lst xs)/\ixN xs.length k=some j/\Q (upd H p (.lst (xs.set j v)))
theorem set_list:L1 X LX:=by
 intro pins s U H o i v ov iv u Q I ro ri rv h;obtain ⟨p,xs,k,j,rfl,rfl,hp,hj,q⟩:=h;cases ro;obtain ⟨t,rfl⟩:=ri;obtain ⟨its,n,r,ho,hz⟩:=I.lst hp;obtain ⟨h1,h2,h3,h4⟩:=G4 hj;have hl:=r.length;have hn:=Uv
 have I':Inv X pins U (upd H p (.lst (xs.set j v))) {s with heap:=s.heap.update p (Obj.mapSeq (·.setIfInBounds j u))}:=
  I.lstUpd hp ho (MG its n j u) (r.set rv j) (by rw [List.length_set];exact hz) s.toks
 by_cases h0:0<=k
 .have hk:k.toNat=j:=by
   rw [seqIndex_of h0 h4] at h1;exact Oy h1
  exact W.ki_setAt ho h0 (by omega) (by rw [Ov,<-hl];exact h4) (by rw [hk];exact ⟨_,I',q⟩)
 .have hk:(k + (its.toArray.size:Int)).toNat=j:=by
   rw [seqIndex_neg (by omega) h3] at h1;rw [Ov,<-hl];exact Oy h1
  exact W.ki_setBack ho (by omega) (by rw [Ov,<-hl];exact h3) (by omega) (by rw [hk];exact ⟨_,I',q⟩)
theorem Gb(lo hi:Option Int)(n:Nat):(sliceBounds lo hi none n).1=((HT.sIx n 0 lo:Nat):Int)/\(sliceBounds lo hi none n).2.1=((HT.sIx n n hi:Nat):Int)/\(sliceBounds lo hi none n).2.2=1:=by
 refine ⟨?_,?_,rfl⟩
 .cases lo with
  | none=>simp [sliceBounds,HT.sIx]
  | some i=>
   simp only [sliceBounds,HT.sIx,Option.getD_none,show (1:Int) > 0 by decide,if_true]
   by_cases h:i < 0
   .simp only [h,if_true] <;> omega
   .simp only [h,if_false] <;> omega
 .cases hi with
  | none=>simp [sliceBounds,HT.sIx]
  | some i=>
   simp only [sliceBounds,HT.sIx,Option.getD_none,show (1:Int) > 0 by decide,if_true]
   by_cases h:i < 0
   .simp only [h,if_true] <;> omega
   .simp only [h,if_false] <;> omega
theorem WT(its:List Value)(lo hi:Option Int):slicePick its.toArray lo hi none=((its.drop (HT.sIx its.length 0 lo)).take (HT.sIx its.length its.length hi - HT.sIx its.length 0 lo)).toArray:=by
 obtain ⟨h1,h2,h3⟩:=Gb lo hi its.toArray.size;unfold slicePick;rw [h1,h2,h3];simp only [sliceRange_one,pick_run,Ov] <;> rfl
def OM(K:W.Frag):V->Option Int->Option Int->Hp->VK->Prop:=fun x lo hi H Q=> ∃ a xs,x= .ref a/\SqL K H a xs/\∀ p,H p=none->Q (.ref p) (upd H p (.lst (JN xs lo hi)))
theorem V2:SlR X (OM X.K):=by
 intro pins s U H x v vl vu lo hi sl Q I rx hs pl pu h;obtain ⟨a,xs,rfl,hx,q⟩:=h;cases rx;obtain ⟨its,r,ht,hz⟩:=I.list hx;have hlen:=r.length;refine ⟨"list",_,slot_list_getitem.lookup,ht.isList.typeIs,?_⟩;refine wpAny_getItem_list_slice ht.isList hs pl pu .none (by simp) ?_ (by rw [Ov] <;> omega);rw [WT,<-hlen];refine ⟨.ref s.heap.objs.size,_,I.laid (t':=s.toks) (o:= .lst (JN xs lo hi)) (fun b ob q=>Oj _ q) (Om _) ?_,rfl,q _ (I.hok.fresh (Om _))⟩;exact ⟨O6 (XJ xs lo hi) hz,_,0,(r.drop (HT.sIx xs.length 0 lo)).take (HT.sIx xs.length xs.length hi - HT.sIx xs.length 0 lo),O3 _ rfl⟩
def Ua:V->Bool
 | .non=>true
 | .bl _=>true
 | .int _=>true
 | .str _=>true
 | _=>false
def eqV:V->V->Bool
 | .non, .non=>true
 | .bl a, .bl b=>a==b
 | .bl a, .int b=>(if a then 1 else 0)==b
 | .int a, .bl b=>a==(if b then 1 else 0)
 | .int a, .int b=>a==b
 | .str a, .str b=>a==b
 | _,_=>false
theorem K9(ry:RelV y u)(rx:RelV x v)(fy:Ua y=true)(fx:Ua x=true):SeqAt.EqAt A s u v (eqV y x):=by
 cases y with
 | non=>
  cases ry
  cases x with
  | non=>cases rx;exact SeqAt.EqAt.same _
  | bl b=>cases rx;exact SeqAt.EqAt.none_bool b
  | int b=>obtain ⟨t,rfl⟩:=rx;exact SeqAt.EqAt.none_int b t
  | str b=>obtain ⟨t,rfl⟩:=rx;exact SeqAt.EqAt.none_str b t
  | _=>exact absurd (show false=true from fx) PH
 | bl a=>
  cases ry
  cases x with
  | non=>cases rx;exact SeqAt.EqAt.bool_none a
  | bl b=>cases rx;exact SeqAt.EqAt.bool_bool a b
  | int b=>obtain ⟨t,rfl⟩:=rx;exact SeqAt.EqAt.bool_int a b t
  | str b=>obtain ⟨t,rfl⟩:=rx;exact SeqAt.EqAt.bool_str a b t
  | _=>exact absurd (show false=true from fx) PH
 | int a=>
  obtain ⟨t',rfl⟩:=ry
  cases x with
  | non=>cases rx;exact SeqAt.EqAt.int_none a t'
  | bl b=>cases rx;exact SeqAt.EqAt.int_bool a t' b
  | int b=>obtain ⟨t,rfl⟩:=rx;exact SeqAt.EqAt.int_int a t' b t
  | str b=>obtain ⟨t,rfl⟩:=rx;exact SeqAt.EqAt.int_str a t' b t
  | _=>exact absurd (show false=true from fx) PH
 | str a=>
  obtain ⟨t',rfl⟩:=ry
  cases x with
  | non=>cases rx;exact SeqAt.EqAt.str_none a t'
  | bl b=>cases rx;exact SeqAt.EqAt.str_bool a t' b
  | int b=>obtain ⟨t,rfl⟩:=rx;exact SeqAt.EqAt.str_int a t' b t
  | str b=>obtain ⟨t,rfl⟩:=rx;exact SeqAt.EqAt.str_str a t' b t
  | _=>exact absurd (show false=true from fx) PH
 | _=>exact absurd (show false=true from fy) PH
def eqU(x:V)(u:Value):Bool:=match u with
 | .none=>eqV .non x
 | .bool b=>eqV (.bl b) x
 | .int i _=>eqV (.int i) x
 | .str z _=>eqV (.str z) x
 | _=>false
theorem EI(r:RelV y u)(f:Ua y=true):eqU x u=eqV y x:=by
 cases y with
 | non=>cases r;rfl
 | bl b=>cases r;rfl
 | int i=>obtain ⟨t,rfl⟩:=r;rfl
 | str z=>obtain ⟨t,rfl⟩:=r;rfl
 | _=>exact absurd (show false=true from f) PH
theorem Ue:∀ {xs:List V}{us:List Value},Vals xs us->xs.all Ua=true->us.any (eqU x)=xs.any fun y=>eqV y x
 | _,_, .nil,_=>rfl
 | y::xs,u::us, .cons r t,f=>by
  rw [List.all_cons,O4] at f;rw [List.any_cons,List.any_cons,EI r f.1,Ue t f.2]
theorem Jq(rx:RelV x v)(fx:Ua x=true):∀ {xs:List V}{us:List Value},Vals xs us->xs.all Ua=true->∀ u∈us,SeqAt.EqAt A s u v (eqU x u)
 | _,_, .nil,_=>fun u hu=>by cases hu
 | y::xs,u::us, .cons r t,f=>fun u' hu=>by
  rw [List.all_cons,O4] at f;rcases O8.mp hu with rfl | hu
  .rw [EI r f.1];exact K9 r rx f.1 fx
  .exact Jq rx fx t f.2 u' hu
def inV(x:V)(xs:List V):Bool:=xs.any fun y=>eqV y x
def rIn(K:W.Frag)(neg:Bool):R2:=fun x y H Q=> ∃ p xs,y= .ref p/\(SqL K H p xs \/ SqT K H p xs)/\Ua x=true/\xs.all Ua=true/\Q (.bl (if neg then !inV x xs else inV x xs)) H
theorem Uu:OpR X (compareOp .In) (rIn X.K false):=by
 intro pins s U H x y v u Q I rx ry h;obtain ⟨p,xs,rfl,hq,fx,fs,q⟩:=h;cases ry;rcases hq with hq | hq
 .obtain ⟨its,r,pl,hz⟩:=I.list hq
  refine SeqAt.in_listAt (eqU x) pl.isList (fun w hw=>Jq rx fx r fs w (by simpa using hw)) ⟨.bl _,H,I,rfl,?_⟩;rw [show its.toArray.any (eqU x)=its.any (eqU x) by simp,Ue r fs];exact q
 .obtain ⟨its,r,pl,hz⟩:=I.tuple hq
  refine SeqAt.in_tupleAt (eqU x) pl (fun w hw=>Jq rx fx r fs w (by simpa using hw)) ⟨.bl _,H,I,rfl,?_⟩;rw [show its.toArray.any (eqU x)=its.any (eqU x) by simp,Ue r fs];exact q
theorem Gz:OpR X (compareOp .NotIn) (rIn X.K true):=by
 intro pins s U H x y v u Q I rx ry h;obtain ⟨p,xs,rfl,hq,fx,fs,q⟩:=h;cases ry;rcases hq with hq | hq
 .obtain ⟨its,r,pl,hz⟩:=I.list hq
  refine SeqAt.notIn_listAt (eqU x) pl.isList (fun w hw=>Jq rx fx r fs w (by simpa using hw)) ⟨.bl _,H,I,rfl,?_⟩;rw [show its.toArray.any (eqU x)=its.any (eqU x) by simp,Ue r fs];exact q
 .obtain ⟨its,r,pl,hz⟩:=I.tuple hq
  refine SeqAt.notIn_tupleAt (eqU x) pl (fun w hw=>Jq rx fx r fs w (by simpa using hw)) ⟨.bl _,H,I,rfl,?_⟩;rw [show its.toArray.any (eqU x)=its.any (eqU x) by simp,Ue r fs];exact q
theorem ZP:VB X (.builtin "len") (fun xs H Q=> ∃ p ys,xs= [.ref p]/\(SqL X.K H p ys \/ SqT X.K H p ys)/\Q (.int ys.length) H):=by
 intro pins s U H xs us Q I r h;obtain ⟨p,ys,rfl,hq,q⟩:=h;obtain ⟨u,rfl,rx⟩:=vals1 r;cases rx;have hn:=Uv;rcases hq with hq | hq
 .obtain ⟨its,r',pl,hz⟩:=I.list hq
  have hlen:=r'.length;exact Calls.call_len_list pl.isList (by simp only [Ov] <;> omega) ⟨.int ys.length,H,I.tok _,⟨s.toks + 1,by rw [Ov,hlen]⟩,q⟩
 .obtain ⟨its,r',pl,hz⟩:=I.tuple hq
  have hlen:=r'.length;exact len_tuple pl (by simp only [Ov] <;> omega) ⟨.int ys.length,H,I.tok _,⟨s.toks + 1,by rw [Ov,hlen]⟩,q⟩
theorem Vd:VB X (.builtin "len") (fun xs H Q=> ∃ z,xs= [.str z]/\z.length<=sizeLine/\Q (.int z.length) H):=by
 intro pins s U H xs us Q I r h;obtain ⟨z,rfl,hz,q⟩:=h;obtain ⟨u,rfl,t,rfl⟩:=vals1 r;have hn:=Uv;exact len_str (by omega) ⟨.int z.length,H,I.tok _,⟨_,rfl⟩,q⟩
theorem YH:VB X (.type "list") (fun xs H Q=> ∃ p ys,xs= [.ref p]/\(SqL X.K H p ys \/ SqT X.K H p ys)/\∀ l,H l=none->Q (.ref l) (upd H l (.lst ys))):=by
 intro pins s U H xs us Q I r h;obtain ⟨p,ys,rfl,hq,q⟩:=h;obtain ⟨u,rfl,rx⟩:=vals1 r;cases rx;have fin:∀ (its:List Value),Vals ys its->ys.length<=sizeLine->∀ (h':Heap) (c':Nat),(∀ b o',s.heap.get? b=some o'->h'.get? b=some o')->
   h'.get? s.heap.objs.size=some {cls:= .type "list",dict:=none,data:= .seq its.toArray c',slots:= #[]}->EP X pins U Q (.ref s.heap.objs.size) {s with heap:=h'}:=fun its r' hz h' c' kp e=>
  ⟨.ref s.heap.objs.size,_,I.laid (t':=s.toks) kp (Om _) (show Zr X.prog X.w _ h' _ (.lst ys) from ⟨hz,its,c',r',e⟩),rfl,q _ (I.hok.fresh (Om _))⟩
 rcases hq with hq | hq
 .obtain ⟨its,r',pl,hz⟩:=I.list hq
  have hlen:=r'.length;obtain ⟨o,ho,hc,n,hd⟩:=pl.isList;exact call_list_seq p (.inl rfl) ho hc hd (fun h' c' kp e=>fin its r' hz h' c' kp e) (by simp only [Ov] <;> omega)
 .obtain ⟨its,r',pl,hz⟩:=I.tuple hq
  have hlen:=r'.length;obtain ⟨o,ho,hc,n,hd⟩:=pl;exact call_list_seq p (.inr rfl) ho hc hd (fun h' c' kp e=>fin its r' hz h' c' kp e) (by simp only [Ov] <;> omega)
theorem Yq:VB X (.type "tuple") (fun xs H Q=> ∃ p ys,xs= [.ref p]/\((SqL X.K H p ys/\∀ l,H l=none->Q (.ref l) (upd H l (.tup ys))) \/ (SqT X.K H p ys/\Q (.ref p) H))):=by
 intro pins s U H xs us Q I r h;obtain ⟨p,ys,rfl,h⟩:=h;obtain ⟨u,rfl,rx⟩:=vals1 r;cases rx;rcases h with ⟨hq,q⟩ | ⟨hq,q⟩
 .obtain ⟨its,r',pl,hz⟩:=I.list hq
  have hlen:=r'.length;refine call_tuple_list pl.isList (fun h' kp=>?_) (by simp only [Ov] <;> omega);have I1:Inv X pins U H {s with heap:=h'}:=I.kept (t':=s.toks) kp
  have I2:Inv X pins U (upd H h'.objs.size (.tup ys)) {s with heap:=h'.push {cls:= .type "tuple",data:= .seq its.toArray}}:=
   I1.laid (t':=s.toks) (fun b o e=>Oj _ e) (Om _) (show Zr X.prog X.w _ _ _ (.tup ys) from ⟨hz,its,r',XU.new _ _⟩)
  exact ⟨.ref h'.objs.size,_,I2,rfl,q _ (I1.hok.fresh (Om _))⟩
 .obtain ⟨its,r',pl,hz⟩:=I.tuple hq
  exact call_tuple_same pl ⟨.ref p,H,I,rfl,q⟩
def tyV(K:W.Frag)(T:String)(x:V)(H:Hp):Prop:=match x with
 | .str _=>T="str"
 | .int _=>T="int"
 | .ref p=>(T="list" /\∃ xs,SqL K H p xs) \/ (T="tuple" /\∃ o,K.lookup p=some o/\o.cls= .type "tuple" /\o.dict=none) \/
   (T="dict" /\((∃ kvs,H p=some (.dK kvs)) \/ ∃ kvs,H p=some (.dT kvs))) \/ (T="set" /\∃ S n,H p=some (.set S n))
 | _=>False
theorem BQ(I:Inv X pins U H s)(r:RelV x v)(ty:tyV X.K T x H):
  s.TypeIs v T/\∀ a,v= .ref a->∃ ob,s.heap.get? a=some ob/\ob.dict=none:=by
 cases x with
 | str z=>
  obtain ⟨t,rfl⟩:=r;cases (show T="str" from ty);exact ⟨typeIs_str s z t,fun _ e=>nomatch e⟩
 | int i=>
  obtain ⟨t,rfl⟩:=r;cases (show T="int" from ty);exact ⟨typeIs_int s i t,fun _ e=>nomatch e⟩
 | ref p=>
  cases r;rcases ty with ⟨rfl,xs,hq⟩ | ⟨rfl,o,hk,hc,hd⟩ | ⟨rfl,hk⟩ | ⟨rfl,S,n,hk⟩
  .obtain ⟨its,_,pl,_⟩:=I.list hq
   refine ⟨pl.isList.typeIs,fun a e=>?_⟩;cases e;obtain ⟨o,n,e,c,hd,_⟩:=pl;exact ⟨o,e,hd⟩
  .refine ⟨⟨o,I.kIn p o hk,hc⟩,fun a e=>?_⟩
   cases e;exact ⟨o,I.kIn _ o hk,hd⟩
  .have z:∃ o,s.heap.get? p=some o/\o.ExactDict:=by
    rcases hk with ⟨kvs,hk⟩ | ⟨kvs,hk⟩
    .obtain ⟨_,_,_,_,o,_,_,e,ex,_⟩:=I.hok p _ hk
     exact ⟨o,e,ex⟩
    .obtain ⟨_,_,_,_,o,_,_,e,ex,_⟩:=I.hok p _ hk
     exact ⟨o,e,ex⟩
   obtain ⟨o,e,ex⟩:=z;refine ⟨⟨o,e,ex.1⟩,fun a e2=>?_⟩;cases e2;exact ⟨o,e,ex.2.1⟩
  .obtain ⟨o,_,_,_,e,ex,_⟩:=I.hok p _ hk
   refine ⟨⟨o,e,ex.1⟩,fun a e2=>?_⟩;cases e2;exact ⟨o,e,ex.2.1⟩
 | _=>exact False.elim ty
def OD(K:W.Frag)(T:String)(r:V->List V->Hp->VK->Prop)(to:TE):TE:=fun U H Q=>to U H fun x H1=>tyV K T x H1/\r x [] H1 Q
def tBM(K:W.Frag)(T:String)(r:V->List V->Hp->VK->Prop)(to:TE)(t:TA):TE:=fun U H Q=>to U H fun x H1=>tyV K T x H1/\t U H1 fun xs H2=>r x xs H2 Q
variable{T id:String}
theorem R9(pa:PlainAttrs T)(slot:Slot T name id)(hty:typeOf (.builtin id)=pure (.type "method_descriptor"))(hm:MtR X id r)(ho:PE X o to)(hbase:attributeBase o name X.env (eval o X.env)=eval o X.env:=by rfl)(hline:(apos.endLine==cpos.line)=true:=by rfl):PE X (.Call (.Attribute o name apos) [] [] cpos) (OD X.K T r to):=by
 intro pins s U H Q I h;refine wpAny_Call_method0_late hbase hline (thn (ho pins s U H _ I h) fun v s1 ⟨x,H1,I1,r1,ty,q1⟩=>?_);obtain ⟨h1,h2⟩:=BQ I1 r1 ty;exact ⟨T,id,pa,slot,hty,h1,h2,Calls.callWith_builtin rfl (PySem.evalArgs_none (hm pins s1 U H1 x [] v [] Q I1 r1 .nil q1))⟩
theorem JI(pa:PlainAttrs T)(slot:Slot T name id)(hty:typeOf (.builtin id)=pure (.type "method_descriptor"))(hm:MtR X id r)(ho:PE X o to)(ha:PA X (e::es) t)(hbase:attributeBase o name X.env (eval o X.env)=eval o X.env:=by rfl)(hfew:((backTo cpos (starEach (e::es) X.env)).all (fun x=>!x.1) && (backToKw cpos (keywordEach [] X.env)).all (fun x=>x.1.isSome)
   && decide ((e::es).length + ([]:List Keyword).length + (if ([]:List Keyword).isEmpty then 0 else 1) < 30))=true:=by rfl)(hline:(apos.endLine==cpos.line)=true:=by rfl)(hs:starEach (e::es) X.env=(false,eval e X.env)::starEach es X.env:=by rfl)(hplain:(backTo cpos (starEach es X.env)).any (·.1)=false:=by rfl):
  PE X (.Call (.Attribute o name apos) (e::es) [] cpos) (tBM X.K T r to t):=by
 intro pins s U H Q I h;refine wpAny_Call_method_late hbase hfew hline rfl (thn (ho pins s U H _ I h) fun v s1 ⟨x,H1,I1,r1,ty,q1⟩=>?_);obtain ⟨h1,h2⟩:=BQ I1 r1 ty;refine ⟨T,id,pa,slot,hty,h1,h2,?_⟩;have hA:=ha cpos pins s1 U H1 _ I1 q1;rw [hs] at hA |-;refine Calls.callWith_builtin (by show (false || (backTo cpos (starEach es X.env)).any (·.1))=false;rw [hplain] <;> rfl) (Calls.evalArgs_plain ?_);exact thn hA fun us s2 ⟨vs,H2,I2,r2,q2⟩=>hm pins s2 U H2 x vs v us Q I2 r1 r2 q2
end
end L2
namespace L2
open PySem PySem.Spec PyProof.Rows
def MtM(X:Cx)(id:String)(r:V->List V->Hp->VK->Prop):Prop:=
 ∀ (pins:List (Addr × Obj)) (s:Shared) (U:St) (H:Hp) (x:V) (xs:List V) (v:Value) (us:List Value) (Q:VK),Inv X pins U H s->RelV x v->Vals xs us->r x xs H Q->
  wpAny (model X.prog X.w) X.A (call (.builtin id) (v::us)) (EP X pins U Q) X.xe s
theorem Vals.one:∀ {x:V}{us:List Value},Vals [x] us->∃ u,us= [u]/\RelV x u
 | _,_, .cons r .nil=>⟨_,rfl,r⟩
section
theorem Inv.lset{its its':List Value}(I:Inv X pins U H s)(hH:H l=some (.lst xs))(e:s.heap.get? l=some {cls:= .type "list",data:= .seq its.toArray n})(hf:f its.toArray=its'.toArray)(hv:Vals ys its')(hz:ys.length<=sizeLine):
  Inv X pins U (upd H l (.lst ys)) {s with heap:=s.heap.update l (Obj.mapSeq f),toks:=t'}:=by
 have q:=PySem.IsL.update e f;rw [hf] at q;refine I.write (x:=l) (e:=l) (by rw [hH];exact trivial) (.inl rfl) (fun b' u hb hu=>(Heap.get?_update_other s.heap (Obj.mapSeq f) (Ne.symm hb)).trans hu) ⟨_,q⟩ ?_;exact ⟨hz,its',_,hv,q⟩
theorem Inv.lnew(I:Inv X pins U H s)(hv:Vals ys its)(hz:ys.length<=sizeLine):
  Inv X pins U (upd H s.heap.objs.size (.lst ys)) {s with heap:=s.heap.push {cls:= .type "list",data:= .seq its.toArray},toks:=t'}:=
 I.laid (fun _ _ q=>Oj _ q) (Om _) ⟨hz,its,0,hv,O3 _ rfl⟩
theorem Inv.fresh(I:Inv X pins U H s):H s.heap.objs.size=none:=I.hok.fresh (Om _)
theorem Inv.lstM(I:Inv X pins U H s)(hH:H l=some (.lst xs)):xs.length<=sizeLine/\∃ (its:List Value) (n:Nat),Vals xs its/\xs.length=its.length/\s.heap.get? l=some {cls:= .type "list",data:= .seq its.toArray n}:=by
 obtain ⟨z,its,n,r,e⟩:=I.hok l _ hH;exact ⟨z,its,n,r,r.length,e⟩
end
section
def Mu:V->List V->Hp->VK->Prop:=fun x vs H Q=> ∃ l xs y,x= .ref l/\vs= [y]/\H l=some (.lst xs)/\xs.length < sizeLine/\Q .non (upd H l (.lst (xs++ [y])))
theorem Yp:MtM X "list.append" Mu:=by
 intro pins s U H x vs v us Q I rx rv h;obtain ⟨l,xs,y,rfl,rfl,hH,hz,q⟩:=h;cases rx;obtain ⟨u,rfl,ru⟩:=rv.one;obtain ⟨z,its,n,r,hl,e⟩:=I.lstM hH;refine call_meets F.slot_list_append ⟨_,e,rfl⟩ F.entry_list_append (F.args_list_append_2 _ _) (PySem.list_append l its.toArray n u (by rw [Ov];omega)) ⟨e,?_⟩;refine ⟨.non,_,I.lset (its':=its++ [u]) hH e (by simp) (r.append (.cons ru .nil)) ?_,rfl,q⟩;rw [Os,List.length_singleton];omega
def Lb:R2:=fun x y H Q=> ∃ l b xs zs,x= .ref l/\y= .ref b/\H l=some (.lst xs)/\H b=some (.lst zs)/\xs.length + zs.length<=sizeLine/\∀ p,H p=none->Q (.ref p) (upd H p (.lst (xs++ zs)))
theorem Vu:OpR X (binaryOp .Add) Lb:=by
 intro pins s U H x y v u Q I rx ry h;obtain ⟨l,b,xs,zs,rfl,rfl,hH,hB,hz,q⟩:=h;cases rx;cases ry;obtain ⟨z,its,n,r,hl,e⟩:=I.lstM hH;obtain ⟨z2,its2,n2,r2,hl2,e2⟩:=I.lstM hB;refine PySem.P.add_list e e2 ?_ (by rw [Ov,Ov];omega);have ea:its.toArray++ its2.toArray=(its++ its2).toArray:=by simp
 rw [ea];exact ⟨.ref _,_,I.lnew (t':=s.toks) (r.append r2) (by rw [Os];omega),rfl,q _ I.fresh⟩
theorem len_rep(xs:List α)(k:Nat):(List.replicate k xs).flatten.length=k * xs.length:=by
 induction k with
 | zero=>simp
 | succ k ih=>rw [List.replicate_succ,List.flatten_cons,Os,ih,Nat.succ_mul,Nat.add_comm]
end
section
set_option maxRecDepth 100000 in
end
end L2
namespace L2
open PySem PySem.Spec PyProof.Rows
section
variable{κ:Type}[DecidableEq κ]
def Zl(kvs:List (κ × V))(k:κ):Option V:=(kvs.find? fun kv=>decide (kv.1=k)).map (·.2)
def putK(kvs:List (κ × V))(k:κ)(v:V):List (κ × V):=
 if (kvs.any fun kv=>decide (kv.1=k))=true then kvs.map (fun kv=>if kv.1=k then (kv.1,v) else kv) else kvs++ [(k,v)]
theorem Yt{p:κ × V}(e:p.1=k):Zl (p::r) k=some p.2:=by simp [Zl,List.find?_cons,e]
theorem Yu{p:κ × V}(e: ¬ p.1=k):Zl (p::r) k=Zl r k:=by simp [Zl,List.find?_cons,e]
theorem JG(k:κ):∀ kvs:List (κ × V),(kvs.any fun kv=>decide (kv.1=k))=(Zl kvs k).isSome
 | []=>rfl
 | p::r=>by
  rw [List.any_cons]
  by_cases e:p.1=k
  .simp only [Yt e,decide_eq_true e,Bool.true_or,Option.isSome_some]
  .rw [Yu e,decide_eq_false e,Bool.false_or];exact JG k r
theorem Tb(k j:κ)(y:V):∀ kvs:List (κ × V),Zl (kvs.map fun kv=>if kv.1=k then (kv.1,y) else kv) j=(Zl kvs j).map fun x=>if j=k then y else x
 | []=>rfl
 | p::r=>by
  have ih:=Tb k j y r;rw [O0]
  by_cases h:p.1=k
  .rw [if_pos h]
   by_cases e:p.1=j
   .rw [Yt (p:=(p.1,y)) e,Yt e,Option.map_some,if_pos (e.symm.trans h)]
   .rw [Yu (p:=(p.1,y)) e,Yu e,ih]
  .rw [if_neg h]
   by_cases e:p.1=j
   .rw [Yt (p:=p) e,Yt e,Option.map_some,if_neg (fun z=>h (e.trans z))]
   .rw [Yu (p:=p) e,Yu e,ih]
theorem WY(k j:κ)(y:V):∀ kvs:List (κ × V),Zl kvs k=none->Zl (kvs++ [(k,y)]) j=if j=k then some y else Zl kvs j
 | [],_=>by
  by_cases e:k=j
  .rw [if_pos e.symm];exact Yt (p:=(k,y)) e
  .rw [if_neg (fun z=>e z.symm)];exact Yu (p:=(k,y)) e
 | p::r,hn=>by
  rw [List.cons_append];have hk: ¬ p.1=k:=fun z=>by rw [Yt z] at hn;cases hn
  rw [Yu hk] at hn;have ih:=WY k j y r hn
  by_cases e:p.1=j
  .rw [Yt e,Yt e,if_neg (fun z=>hk (e.trans z))]
  .rw [Yu e,Yu e,ih]
theorem VC(kvs:List (κ × V))(k j:κ)(y:V):Zl (putK kvs k y) j=if j=k then some y else Zl kvs j:=by
 unfold putK
 by_cases a:(kvs.any fun kv=>decide (kv.1=k))=true
 .rw [if_pos a,Tb]
  rw [JG] at a
  by_cases e:j=k
  .obtain ⟨x,hx⟩:=Option.isSome_iff_exists.mp a
   rw [if_pos e,e,hx,Option.map_some,if_pos rfl]
  .rw [if_neg e]
   cases Zl kvs j with
   | none=>rfl
   | some x=>rw [Option.map_some,if_neg e]
 .rw [if_neg a]
  refine WY k j y kvs ?_;rw [JG] at a
  cases q:Zl kvs k with
  | none=>rfl
  | some x=>rw [q] at a;exact (a rfl).elim
theorem YL(kvs:List (κ × V))(k:κ)(v:V):(putK kvs k v).length<=kvs.length + 1:=by
 unfold putK
 split
 .rw [Oh];omega
 .rw [Os,PB,List.length_nil];omega
theorem Jn{kvs:List (κ × V)}(v:V)(h:Zl kvs k=none):putK kvs k v=kvs++ [(k,v)]:=by
 unfold putK;rw [JG,h];exact if_neg (by decide)
theorem JD.isSome_eq(r:JD o u):o.isSome=u.isSome:=by
 cases o with
 | none=>cases u with
  | none=>rfl
  | some _=>exact (show False from r).elim
 | some _=>cases u with
  | none=>exact (show False from r).elim
  | some _=>rfl
theorem KV.val(r:KV kvs vs)(k:κ):JD (Zl kvs k) (valueAt vs k):=by
 unfold KV at r
 induction r with
 | nil=>exact True.intro
 | @cons p q ps qs h t ih=>
  obtain ⟨h1,h2⟩:=h
  by_cases e:p.1=k
  .have e':q.1=k:=h1.symm.trans e
   have b:valueAt (q::qs) k=some q.2:=by simp [valueAt,List.find?_cons,e']
   rw [Yt e,b];exact h2
  .have e': ¬ q.1=k:=fun z=>e (h1.trans z)
   have b:valueAt (q::qs) k=valueAt qs k:=by simp [valueAt,List.find?_cons,e']
   rw [Yu e,b];exact ih
theorem KV.any(r:KV kvs vs)(k:κ):(kvs.any fun kv=>decide (kv.1=k))=vs.any fun kv=>decide (kv.1=k):=by
 unfold KV at r
 induction r with
 | nil=>rfl
 | cons h t ih=>rw [List.any_cons,List.any_cons,ih,h.1]
theorem KV.repl(r:KV kvs vs)(k:κ)(ry:RelV y u):
  KV (kvs.map fun kv=>if kv.1=k then (kv.1,y) else kv) (vs.map fun kv=>if kv.1=k then (kv.1,u) else kv):=by
 unfold KV at r |-
 induction r with
 | nil=>exact .nil
 | @cons p q ps qs h t ih=>
  rw [O0,O0];refine .cons ?_ ih;obtain ⟨h1,h2⟩:=h
  by_cases e:p.1=k
  .rw [if_pos e,if_pos (h1.symm.trans e)];exact ⟨h1,ry⟩
  .rw [if_neg e,if_neg (fun z=>e (h1.trans z))];exact ⟨h1,h2⟩
theorem KV.put(r:KV kvs vs)(k:κ)(ry:RelV y u):KV (putK kvs k y) (stored vs k u):=by
 unfold putK stored;rw [r.any k]
 by_cases e:(vs.any fun kv=>decide (kv.1=k))=true
 .rw [if_pos e,if_pos e];exact r.repl k ry
 .rw [if_neg e,if_neg e];exact Paired.snoc r ⟨rfl,ry⟩
theorem KV.keys{kvs:List (κ × V)}(r:KV kvs vs):kvs.map (·.1)=vs.map (·.1):=by
 unfold KV at r
 induction r with
 | nil=>rfl
 | cons h t ih=>rw [O0,O0,ih,h.1]
theorem KV.length(r:KV kvs vs):kvs.length=vs.length:=Paired.length r
end
theorem XG(r:RelV (kV k) u):(Z2 P w).is k u=true:=by
 cases k with
 | inl i=>obtain ⟨t,e⟩:=(show ∃ t,u=Value.int i t from r);subst e;exact T7 P w i t
 | inr x=>obtain ⟨t,e⟩:=(show ∃ t,u=Value.str x t from r);subst e;exact T6 P w x t
theorem Wn:∀ {ks:List Key}{us:List Value},Vals (ks.map kV) us->ItemsAre (Z2 P w) ks us
 | [],_,r=>by rw [List.map_nil] at r;cases r;exact .nil
 | k::ks,_,r=>by
  rw [O0] at r
  cases r with
  | cons h t=>exact .cons (XG h) (Wn t)
abbrev KT(H:Hp):List (List Key × V)->List (List Key × Addr × Value)->Prop:=Paired fun p q=>p.1=q.1/\H q.2.1=some (.tup (p.1.map kV))/\RelV p.2 q.2.2
theorem KT.val(r:KT H kvs xs)(k:List Key):JD (Zl kvs k) ((atKey xs k).map (·.2)):=by
 induction r with
 | nil=>exact True.intro
 | @cons p q ps qs h t ih=>
  obtain ⟨h1,_,h2⟩:=h
  by_cases e:p.1=k
  .have e':q.1=k:=h1.symm.trans e
   have b:atKey (q::qs) k=some q.2:=by simp [atKey,List.find?_cons,e']
   rw [Yt e,b];exact h2
  .have e': ¬ q.1=k:=fun z=>e (h1.trans z)
   have b:atKey (q::qs) k=atKey qs k:=by simp [atKey,List.find?_cons,e']
   rw [Yu e,b];exact ih
theorem KT.repl(r:KT H kvs xs)(k:List Key)(ry:RelV y u):
  KT H (kvs.map fun kv=>if kv.1=k then (kv.1,y) else kv) (xs.map (putAt k u)):=by
 induction r with
 | nil=>exact .nil
 | @cons p q ps qs h t ih=>
  rw [O0,O0];refine .cons ?_ ih;obtain ⟨h1,h2,h3⟩:=h;unfold putAt
  by_cases e:p.1=k
  .rw [if_pos e,if_pos (h1.symm.trans e)];exact ⟨h1,h2,ry⟩
  .rw [if_neg e,if_neg (fun z=>e (h1.trans z))];exact ⟨h1,h2,h3⟩
theorem KT.put(r:KT H kvs xs)(k:List Key)(hb:H b=some (.tup (k.map kV)))(ry:RelV y u):
  KT H (putK kvs k y) (storedH xs k b u):=by
 have e:(kvs.any fun kv=>decide (kv.1=k))=(atKey xs k).isSome:=by
  rw [JG,(r.val k).isSome_eq,Option.isSome_map]
 unfold putK storedH;rw [e]
 by_cases q:(atKey xs k).isSome=true
 .rw [if_pos q,if_pos q];exact r.repl k ry
 .rw [if_neg q,if_neg q];exact Paired.snoc r ⟨rfl,hb,ry⟩
theorem KT.keeps(r:KT H kvs xs)(ht:∀ b ys,H b=some (.tup ys)->H' b=some (.tup ys)):KT H' kvs xs:=
 Paired.mapP r fun _ _ z=>⟨z.1,ht _ _ z.2.1,z.2.2⟩
section
theorem Ih(ok:HOk P w H h)(e:Rd H a u):Zr P w H h a u:=e.ok ok
theorem XI(ok:HOk P w H h)(e:Rd H a (.dK kvs)):kvs.length<=sizeLine/\(a==sysModules)=false/\∃ vs,KV kvs vs/\h.DictOf (Z2 P w) a vs:=
 show Zr P w H h a (.dK kvs) from Ih ok e
theorem EO(ok:HOk P w H h)(e:H a=some (.dK kvs)):kvs.length<=sizeLine/\(a==sysModules)=false/\∃ vs,KV kvs vs/\h.DictOf (Z2 P w) a vs:=XI ok (.inl e)
theorem WD(ok:HOk P w H h)(e:H a=some (.tup (ks.map kV))):(tupleKind (Z2 P w)).is h ks a:=by
 obtain ⟨_,its,r,o,h1,_,h2,n,h3⟩:=(show Zr P w H h a (.tup (ks.map kV)) from ok a _ e);exact ⟨o,its.toArray,n,h1,h2,h3,by simpa using Wn r⟩
theorem RH(ok:HOk P w H h)(e:Rd H a (.dT kvs)):kvs.length<=sizeLine/\(a==sysModules)=false/\
  ∃ xs,KT H kvs xs/\h.DictOfH (tupleKind (Z2 P w)) a xs:=by
 obtain ⟨z,y,xs,r,o,es,ep,h1,h2,h3,h4,h5⟩:=(show Zr P w H h a (.dT kvs) from Ih ok e);refine ⟨z,y,xs,r,o,es,ep,h1,h2,h3,h4,fun x hx=>?_,h5⟩
 have all:∀ {l:List (List Key × V)}{m:List (List Key × Addr × Value)},KT H l m->∀ x∈m,(tupleKind (Z2 P w)).is h x.1 x.2.1:=by
  intro l m q
  induction q with
  | nil=>intro x hx;exact nomatch hx
  | @cons p q ps qs hq t ih=>
   intro x hx;rcases O8.mp hx with e | hx
   .subst e
    exact WD ok (by rw [<-hq.1];exact hq.2.1)
   .exact ih x hx
 exact all r x hx
theorem EK(ok:HOk P w H h)(e:H a=some (.dT kvs)):kvs.length<=sizeLine/\(a==sysModules)=false/\
  ∃ xs,KT H kvs xs/\h.DictOfH (tupleKind (Z2 P w)) a xs:=RH ok (.inl e)
end
def YD(H:Hp)(a:Addr)(y:V)(r:Option V):Prop:=
 (∃ kvs k,Rd H a (.dK kvs)/\y=kV k/\r=Zl kvs k) \/ ∃ kvs k b,Rd H a (.dT kvs)/\y= .ref b/\H b=some (.tup (k.map kV))/\r=Zl kvs k
def VJ(H:Hp)(a:Addr)(y v:V)(H':Hp):Prop:=
 (∃ kvs k,H a=some (.dK kvs)/\y=kV k/\kvs.length < sizeLine/\H'=upd H a (.dK (putK kvs k v))) \/
 ∃ kvs k b,H a=some (.dT kvs)/\y= .ref b/\H b=some (.tup (k.map kV))/\kvs.length < sizeLine/\H'=upd H a (.dT (putK kvs k v))
theorem YD.k{k:Key}(e:H a=some (.dK kvs)):YD H a (kV k) (Zl kvs k):= .inl ⟨kvs,k, .inl e,rfl,rfl⟩
theorem YD.t{k:List Key}(e:H a=some (.dT kvs))(eb:H b=some (.tup (k.map kV))):YD H a (.ref b) (Zl kvs k):= .inr ⟨kvs,k,b, .inl e,rfl,eb,rfl⟩
theorem VJ.k{k:Key}(e:H a=some (.dK kvs))(hl:kvs.length < sizeLine):VJ H a (kV k) v (upd H a (.dK (putK kvs k v))):= .inl ⟨kvs,k,e,rfl,hl,rfl⟩
theorem VJ.t{k:List Key}(e:H a=some (.dT kvs))(eb:H b=some (.tup (k.map kV)))(hl:kvs.length < sizeLine):
  VJ H a (.ref b) v (upd H a (.dT (putK kvs k v))):= .inr ⟨kvs,k,b,e,rfl,eb,hl,rfl⟩
section
theorem Inv.big(I:Inv X pins U H s):sysModules < s.heap.objs.size:=by
 have h:mainGlobals < s.heap.objs.size:=(I.mod.glob.keeps I.bk).lt;exact Nat.lt_trans (by decide) h
theorem BH(hu:A.units + 1 < cLine)(I:Inv X pins U H s)(g:YD H a y (some v))(ry:RelV y u)(h:∀ w' s',Inv X pins U H s'->RelV v w'->Q w' s'):
  wpAny (model X.prog X.w) A (getItem (.ref a) u) Q E s:=by
 rcases g with ⟨kvs,k,e,ey,l⟩ | ⟨kvs,k,b,e,ey,eb,l⟩
 .subst ey
  obtain ⟨z,hd,vs,rel,dd⟩:=XI I.hok e;obtain ⟨w',hw,rw'⟩:=JD.some_of (v:=v) (o:=valueAt vs k) (by rw [l];exact rel.val k);exact wpAny_getItem_of (XG ry) dd.mapOf hw (h w' _ (I.tok _) rw')
 .subst ey
  cases (show u=Value.ref b from ry);obtain ⟨z,hd,xs,rel,dd⟩:=RH I.hok e;obtain ⟨w',hw,rw'⟩:=JD.some_of (v:=v) (o:=(atKey xs k).map (·.2)) (by rw [l];exact rel.val k);obtain ⟨p,hp,hp2⟩:=PJ.mp hw;refine wpAny_getItem_heap (tupleKind_room_in1 hu) (WD I.hok eb) dd hp ?_;rw [hp2];exact h w' _ (I.tok _) rw'
theorem Oc(hu:A.units + 1 < cLine)(I:Inv X pins U H s)(g:YD H a y o)(ry:RelV y u)(h:∀ s',Inv X pins U H s'->Q (.bool o.isSome) s'):
  wpAny (model X.prog X.w) A (compareOp .In u (.ref a)) Q E s:=by
 rcases g with ⟨kvs,k,e,ey,l⟩ | ⟨kvs,k,b,e,ey,eb,l⟩
 .subst ey
  obtain ⟨z,hd,vs,rel,dd⟩:=XI I.hok e;refine wpAny_in_of (XG ry) hd dd.mapOf ?_;rw [<-(rel.val k).isSome_eq,<-l];exact h _ (I.tok _)
 .subst ey
  cases (show u=Value.ref b from ry);obtain ⟨z,hd,xs,rel,dd⟩:=RH I.hok e;refine wpAny_in_heap (tupleKind_room_in1 hu) (WD I.hok eb) hd dd ?_;have q:=(rel.val k).isSome_eq;rw [Option.isSome_map] at q;rw [<-q,<-l];exact h _ (I.tok _)
theorem IK(hu:A.units + 1 < cLine)(I:Inv X pins U H s)(g:YD H a y o)(ry:RelV y u)(h:∀ s',Inv X pins U H s'->Q (.bool (!o.isSome)) s'):
  wpAny (model X.prog X.w) A (compareOp .NotIn u (.ref a)) Q E s:=by
 rcases g with ⟨kvs,k,e,ey,l⟩ | ⟨kvs,k,b,e,ey,eb,l⟩
 .subst ey
  obtain ⟨z,hd,vs,rel,dd⟩:=XI I.hok e;refine wpAny_notIn_of (XG ry) hd dd.mapOf ?_;rw [<-(rel.val k).isSome_eq,<-l];exact h _ (I.tok _)
 .subst ey
  cases (show u=Value.ref b from ry);obtain ⟨z,hd,xs,rel,dd⟩:=RH I.hok e;refine wpAny_notIn_heap (tupleKind_room_in1 hu) (WD I.hok eb) hd dd ?_;have q:=(rel.val k).isSome_eq;rw [Option.isSome_map] at q;rw [<-q,<-l];exact h _ (I.tok _)
theorem TF(I:Inv X pins U H s)(mu:Mut (H a))(hs:Heap.SameBut a s.heap h')(he:∃ q,h'.get? a=some q)(new:Zr X.prog X.w (upd H a ob) h' a ob):
  Inv X pins U (upd H a ob) {s with heap:=h',toks:=t'}:=
 I.write (x:=a) (e:=a) mu (.inl rfl) (fun b q hb z=>(hs.2 b hb).trans z) he new
theorem WK(z:kvs.length<=sizeLine)(hd:(a==sysModules)=false)(rel:KV kvs vs)(dd:h'.DictOf (Z2 P w) a vs):
  Zr P w H' h' a (.dK kvs):=⟨z,hd,vs,rel,dd⟩
theorem BG(hu:A.units + 1 < cLine)(I:Inv X pins U H s)(g:VJ H a y v H')(ry:RelV y u)(rv:RelV v r)(h:∀ s',Inv X pins U H' s'->Q () s'):
  wpAny (model X.prog X.w) A (setItem (.ref a) u r) Q E s:=by
 rcases g with ⟨kvs,k,e,ey,l,eH⟩ | ⟨kvs,k,b,e,ey,eb,l,eH⟩
 .subst ey eH
  obtain ⟨z,hd,vs,rel,dd⟩:=EO I.hok e;have hz:vs.length<=sizeLine:=by rw [<-rel.length];exact z
  have hl:(putK kvs k v).length<=sizeLine:=by have:=YL kvs k v;omega
  refine wpAny_setItem_pairs (hsz:=hz) (XG ry) dd fun h' dd' hs=>h _ ?_;have he:∃ q,h'.get? a=some q:=let ⟨q,_,_,hq,_⟩:=dd';⟨q,hq⟩
  exact TF I (by rw [e];exact True.intro) hs he (WK hl hd (rel.put k rv) dd')
 .subst ey eH
  cases (show u=Value.ref b from ry);obtain ⟨z,hd,xs,rel,dd⟩:=EK I.hok e;have hz:xs.length<=sizeLine:=by rw [<-Paired.length rel];exact z
  have hl:(putK kvs k v).length<=sizeLine:=by have:=YL kvs k v;omega
  refine wpAny_setItem_heap (hsz:=hz) (tupleKind_room_in1 hu) (WD I.hok eb) dd fun h' dd' hs=>h _ ?_;obtain ⟨q,es,ep,hq,h2,h3,h4,_,h5⟩:=dd';refine TF I (by rw [e];exact True.intro) hs ⟨q,hq⟩ ⟨hl,hd,_,(rel.put k eb rv).keeps fun c ys ec=>?_,q,es,ep,hq,h2,h3,h4,h5⟩;rw [ZE (YY ec e (fun z=>nomatch z))];exact ec
end
section
theorem Lx(I:Inv X pins U H s)(e:Rd H a (.dK kvs))(h:∀ t s',Inv X pins U H s'->Q (.int kvs.length t) s'):wpAny (model X.prog X.w) A (call (.builtin "len") [.ref a]) Q E s:=by
 obtain ⟨z,hd,vs,rel,dd⟩:=XI I.hok e;refine call_len_dict hd dd (by rw [<-rel.length];rw [sizeLine_eq] at z;omega) ?_;rw [<-rel.length];exact h _ _ (I.tok _)
end
def L3(i:Expr):Prop:= ∀ ov iv,subscripted i false ov iv=operate [ov,iv] (getItem ov iv)
theorem Es{T id:String}(hl:typeLookup (.type T) "__getitem__" =pure (some (.builtin id)))(hs:L3 slice)(h:wpAny (model prog w) A (eval value env) (fun o s₁=>wpAny (model prog w) A (eval slice env) (fun i s₂=>s₂.TypeIs o T/\wpAny (model prog w) A (getItem o i) Q E s₂) E s₁) E s):
  wpAny (model prog w) A (eval (.Subscript value slice pos) env) Q E s:=by
 refine Subscript_ (wpAny_mono h (fun o s₁ h₁=>wpAny_mono h₁ (fun i s₂ h₂=>?_) fun _ _ x=>x) fun _ _ x=>x);obtain ⟨hT,h₂⟩:=h₂;unfold subscriptTail;refine wpAny_bind ?_;rw [getitemInPython_of_ne hT.not_modules];refine wpAny_bind (wpAny_specialOf hT hl ?_)
 have fin:wpAny (model prog w) A (subscripted slice false o i) (fun r s₃=>wpAny (model prog w) A (letTemporaryGo value o r >>=fun _=>pure r) Q E s₃) E s₂:=by
  rw [hs o i];exact wpAny_operating (wpAny_mono h₂ (fun r s₃ h₃=>wpAny_bind (wpAny_letTemporaryGo (wpAny_pure h₃))) fun _ _ x=>x)
 first
  | exact wpAny_pure (wpAny_bind fin)
  | exact wpAny_bind (wpAny_pure (wpAny_bind fin))
  | exact wpAny_bind fin
theorem RK(I:Inv X pins U H s)(g:YD H a y o):s.TypeIs (.ref a) "dict" :=by
 rcases g with ⟨kvs,k,e,_,_⟩ | ⟨kvs,k,b,e,_,_,_⟩
 .obtain ⟨_,_,vs,_,dd⟩:=XI I.hok e
  exact dd.typeIs
 .obtain ⟨_,_,xs,_,dd⟩:=RH I.hok e
  exact dd.typeIs
def Ib(td ty:TE):TE:=fun U H Q=>td U H fun x H1=>ty U H1 fun y H2=>Y6 x fun a=> ∃ v,YD H2 a y (some v)/\Q v H2
def OC(ty td:TE):TE:=fun U H Q=>ty U H fun y H1=>td U H1 fun x H2=>Y6 x fun a=> ∃ o,YD H2 a y o/\Q (.bl o.isSome) H2
def Er(ty td:TE):TE:=fun U H Q=>ty U H fun y H1=>td U H1 fun x H2=>Y6 x fun a=> ∃ o,YD H2 a y o/\Q (.bl (!o.isSome)) H2
def LV(td ty tv:TE):TS:=fun D U H=>tv U H fun v H1=>td U H1 fun x H2=>ty U H2 fun y H3=>Y6 x fun a=> ∃ H4,VJ H3 a y v H4/\D.nx U H4
section
theorem Zd(hu:X.A.units + 1 < cLine)(ho:PE X o td)(hi:PE X i ty)(hs:L3 i):PE X (.Subscript o i pos) (Ib td ty):=by
 intro pins s U H Q I h;refine Es PySem.F.slot_dict_getitem.lookup hs (thn (ho pins s U H _ I h) fun u s1 ⟨x,H1,I1,rx,q1⟩=>thn (hi pins s1 U H1 _ I1 q1) fun iv s2 ⟨y,H2,I2,ry,q2⟩=>?_);replace q2:=Y6.old q2;obtain ⟨a,ex,v,g,q2⟩:=q2;subst ex;obtain rfl:u=Value.ref a:=rx;exact ⟨RK I2 g,BH hu I2 g ry fun w' s3 I3 rw'=>⟨v,H2,I3,rw',q2⟩⟩
theorem Ut(hu:X.A.units + 1 < cLine)(hi:PE X i ty)(ho:PE X o td):PC X .In i o (OC ty td):=by
 intro pins s U H Q I h;refine thn (hi pins s U H _ I h) fun iv s1 ⟨y,H1,I1,ry,q1⟩=>thn (ho pins s1 U H1 _ I1 q1) fun u s2 ⟨x,H2,I2,rx,q2⟩=>?_;replace q2:=Y6.old q2;obtain ⟨a,ex,ov,g,q2⟩:=q2;subst ex;obtain rfl:u=Value.ref a:=rx;exact Oc hu I2 g ry fun s3 I3=>⟨.bl ov.isSome,H2,I3,rfl,q2⟩
theorem JJ(hu:X.A.units + 1 < cLine)(hi:PE X i ty)(ho:PE X o td):PC X .NotIn i o (Er ty td):=by
 intro pins s U H Q I h;refine thn (hi pins s U H _ I h) fun iv s1 ⟨y,H1,I1,ry,q1⟩=>thn (ho pins s1 U H1 _ I1 q1) fun u s2 ⟨x,H2,I2,rx,q2⟩=>?_;replace q2:=Y6.old q2;obtain ⟨a,ex,ov,g,q2⟩:=q2;subst ex;obtain rfl:u=Value.ref a:=rx;exact IK hu I2 g ry fun s3 I3=>⟨.bl (!ov.isSome),H2,I3,rfl,q2⟩
theorem YF(hu:X.A.units + 1 < cLine)(ho:PE X o td)(hi:PE X i ty)(hv:PE X value tv)(hs:swapsWith value (some (.Subscript o i pos')) pos.line X.env=pure false):
  PS X (.Assign [.Subscript o i pos'] value pos) (LV td ty tv):=by
 intro pins s U H D I h;refine wpAny_Assign_Subscript (thn (hv pins s U H _ I h) fun r s1 ⟨v,H1,I1,rv,q1⟩=>thn (ho pins s1 U H1 _ I1 q1) fun u s2 ⟨x,H2,I2,rx,q2⟩=>thn (hi pins s2 U H2 _ I2 q2) fun iv s3 ⟨y,H3,I3,ry,q3⟩=>?_) hs;replace q3:=Y6.old q3;obtain ⟨a,ex,H4,g,q3⟩:=q3;subst ex;obtain rfl:u=Value.ref a:=rx;exact BG hu I3 g ry rv fun s4 I4=>⟨U,H4,I4,q3⟩
end
theorem RJ(h:Heap)(hb:sysModules < h.objs.size):Zr P w H (h.push {cls:= .type "dict",data:= .dict #[]}) h.objs.size (.dK []):=
 ⟨O7 _,beq_eq_false_iff_ne.mpr (Ne.symm (O9 hb)), [], .nil,Heap.DictOf.new h⟩
theorem EL(h:Heap)(hb:sysModules < h.objs.size):Zr P w H (h.push {cls:= .type "dict",data:= .dict #[]}) h.objs.size (.dT []):=
 ⟨O7 _,beq_eq_false_iff_ne.mpr (Ne.symm (O9 hb)), [], .nil,_,#[],0,O3 _ rfl,⟨rfl,rfl,rfl⟩,rfl,rfl,List.nodup_nil⟩
def KM:TE:=fun _ H Q=> ∀ p,H p=none->Q (.ref p) (upd H p (.dK []))
def KL:TE:=fun _ H Q=> ∀ p,H p=none->Q (.ref p) (upd H p (.dT []))
section
theorem Yn:PE X (.Dict [] [] pos) KM:=fun pins s U H Q I h=>
 wpAny_Dict_empty ⟨.ref s.heap.objs.size,_,I.laid (a:=s.heap.objs.size) (o:= .dK []) (t':=s.toks) (fun _ _ q=>Oj _ q) (Om _) (RJ s.heap I.big),rfl,h _ (I.hok.fresh (Om _))⟩
theorem B3:PE X (.Dict [] [] pos) KL:=fun pins s U H Q I h=>
 wpAny_Dict_empty ⟨.ref s.heap.objs.size,_,I.laid (a:=s.heap.objs.size) (o:= .dT []) (t':=s.toks) (fun _ _ q=>Oj _ q) (Om _) (EL s.heap I.big),rfl,h _ (I.hok.fresh (Om _))⟩
end
def RX:List (TE × TE)->St->Hp->(List (V × V)->Hp->Prop)->Prop
 | [],_,H,Q=>Q [] H
 | (tk,tv)::r,U,H,Q=>tk U H fun x H1=>tv U H1 fun y H2=>RX r U H2 fun ps H3=>Q ((x,y)::ps) H3
abbrev VV:List (V × V)->List (Value × Value)->Prop:=Paired fun p q=>RelV p.1 q.1/\RelV p.2 q.2
def PPs(X:Cx)(pos:Pos)(keys:List (Option Expr))(values:List Expr)(trs:List (TE × TE)):Prop:=
 ∀ (pins:List (Addr × Obj)) (s:Shared) (U:St) (H:Hp) (Q:List (V × V)->Hp->Prop),Inv X pins U H s->RX trs U H Q->
  wpAny (model X.prog X.w) X.A (evalPairs (pairTrees keys values X.env pos)) (fun vs s'=> ∃ ps H',Inv X pins U H' s'/\VV ps vs/\Q ps H') X.xe s
theorem FD:PPs X pos [] [] []:=fun pins s U H Q I h=>pairTrees_nil_walk ⟨[],H,I, .nil,h⟩
theorem UU(hk:PE X k tk)(hv:PE X v tv)(hr:PPs X pos ks vs trs):
  PPs X pos (some k::ks) (v::vs) ((tk,tv)::trs):=fun pins s U H Q I h=>
 pairTrees_cons_walk (thn (hk pins s U H _ I h) fun u s1 ⟨x,H1,I1,rx,q1⟩=>thn (hv pins s1 U H1 _ I1 q1) fun w2 s2 ⟨y,H2,I2,ry,q2⟩=>
  thn (hr pins s2 U H2 _ I2 q2) fun ws s3 ⟨ps,H3,I3,rel,q3⟩=>⟨(x,y)::ps,H3,I3, .cons ⟨rx,ry⟩ rel,q3⟩)
def WB(kvs more:List (Key × V)):List (Key × V):=more.foldl (fun acc kv=>putK acc kv.1 kv.2) kvs
theorem KV.merge:∀ {more:List (Key × V)}{rs:List (Key × Value)}{kvs:List (Key × V)}{vs:List (Key × Value)},KV more rs->KV kvs vs->KV (WB kvs more) (merged vs rs):=by
 intro more rs kvs vs r;unfold KV at r
 induction r generalizing kvs vs with
 | nil=>intro q;exact q
 | @cons p q ps qs h t ih=>
  intro r0
  have e:KV (putK kvs p.1 p.2) (stored vs q.1 q.2):=by
   have:=r0.put p.1 h.2;rw [<-h.1];exact this
  exact ih e
theorem J8:∀ (more kvs:List (Key × V)),(WB kvs more).length<=kvs.length + more.length
 | [],kvs=>by show kvs.length<=kvs.length + 0;omega
 | p::r,kvs=>by
  have h1:=J8 r (putK kvs p.1 p.2);have h2:=YL kvs p.1 p.2;show (WB (putK kvs p.1 p.2) r).length<=_;rw [PB];omega
theorem WM:∀ {kvs:List (Key × V)}{ws:List (Value × Value)},VV (kvs.map fun kv=>(kV kv.1,kv.2)) ws->∃ rs,Carries (Z2 P w) ws rs/\KV kvs rs
 | [],_,r=>by rw [List.map_nil] at r;cases r;exact ⟨[],True.intro, .nil⟩
 | p::kvs,_,r=>by
  rw [O0] at r
  cases r with
  | @cons a b as bs h t=>
   obtain ⟨rs,c,q⟩:=WM (P:=P) (w:=w) t;obtain ⟨b1,b2⟩:=b;exact ⟨(p.1,b2)::rs,⟨XG h.1,rfl,c⟩, .cons ⟨rfl,h.2⟩ q⟩
def LQ(trs:List (TE × TE)):TE:=fun U H Q=> ∀ p,H p=none->RX trs U (upd H p (.dK [])) fun ps H2=>H2 p=some (.dK [])/\∃ kvs:List (Key × V),ps=kvs.map (fun kv=>(kV kv.1,kv.2))/\kvs.length<=15/\Q (.ref p) (upd H2 p (.dK (WB [] kvs)))
theorem FH(h:PPs X pos keys values trs)(hall:keys.all (·.isSome)=true)(hl:keys.length=values.length)(h0:keys≠ [])(h15:keys.length<=15):PE X (.Dict keys values pos) (LQ trs):=by
 intro pins s U H Q I q;have hn:=I.hok.fresh (Om s.heap.objs.size);have I1:=I.laid (a:=s.heap.objs.size) (o:= .dK []) (h':=s.heap.push {cls:= .type "dict",data:= .dict #[]}) (t':=s.toks) (fun _ _ q=>Oj _ q) (Om _) (RJ s.heap I.big);refine wpAny_Dict_walk (knd:=Z2 X.prog X.w) hall hl h0 h15 (thn (h pins _ U _ _ I1 (q _ hn)) fun ws s2 ⟨ps,H2,I2,rel,e,kvs,ep,lk,q2⟩=>?_);subst ep;obtain ⟨rs,c,rk⟩:=WM (P:=X.prog) (w:=X.w) rel;obtain ⟨z,hd,vs0,r0,dd⟩:=EO I2.hok e;cases r0;refine ⟨rs,c,dd,fun h' dd' hs=>⟨.ref s.heap.objs.size,_,?_,rfl,q2⟩⟩
 have hz:(WB [] kvs).length<=sizeLine:=by
  have h1:=J8 kvs [];rw [List.length_nil] at h1;rw [sizeLine_eq];omega
 have he:∃ q,h'.get? s.heap.objs.size=some q:=let ⟨q,_,_,hq,_⟩:=dd';⟨q,hq⟩
 exact TF I2 (by rw [e];exact True.intro) hs he (WK hz hd (rk.merge .nil) dd')
structure M1(X:Cx)(o:Expr)(m:Str)(apos:Pos)(e:Expr)(cpos:Pos):Prop where
 base:attributeBase o m X.env (eval o X.env)=eval o X.env
 few:((backTo cpos (starEach [e] X.env)).all (fun x=>!x.1) && (backToKw cpos (keywordEach [] X.env)).all (fun x=>x.1.isSome)
  && decide (([e]:List Expr).length + ([]:List Keyword).length + (if ([]:List Keyword).isEmpty then 0 else 1) < 30))=true
 line:(apos.endLine==cpos.line)=true
 trees:backTo cpos (starEach [e] X.env)= [(false,eval e X.env)]
structure M2(X:Cx)(o:Expr)(m:Str)(apos:Pos)(e f:Expr)(cpos:Pos):Prop where
 base:attributeBase o m X.env (eval o X.env)=eval o X.env
 few:((backTo cpos (starEach [e,f] X.env)).all (fun x=>!x.1) && (backToKw cpos (keywordEach [] X.env)).all (fun x=>x.1.isSome)
  && decide (([e,f]:List Expr).length + ([]:List Keyword).length + (if ([]:List Keyword).isEmpty then 0 else 1) < 30))=true
 line:(apos.endLine==cpos.line)=true
 trees:backTo cpos (starEach [e,f] X.env)= [(false,eval e X.env),(false,eval f X.env)]
end L2
namespace Att
open PySem PySem.W PySem.Calls PyProof.Rows
theorem XQ:∀ (ns:List Int) (vs:List Value),WellAll P h vs (ns.map WData.int)->IntsAre vs ns:=by
 intro ns
 induction ns with
 | nil=>
  intro vs w;rw [List.map_nil] at w;cases w;exact .nil
 | cons n ns ih=>
  intro vs w;rw [O0] at w
  cases w with
  | cons a b=>
   cases a;exact .cons _ _ (ih _ b)
theorem NZ{l:OpenLaw}(hn:l.most=some n)(hpre:l.row.toRowW.claim.pre args=true)(hwl:WellAll P h vals args):
  ∃ a vs ns,vals= [Value.ref a]/\args= [WData.list (ns.map WData.int)]/\h.get? a=some {cls:= .type "list",data:= .seq vs.toArray}/\IntsAre vs ns/\ns.length<=n:=by
 have hsh:WShape.hasAll [] args [.list .int]=true:=(pre_splitW hpre).1;have hc:l.pre.holds [] {args:=args}=true:=(pre_splitW hpre).2;obtain ⟨d,r,rfl,h1,h2⟩:=hasAllW_cons hsh;obtain rfl:=hasAllW_nil h2;obtain ⟨xs,rfl,h3⟩:=hasW_list h1;obtain ⟨ns,rfl⟩:=items_int h3
 have hlen:ns.length<=n:=by
  unfold OpenLaw.pre at hc
  have h4:(WTm.not (.lt (.lit (.int (n:Int))) (.len (.arg 0)))).holds [] {args:= [.list (ns.map .int)]}=true:=by
   have h4:=(holds_andW hc).1;rw [hn] at h4;exact h4
  have h5:=condW_of h4 (w_not (w_lt w_lit (w_len_list (w_arg rfl))));rw [Oh] at h5;refine Nat.le_of_not_lt fun q=>?_;have q':(n:Int) < ((ns.length:Nat):Int):=by omega
  first
   | (rw [decide_eq_true q'] at h5;exact absurd h5 (by decide))
   | (simp at h5;omega)
 cases hwl with
 | cons w1 w2=>
  cases w2
  cases w1 with
  | list ho hall=>exact ⟨_,_,ns,rfl,rfl,ho,XQ ns _ hall,hlen⟩
theorem Nf(l:OpenLaw)(args:List WData):l.row.toRowW.claim.post args (.bool true) args=true:=
 postW_of (r:=l.row.toRowW) (X:=(true==true))
  (show WShape.has [] (.bool true) .bool=true by first | rfl | decide | simp [WShape.has,WShape.arms,WShape.armsAll])
  (show (WTm.eq .res (.lit (.bool true))).value [] {args:=args,res:=some (.bool true),after:=args}=some (.bool (true==true)) from w_eq_bool (w_res rfl) w_lit) rfl
theorem attach_call{l:OpenLaw}(hn:l.most=some n)(hdf:d.params.defaults= [])(call:∀ (w:World) (s₀ s₁:Shared) (mg mb:Str->Option Value) (fa:Addr) (o:Obj) (pm cd doc:Value) (a:Addr) (vs:List Value) (ns:List Int),
   Ground q loose [] XP w s₀ mg mb s₁.heap->YP w s₁.heap->
   s₁.heap.get? fa=some o->o.data= .func (docDef d.name d.params d.body d.scope pm cd doc)->s₁.heap.CodeRec cd d.name->mg d.name=some (.ref fa)->
   s₁.heap.get? a=some {cls:= .type "list",data:= .seq vs.toArray}->IntsAre vs ns->ns.length<=n->s₁.gens= #[]->
   codeAny (model l.prog w) callerA (.call (.ref fa) ⟨[.ref a], []⟩) (fun r s'=>r= .ok (.ret (.bool true))/\OldK s₁.heap s'.heap/\s'.os=s₁.os/\AllBare s'.gens) s₁):
  WalkO q loose XP YP l.row.toRowW d [] (fun f vs=>PySem.call f vs):=by
 intro w s₀ s₁ mg mb G Y fa o pm cd doc dV kV ho hd hcd hD hmg hg args vals as hpre hlay hrd hwl hlo;obtain rfl:dV= .none:=Dflts.none hD hdf;obtain rfl:kV= .none:=Dflts.noKw hD;obtain ⟨a,vs,ns,rfl,rfl,hobj,hints,hlen⟩:=NZ hn hpre hwl;refine enter_call (codeAny_mono (call w s₀ s₁ mg mb fa o pm cd doc a vs ns G Y ho (fd_plain hd) hcd hmg hobj hints hlen hg) fun r s' hq=>?_);obtain ⟨rfl,h2,h3,h4⟩:=hq;exact ⟨.inl ⟨.bool true, .bool true, [],rfl,fun _=>rfl, .bool true,Nf l _,fun _=>⟨List.Pairwise.nil,fun _ hm=>(nomatch hm)⟩⟩,h2,h3,h4⟩
end Att
namespace L2
open PySem PySem.Spec PyProof.Rows
theorem WX:∀ {vs:List Value}{ns:List Int},IntsAre vs ns->Vals (ns.map V.int) vs
 | _,_, .nil=> .nil
 | _,_, .cons n t h=> .cons ⟨t,rfl⟩ (WX h)
def LF(H:Hp):Prop:= ∀ b,H b=none \/ ∃ o xs,H b=some (.frz o (.lst xs))
theorem Dt{K:W.Frag}(KX:K.In s₁.heap)(hns:s₁.heap.Ns mainGlobals mg)(hb:s₁.heap.Ns builtinsNs mb)(hbb:∀ x:Str,x≠"__name__" ->mb x=bootBuiltins x)(hlim:s₁.heap.NoLimit)(hg:s₁.gens= #[])(ha:s₁.heap.get? a=some {cls:= .type "list",data:= .seq vs.toArray})(hi:IntsAre vs ns)(hl:ns.length<=sizeLine)(hr:YR k callerA)(F:∀ base:Heap,K.In base->base.Ns mainGlobals mg->ZQ P w K mg base CX k fa fd [x] sp)(hbind:∀ (s:Shared) (u:Value),BindsTo s fd ⟨[u], []⟩ [(x,u)])(hsp:∀ H:Hp,LF H->SqL K H a (ns.map V.int)->sp [.ref a] H (fun v _=>v= .bl true) fun _ _ _=>False)(hCX:∀ H e s',CX [] H s₁ (fun _ _ _=>False) e s'->False):
  codeAny (model P w) callerA (.call (.ref fa) ⟨[.ref a], []⟩) (fun r s'=>r= .ok (.ret (.bool true))/\OldK s₁.heap s'.heap/\s'.os=s₁.os/\AllBare s'.gens) s₁:=by
 have rv:=WX hi;have lenV:=hi.length;have core:∀ H:Hp,LF H->SqL K H a (ns.map V.int)->HOk P w H s₁.heap->(∀ b,H b≠none->b=a)->(H a≠none->K.lookup a=none)->
   codeAny (model P w) callerA (.call (.ref fa) ⟨[.ref a], []⟩) (fun r s'=>r= .ok (.ret (.bool true))/\OldK s₁.heap s'.heap/\s'.os=s₁.os/\AllBare s'.gens) s₁:=by
  intro H hO hS hok hA hK;have base_of:∀ {b:Addr}{o:Obj},s₁.heap.get? b=some o->H b=none->(G5 s₁.heap H).get? b=some o:=fun e n=>D1 e n
  have noA:∀ {b:Addr}{o:Obj}{es:Array DictEntry}{ep:Nat},s₁.heap.get? b=some o->o.data= .dict es ep->H b=none:=fun {b o es ep} e d=>by
   cases q:H b with
   | none=>rfl
   | some u=>
    have e':b=a:=hA b (by rw [q];simp);subst e';rw [ha] at e;cases e;have d':Data.seq vs.toArray _=Data.dict es ep:=d;cases d'
  have nsK:∀ {b:Addr}{m:Str->Option Value},s₁.heap.Ns b m->(G5 s₁.heap H).Ns b m:=fun {b m} ⟨o,es,ep,e,d,r⟩=>⟨o,es,ep,base_of e (noA e d),d,r⟩
  have hKb:K.In (G5 s₁.heap H):=fun b o e=>base_of (KX b o e) (by
   cases q:H b with
   | none=>rfl
   | some u=>
    have e':b=a:=hA b (by rw [q];simp);subst e';rw [hK (by rw [q];simp)] at e;cases e)
  have hM:Mod K mg (G5 s₁.heap H):=⟨hKb,nsK hns,⟨mb,nsK hb,hbb⟩,let ⟨mc,h1,h2⟩:=hlim;⟨mc,nsK h1,h2⟩⟩;have e0:Ma P w K mg (G5 s₁.heap H) callerA [] s₁ H:=⟨rfl,hM,fun b o e=>Fe e,Nat.le_of_eq (N0 _ _),trivial,fun b hb=>absurd (show b∈([]:List Addr) from hb) (by simp),hok, .of_eq hg⟩;refine codeAny_mono ((F _ hKb (nsK hns)).run callerA [] s₁ H ⟨[.ref a], []⟩ [.ref a] [.ref a] _ _ hr e0 (hbind s₁ (.ref a)) (.cons rfl .nil) (hsp H hO hS)) fun r s' h=>?_
  cases r with
  | error e=>exact (hCX H e s' h).elim
  | ok fl=>
   cases fl with
   | next=>exact False.elim h
   | brk=>exact False.elim h
   | cont=>exact False.elim h
   | ret u=>
    obtain ⟨v,H',os,bare,un,hok',r',q⟩:=h;have q':v= .bl true:=q;subst q';obtain rfl:u=Value.bool true:=r';refine ⟨rfl,OldK.of_keep fun b o e=>?_,os,bare⟩
    cases q:H b with
    | none=>exact un.keep b o e q (by intro z;exact absurd (show b∈([]:List Addr) from z) (by simp)) (by simp)
    | some u=>
     rcases hO b with z | ⟨ob,xs,z⟩
     .rw [q] at z;cases z
     .have z2:=un.frzs b ob _ z
      obtain ⟨e1,_⟩:=hok b _ z;obtain ⟨e2,_⟩:=hok' b _ z2;rw [e] at e1;cases e1;exact e2
 cases hk:K.lookup a with
 | some o=>
  have e:=KX a o hk;rw [ha] at e;cases e;refine core (fun _=>none) (fun _=> .inl rfl) (.inr ⟨_,vs.toArray,_,hk,rfl,rfl,rfl,by rw [Ov,lenV];exact hl,by simpa using rv⟩) (fun b u z=>by have z':(none:Option HO)=some u:=z;cases z') (fun b z=>absurd rfl z) fun z=>absurd rfl z
 | none=>
  refine core (fun b=>if b=a then some (.frz {cls:= .type "list",data:= .seq vs.toArray} (.lst (ns.map V.int))) else none) (fun b=>?_) (.inl (.inr ⟨{cls:= .type "list",data:= .seq vs.toArray},if_pos rfl⟩)) (fun b u z=>?_) (fun b z=>?_) fun _=>hk
  .by_cases hb:b=a
   .exact .inr ⟨_,_,if_pos hb⟩
   .exact .inl (if_neg hb)
  .by_cases hb:b=a
   .have z':=(if_pos hb).symm.trans z
    cases z';subst hb;exact ⟨ha,by rw [Oh];exact hl,vs,_,rv,ha⟩
   .have z':=(if_neg hb).symm.trans z
    cases z'
  .by_cases hb:b=a
   .exact hb
   .exact absurd (if_neg hb) z
end L2
namespace L2
open PySem PySem.Spec PyProof.Rows
theorem walk_of{l:W.OpenLaw}{K:Params->W.Frag}{CX:World->CXT}{sp:World->Sp}(hn:l.most=some n)(hn2:n<=sizeLine)(hdf:d.params.defaults= [])(hr:YR k callerA)(hY:∀ (w:World) (h:Heap),YP w h->(K w.params).In h)(F:∀ (w:World) (mg:Str->Option Value) (fa:Addr) (h:Heap),(K w.params).In h->h.Ns mainGlobals mg->mg d.name=some (.ref fa)->
   ∃ fd:FuncData,(∀ (s:Shared) (u:Value),BindsTo s fd ⟨[u], []⟩ [(x,u)])/\
    ∀ base:Heap,(K w.params).In base->base.Ns mainGlobals mg->ZQ l.prog w (K w.params) mg base (CX w) k fa fd [x] (sp w))(hsp:∀ (w:World) (H:Hp) (a:Addr) (ns:List Int),ns.length<=n->LF H->SqL (K w.params) H a (ns.map V.int)->sp w [.ref a] H (fun v _=>v= .bl true) fun _ _ _=>False)(hCX:∀ (w:World) (H:Hp) (s:Shared) (e:Value) (s':Shared),CX w [] H s (fun _ _ _=>False) e s'->False):
  W.WalkO q loose XP YP l.row.toRowW d [] (fun f vs=>PySem.call f vs):=by
 refine Att.attach_call hn hdf fun w s₀ s₁ mg mb fa o pm cd doc a vs ns G Y ho hd hcd hmg hobj hints hlen hg=>?_;have KX:=hY w _ Y;obtain ⟨fd,hb,hF⟩:=F w mg fa _ KX G.T.g hmg;exact Dt KX G.T.g G.T.b G.T.builtins G.T.nolimit hg hobj hints (O6 hlen hn2) hr hF hb (fun H hO hS=>hsp w H a ns hlen hO hS) fun H e s'=>hCX w H s₁ e s'
end L2
namespace L2
open PySem PySem.Spec PyProof.Rows
def inClass(s:Stmt)(j:Nat):Stmt:=match s with
 | .ClassDef _ _ _ body _ _ _ _ _ _ _=>body.getD j (.Pass ⟨0,0,0,0⟩)
 | _=> .Pass ⟨0,0,0,0⟩
def V7(s:Stmt):Arguments:=match s with
 | .FunctionDef _ a _ _ _ _ _ _ _ _=>a
 | _=>{posonlyargs:= [],args:= [],vararg:=none,kwonlyargs:= [],kw_defaults:= [],kwarg:=none,defaults:= []}
def Y5(s:Stmt):List Stmt:=match s with
 | .FunctionDef _ _ b _ _ _ _ _ _ _=>b
 | _=> []
def ZJ(s:Stmt):Scope:=match s with
 | .FunctionDef _ _ _ _ _ _ sc _ _ _=>sc
 | _=>{kind:= .function,names:= [],isGenerator:=false,isCoroutine:=false}
abbrev CX0:CXT:=fun _ _ _ _ _ _=>False
abbrev E0:XK:=fun _ _ _=>False
theorem YM:JE CX0 X E0:=fun _ _ _ _ _ _ _ h=>h.elim
structure Fun(K:W.Frag)(x qual:Str)(st:Stmt)(f:Addr)(fd:FuncData):Prop where
 ex:∃ (oc:Value) (od:Option Addr) (kV doc pm:Value) (an:Option Addr) (cdv ct:Value) (osl:Array (Option Value)),
  fd=W.fnOf x qual (V7 st) (Y5 st) (ZJ st) .none kV doc pm an cdv ct/\K.lookup f=some ⟨oc,od, .func fd,osl⟩/\W.codeIn K cdv qual=true
 kp:W.keepIn K (.ref f)=true
section
variable{K:W.Frag}
theorem Fun.ok{st:Stmt}(F:Fun K x qual st f fd)(S:Za N ps (ZJ st))(len:∀ vs H Q E,sp vs H Q E->vs.length=ps.length)(hbody:∀ (cdv:Value) (A:Around) (outer:List Env) (s:Shared) (H:Hp) (vs:List V) (Q:VK) (E:XK),YR k (A.deeper (envOfC qual (ZJ st) s.heap.objs.size f cdv))->sp vs H Q E->
   ∃ t,PSs (Yo CX0 P w K mg base N qual (ZJ st) f cdv A outer s H E).nox (Y5 st) t/\t {nx:=fun _ H'=>Q .non H',rt:=Q} (start N vs) H):ZQ P w K mg base CX0 (k + 1) f fd ps sp:=by
 obtain ⟨oc,od,kV,doc,pm,an,cdv,ct,osl,rfl,lk,hcd⟩:=F.ex;refine Iq lk hcd S len fun A outer s H vs Q E hr hsp=>?_;obtain ⟨t,h,q⟩:=hbody cdv A outer s H vs Q E hr hsp;exact ⟨t,h.nox,q⟩
theorem Fun.oq{st:Stmt}(F:Fun K x qual st f fd)(S:Za N ps (ZJ st))(hbody:∀ (cdv:Value) (A:Around) (outer:List Env) (s:Shared) (H:Hp) (vs:List V) (Q:VK) (E:XK),YR k (A.deeper (envOfC qual (ZJ st) s.heap.objs.size f cdv))->sp vs H Q E->
   ∃ t,PSs (Yo CX0 P w K mg base N qual (ZJ st) f cdv A outer s H E).nox (Y5 st) t/\t {nx:=fun _ H'=>Q .non H',rt:=Q} (start N vs) H)(len:∀ vs H Q E,sp vs H Q E->vs.length=ps.length:=by intro vs H Q E h;repeat (obtain ⟨e,h⟩:=h;first | (subst e;exact rfl) | skip)):ZQ P w K mg base CX0 (k + 1) f fd ps sp:=F.ok S len hbody
theorem Fun.binds{st:Stmt}(F:Fun K x qual st f fd)(h:∀ (kV doc pm:Value) (an:Option Addr) (cdv ct:Value) (us:List Value),us.length=ps.length->bindArgs (W.fnOf x qual (V7 st) (Y5 st) (ZJ st) .none kV doc pm an cdv ct) ⟨us, []⟩=pure (ps.zip us)):Binds K fd ps []:=by
 obtain ⟨oc,od,kV,doc,pm,an,cdv,ct,osl,rfl,lk,hcd⟩:=F.ex;exact .all (h kV doc pm an cdv ct)
theorem ED{st:Stmt}{kV doc pm cdv ct:Value}(l:K.lookup f=some ⟨oc,od, .func (W.fnOf x qual (V7 st) (Y5 st) (ZJ st) .none kV doc pm an cdv ct),osl⟩)(c:W.codeIn K cdv qual=true)(k:W.keepIn K (.ref f)=true):Fun K x qual st f (W.fnOf x qual (V7 st) (Y5 st) (ZJ st) .none kV doc pm an cdv ct):=⟨⟨oc,od,kV,doc,pm,an,cdv,ct,osl,rfl,l,c⟩,k⟩
end
theorem Y3(hr:YR k A):A.units + 1 < cLine:=Nat.lt_of_le_of_lt (Nat.add_le_add_left (by decide:1<=64) _) hr.units
theorem ZI(h:n<=1000):n < sizeLine:=Nat.lt_of_le_of_lt h (by decide)
section
theorem pv(i:Nat)(hN:X.N[i]?=some x:=by rfl)(hv:Vis X.env.scope x:=by first | exact Or.inl rfl | exact Or.inr (Or.inl rfl) | exact Or.inr (Or.inr rfl))(hd:(x==("__debug__" :Str))=false:=by decide)(hcd:(x==("__classdict__" :Str))=false:=by decide):PE X (.Name x pos) (UB i):=Ke hN hv hd hcd
end
theorem Yc{c A B:Prop}[Decidable c](h1:c->A)(h2: ¬ c->B):if c then A else B:=by
 by_cases h:c
 .rw [if_pos h]
  exact h1 h
 .rw [if_neg h]
  exact h2 h
def Same(H H':Hp):Prop:= ∀ b o,H b=some o->H' b=some o
theorem Same.refl(H:Hp):Same H H:=fun _ _ h=>h
theorem Same.trans(a:Same H H1)(b:Same H1 H2):Same H H2:=fun c o h=>b c o (a c o h)
theorem Same.free(e:Same H H')(h:H' l=Option.none):H l=Option.none:=by
 cases q:H l with
 | none=>rfl
 | some o=>
  rw [e l o q] at h;cases h
theorem Same.seq{K:W.Frag}(e:Same H H')(h:SqL K H a xs):SqL K H' a xs:=by
 rcases h with (h | ⟨o,h⟩) | h
 .exact .inl (.inl (e _ _ h))
 .exact .inl (.inr ⟨o,e _ _ h⟩)
 .exact .inr h
section
variable[DecidableEq κ]
theorem UM{kvs:List (κ × V)}(h:Zl kvs k=none): ¬ k∈kvs.map (·.1):=by
 intro m;obtain ⟨p,hp,e⟩:=O1.mp m;have q:(kvs.any fun kv=>decide (kv.1=k))=true:=List.any_eq_true.mpr ⟨p,hp,decide_eq_true e⟩;rw [JG,h] at q;exact absurd q (by simp)
end
end L2
namespace PySem.W
open PySem PyProof.Rows
section
variable{K:Frag}{x D:Addr}
theorem RG(hc:(clsIn K D).isSome=true)(ha:findIn K (.ref D) name=some (some a))(hn:specialIn K a "__get__" =some (some g))(htk:takesIn K a=some true):findObj K D odo name=some (.bind g a):=by
 obtain ⟨cd,e⟩:=Option.isSome_iff_exists.mp hc;simp only [findObj,e,ha,Option.bind_some,hn,htk]
structure ExcC(K:Frag)(D:Addr):Prop where
 cls:(clsIn K D).isSome=true
 ga:findIn K (.ref D) "__getattribute__" =some (some (.builtin "BaseException.__getattribute__"))
 gn:findIn K (.ref D) "__getattr__" =some none
 base:mroIn K D (.type "BaseException")=some true
 obj:mroIn K D (.type "object")=some true
 ha:findIn K (.ref D) "__class__" =some (some (.builtin "object.__class__"))
 hn:specialIn K (.builtin "object.__class__") "__get__" =some (some (.builtin "getset_descriptor.__get__"))
 htk:takesIn K (.builtin "object.__class__")=some true
set_option tactic.hygienic true in
theorem ES(X:K.In h)(hc:(clsIn K D).isSome=true):∃ c d cd sl,h.get? D=some ⟨c,d, .cls cd,sl⟩:=by
 unfold clsIn at hc
 split at hc
 case h_1 c d cd sl ho=>exact ⟨c,d,cd,sl,X D _ ho⟩
 case h_2=>cases hc
theorem Wx(X:K.In h)(hc:(clsIn K D).isSome=true):Looks M h (isType (.ref D)) true:=by
 obtain ⟨c,d,cd,sl,ho⟩:=ES X hc;intro A' Q' E' s' k q;simp only [isType,loadHead];exact wpAny_bind (wpAny_loadPart (k D _ ho) (wpAny_pure q))
theorem Fs:builtinKind "BaseException.__getattribute__" =some .slot:=by decide +kernel
theorem EB:splitId "BaseException.__getattribute__" =some ("BaseException","__getattribute__"):=by decide +kernel
theorem EC:(Value.builtin "BaseException.__getattribute__" == .builtin "object.__getattribute__")=false:=by decide +kernel
theorem Wu(C:ExcC K D)(X:K.In s.heap)(I:InstAt s.heap x ox D odo)(hq:Q () s):
  wpAny M A (checkBuiltinCall "BaseException.__getattribute__" ⟨[.ref x,nameV], []⟩) Q E s:=by
 have hs:=looks_mroIn (M:=M) X C.base;have hn:=F.args_bexc_ga (.ref x) nameV;have ht:=I.type (M:=M);unfold checkBuiltinCall;simp only [Fs,EB,isInstance];obtain ⟨h,g,d,t,os⟩:=s;refine wpAny_bind (wpAny_bind (ht.at (hs.at ?_)))
 repeat any_goals first | exact hn | exact hq | wp_step
theorem BC(C:ExcC K D)(X:K.In s.heap)(I:InstAt s.heap x ox D odo)(h:Q (some (.ref D)) {s with toks:=s.toks + 1}):
  wpAny (model prog w) A (getAttr? (.ref x) "__class__") Q E s:=by
 obtain ⟨hh,g,d,t,os⟩:=s;have ht:=I.type (M:=model prog w);have l1:=looks_findIn (M:=model prog w) X C.ga;have l2:=looks_findIn (M:=model prog w) X C.gn;have l3:=looks_find (M:=model prog w) X I (RG C.cls C.ha C.hn C.htk);have sl:=F.attr_ValueError.ga;have bs:=sl.bind (.ref x);simp only [getAttr?,getAttrBy?,getAttrBy];refine wpAny_bind (wpAny_mkText (wpAny_bind (wpAny_attempt (wpAny_holding (wpAny_bind (ht.at ?_))))));refine wpAny_bind (l1.at ?_);simp only [EC,Bool.and_false,Bool.false_eq_true,if_false,getAttrByItsOwn,hookBefore];refine wpAny_bind (l2.at (wpAny_bind (wpAny_attempt (wpAny_holding ?_))));simp only [callGetattribute,boundAndCalled,Bool.false_and,Bool.false_eq_true,if_false];rw [bs];refine wpAny_bind (wpAny_pure (wpAny_call (codeAny_call_builtin sl.plain F.entry_bexc_ga (Wu C X I ?_))));simp only [Builtin.«object.__getattribute__»]
 repeat (first | (with_reducible refine wpAny_call (class_get (s:=⟨hh,g,d,t + 1,os⟩) X I C.obj ?_)) | lk)
 exact h
theorem TN{its:List Value}(X:K.In h)(hc:(clsIn K D).isSome=true)(htp:h.get? tp=some ⟨.type "tuple",dd, .seq its.toArray n,sl⟩):(Value.ref D== .ref tp)=false:=by
 obtain ⟨c,d,cd,sl',ho⟩:=ES X hc
 cases hb:(Value.ref D==Value.ref tp) with
 | false=>rfl
 | true=>cases beq_iff_eq.mp hb;cases ho.symm.trans htp
theorem kitx_exc(C:ExcC K D):KitX K (.ref x) (.ref D) (fun h=> ∃ ox odo,InstAt h x ox D odo):=
 ⟨fun _ _ _ ⟨_,_,I⟩=>I.type,fun _ _ X _=>Wx X C.cls,fun _ _ _ _ _ _ X ht=>TN X C.cls ht,fun X ⟨_,_,I⟩ k=>BC C X I k⟩
theorem exc_matches(X:K.In s.heap)(I:InstAt s.heap x ox D odo)(hN:(clsIn K N).isSome=true)(hT:typeIn K (.ref N)=some (.type "type"))(hB:mroIn K N (.type "BaseException")=some true)(hS:subIn K (.ref D) (.ref N)=some b)(hq:Q b s):
  wpAny M A (excMatches (.ref x) (.ref N)) Q E s:=by
 have ht:=I.type (M:=M);have l1:=looks_typeIn (M:=M) X hT;have l2:=looks_mroIn (M:=M) X hB;have l3:=looks_subIn (M:=M) X hS;have l4:=Wx (M:=M) X hN;have nt:=tc_notTuple;obtain ⟨h,g,d,t,os⟩:=s;simp only [excMatches,isInstance,isExcClass]
 repeat any_goals first | assumption | lk
 cases b <;> (repeat any_goals first | assumption | lk)
end
end PySem.W
namespace L2
open PySem PySem.Spec PyProof.Rows
def Trc(old:Heap)(H:Hp)(h:Heap)(ea:Addr)(vs:Array Value):Prop:=
 vs[1]?=some .none \/ ∃ T oT ts,vs[1]?=some (.ref T)/\T≠ea/\old.get? T=none/\H T=none/\h.get? T=some oT/\oT.data= .fields ts/\ts[3]?=some .none
structure Fly(old:Heap)(H:Hp)(h:Heap)(ea C:Addr)(dx:Option Addr):Prop where
 new:old.get? ea=none
 free:H ea=none
 obj:∃ oe vs,h.get? ea=some oe/\oe.cls= .ref C/\oe.dict=dx/\oe.data= .fields vs/\1 < vs.size/\Trc old H h ea vs
section
def tbO(head:Value)(L:Addr)(pl:List Value):Obj:={cls:= .type "traceback",dict:=none,data:= .fields ([head, .ref L, .none,rawInt L, .none]++ (if pl.isEmpty then List.replicate 6 Value.none else pl)).toArray}
def tbH(g:Heap)(head:Value)(L ea:Addr)(pl:List Value):Heap:=
 ((g.push (tbO head L pl)).update ea (Obj.mapFields (·.setIfInBounds 1 (.ref g.objs.size)))).update g.objs.size (Obj.mapFields (·.setIfInBounds 3 ((none:Option Addr).elim Value.none fun f=>rawInt f)))
section
variable{g:Heap}
theorem Tf(hb:b≠ea)(q:g.get? b=some o):(tbH g head L ea pl).get? b=some o:=
 (Heap.get?_update_other _ _ (Nat.ne_of_gt (Ow q))).trans ((Heap.get?_update_other _ _ (Ne.symm hb)).trans (Oj _ q))
theorem Mh(q:g.get? ea=some oe)(hd:oe.data= .fields vs):((g.push (tbO head L pl)).update ea (Obj.mapFields (·.setIfInBounds 1 (.ref g.objs.size)))).get? ea=some (oe.mapFields (·.setIfInBounds 1 (.ref g.objs.size))):=
 Heap.get?_update_self _ (Oj _ q) (Obj.isFreed_of_fields (Obj.data_mapFields hd _))
theorem KE(q:g.get? ea=some oe)(hd:oe.data= .fields vs):(tbH g head L ea pl).get? ea=some (oe.mapFields (·.setIfInBounds 1 (.ref g.objs.size))):=
 (Heap.get?_update_other _ _ (Nat.ne_of_gt (Ow q))).trans (Mh q hd)
theorem Te(q:g.get? ea=some oe):((g.push (tbO head L pl)).update ea (Obj.mapFields (·.setIfInBounds 1 (.ref g.objs.size)))).get? g.objs.size=some (tbO head L pl):=
 (Heap.get?_update_other _ _ (O9 (Ow q))).trans (O3 g rfl)
theorem Em(q:g.get? ea=some oe):∃ o ts,(tbH g head L ea pl).get? g.objs.size=some o/\o.data= .fields ts/\ts[3]?=some Value.none:=
 ⟨_,_,Heap.get?_update_self _ (Te q) (Obj.isFreed_of_fields (Obj.data_mapFields rfl _)),Obj.data_mapFields rfl _,by
  rw [Array.getElem?_setIfInBounds_self_of_lt (by simp)];rfl⟩
end
theorem NF(fr:A.frames=some (env::outer))(ff:s.heap.FunFrames base (env::outer))(fl:env.frame=some L)(he:s.heap.get? ea=some oe)(hd:oe.data= .fields vs)(hsz:1 < vs.size)(h:∀ h' T oT ts,s.heap.get? T=none->(∀ b o,b≠ea->b ∉ frs (env::outer)->s.heap.get? b=some o->h'.get? b=some o)->(∀ b o,b≠ea->s.heap.get? b=some o->∃ sl,h'.get? b=some {o with slots:=sl})->
   h'.get? ea=some (oe.mapFields (·.setIfInBounds 1 (.ref T)))->h'.get? T=some oT->oT.data= .fields ts->ts[3]?=some .none->Q () {s with heap:=h'}):
  wpAny M A (do let a <-frameOf env;let pl <-entryPlaceOf L hadNext;let b <-EntryCells.newEntry head a .none (rawInt L) .none pl;setField (.ref ea) 1 b) (fun _ s'=>wpAny M A (setFlight (.ref ea) none) Q E s') E s:=by
 have apart:ea ∉ frs (env::outer):=fun z=>(ff.mem z).2.elim fun o q=>q.2 vs (by have e:=he.symm.trans q.1;cases e;exact hd);refine wpAny_bind (wpAny_frameOf_fun fr ff fl fun g hg=>wpAny_bind (wpAny_entryPlaceOf fun pl hp=>?_));have hea:g.get? ea=some oe:=(hg.2.1 ea apart).trans he;obtain ⟨oT,ts,q1,q2,q3⟩:=Em (head:=head) (L:=L) (pl:=pl) hea;simp only [EntryCells.newEntry,newFields];refine wpAny_bind (wpAny_newObj_type (wpAny_setField (Oj _ hea) hd hsz ?_) (hp.sizeOk5 _ _ _ _ _));simp only [setFlight];refine wpAny_bind (wpAny_field (Mh (head:=head) (L:=L) (pl:=pl) hea hd) (Obj.data_mapFields hd _) (x:= .ref g.objs.size) (by simp [hsz]) ?_);rw [if_pos (by simp)];refine wpAny_setField (Te hea) rfl (by simp) ?_;refine h (tbH g head L ea pl) g.objs.size oT ts (Heap.get?_none_of_le (Nat.le_of_eq hg.1.symm)) (fun b o hb nf q=>Tf hb ((hg.2.1 b nf).trans q)) (fun b o hb q=>?_) (KE hea hd) q1 q2 q3;obtain ⟨sl,q'⟩:=hg.2.2 b o q;exact ⟨sl,Tf hb q'⟩
theorem Do(hfr:A.frames=some (env::outer))(hl:s.heap.FunFrames base (env::outer))(hf:env.frame=some L)(F:Fly old H s.heap ea C dx)(hT:∀ b o,old.get? b=some o->∃ u,s.heap.get? b=some u)(hH:∀ b o,H b=some o->∃ u,s.heap.get? b=some u)(h:∀ h',(∀ b o,(H b≠none \/ ∃ u,old.get? b=some u)->b ∉ frs (env::outer)->s.heap.get? b=some o->h'.get? b=some o)->
   (∀ b o,(∀ vs,o.data≠ .fields vs)->s.heap.get? b=some o->∃ sl,h'.get? b=some {o with slots:=sl})->Fly old H h' ea C dx->Q () {s with heap:=h'}):
  wpAny M A (noteFrame (.ref ea) env) (fun _ s₂=>wpAny M A (setFlight (.ref ea) none) Q E s₂) E s:=by
 obtain ⟨hnew,hfree,oe,vs,he,hc,hdx,hd,hsz,ht⟩:=F;unfold noteFrame;simp only [hf];have done:∀ h1:Heap,(∀ b o,b≠ea->(H b≠none \/ (∃ u,old.get? b=some u) \/ ∀ vs,o.data≠ .fields vs)->s.heap.get? b=some o->h1.get? b=some o)->(∀ b,(∃ u,s.heap.get? b=some u)->∃ u,h1.get? b=some u)->
   ∀ h' T oT ts,h1.get? T=none->(∀ b o,b≠ea->b ∉ frs (env::outer)->h1.get? b=some o->h'.get? b=some o)->(∀ b o,b≠ea->h1.get? b=some o->∃ sl,h'.get? b=some {o with slots:=sl})->
   h'.get? ea=some (oe.mapFields (·.setIfInBounds 1 (.ref T)))->h'.get? T=some oT->oT.data= .fields ts->ts[3]?=some .none->Q () {s with heap:=h'}:=by
  intro h1 k1 k2 h' T oT ts hTn hk hsl hea hTo hTd hT3
  have dead:∀ b,h1.get? b=none->s.heap.get? b=none:=fun b hb=>by
   cases q:s.heap.get? b with
   | none=>rfl
   | some u=>obtain ⟨v,hv⟩:=k2 b ⟨u,q⟩;rw [hb] at hv;cases hv
  have hTs:=dead T hTn;refine h h' (fun b o hb hnf hq=>?_) (fun b o hnd hq=>?_) ⟨hnew,hfree,_,_,hea,?_,?_,Obj.data_mapFields hd _,by simpa using hsz, .inr ⟨T,oT,ts,by simp [hsz],?_,?_,?_,hTo,hTd,hT3⟩⟩
  .have hne:b≠ea:=by
    rintro rfl;rcases hb with z | ⟨u,z⟩
    .exact z hfree
    .rw [hnew] at z;cases z
   exact hk b o hne hnf (k1 b o hne (by rcases hb with z | z;exact .inl z;exact .inr (.inl z)) hq)
  .have hne:b≠ea:=by
    rintro rfl;rw [he] at hq;cases hq;exact hnd _ hd
   exact hsl b o hne (k1 b o hne (.inr (.inr hnd)) hq)
  .rw [Obj.cls_mapFields];exact hc
  .rw [<-hdx];obtain ⟨c,d,dt,sl⟩:=oe;cases dt <;> rfl
  .rintro rfl;rw [he] at hTs;cases hTs
  .cases q:old.get? T with
   | none=>rfl
   | some u=>obtain ⟨v,hv⟩:=hT T u q;rw [hTs] at hv;cases hv
  .cases q:H T with
   | none=>rfl
   | some u=>obtain ⟨v,hv⟩:=hH T u q;rw [hTs] at hv;cases hv
 rcases ht with h1 | ⟨T,oT,ts,h1,hTe,hnT,hfT,hTo,hdT,h3⟩
 .refine wpAny_bind (wpAny_field he hd h1 ?_)
  rw [if_neg (by decide)];exact NF hfr hl hf he hd hsz (done s.heap (fun b o _ _ q=>q) (fun b q=>q))
 .refine wpAny_bind (wpAny_field he hd h1 ?_)
  rw [if_pos (by simp)];refine wpAny_bind (wpAny_field hTo hdT h3 ?_);rw [if_neg (by simp [rawInt])];have lt3:=(Array.getElem?_eq_some_iff.mp h3).1;have other:∀ b,b≠T->(s.heap.update T (Obj.mapFields fun a=>a.setIfInBounds 3 .none)).get? b=s.heap.get? b:=fun b z=>Heap.get?_update_other _ _ z.symm;refine wpAny_bind (wpAny_setField hTo hdT lt3 ?_);refine NF hfr (hl.of_keeps fun b o hb hnf=>⟨o,(other b fun q=>by rw [q,hTo] at hb;cases hb;exact hnf _ hdT).trans hb,rfl⟩) hf ((other ea (Ne.symm hTe)).trans he) hd hsz
   (done _ (fun b o hne hb hq=>?_) (fun b hb=>?_))
  .refine (other b ?_).trans hq
   rintro rfl;rcases hb with z | ⟨u,z⟩ | z
   .exact z hfT
   .rw [hnT] at z;cases z
   .rw [hTo] at hq;cases hq;exact z _ hdT
  .by_cases e:b=T
   .subst e
    exact ⟨_,Heap.get?_update_self _ hTo (Obj.isFreed_of_fields (Obj.data_mapFields hdT _))⟩
   .obtain ⟨u,hu⟩:=hb
    exact ⟨u,(other b e).trans hu⟩
end
end L2
namespace L2
open PySem PySem.Spec PyProof.Rows
section
theorem Zr.ex(x:Zr P w H h a o):∃ u,h.get? a=some u:=by
 cases o with
 | lst xs=>obtain ⟨_,_,_,_,e⟩:=x;exact ⟨_,e⟩
 | tup xs=>obtain ⟨_,_,_,o,e,_⟩:=x;exact ⟨_,e⟩
 | dK kvs=>obtain ⟨_,_,_,_,o,_,_,e,_⟩:=x;exact ⟨_,e⟩
 | dT kvs=>obtain ⟨_,_,_,_,o,_,_,e,_⟩:=x;exact ⟨_,e⟩
 | set S n=>obtain ⟨o,_,_,_,e,_⟩:=x;exact ⟨_,e⟩
 | ins C dx fs=>obtain ⟨_,_,_,e,_⟩:=x;exact ⟨_,e⟩
 | own y=>exact x
 | xd fs=>obtain ⟨_,⟨_,_,_,e,_⟩,_⟩:=x;exact ⟨_,e⟩
 | rng lo hi=>obtain ⟨_,_,_,e⟩:=x;exact ⟨_,e⟩
 | frz ob u=>obtain ⟨e,_⟩:=x;exact ⟨_,e⟩
 | tbl ps=>exact ⟨_,x⟩
 | met f y=>exact ⟨_,x⟩
 | ext φ=>obtain ⟨_,e,_⟩:=x;exact e
end
def CX1(P:Program)(w:World):CXT:=fun outer H s E e s'=> ∃ ea C dx H',e= .ref ea/\s'.os=s.os/\AllBare s'.gens/\Un (frs outer) [] H H' s.heap s'.heap/\HOk P w H' s'.heap/\Fly s.heap H' s'.heap ea C dx/\E (.ref C) dx H'
def BP(X:Cx)(E:XK):Prop:= ∀ (pins:List (Addr × Obj)) (U:St) (H:Hp) (s:Shared) (ea C:Addr) (dx:Option Addr),Inv X pins U H s->Fly X.s₀.heap H s.heap ea C dx->E (.ref C) dx H->X.xe (.ref ea) s
theorem Fly.older(F:Fly old H h ea C dx)(k:∀ b u,old'.get? b=some u->∃ v,old.get? b=some v):Fly old' H h ea C dx:=by
 have dead:∀ b,old.get? b=none->old'.get? b=none:=fun b hb=>by
  cases q:old'.get? b with
  | none=>rfl
  | some u=>obtain ⟨v,hv⟩:=k b u q;rw [hb] at hv;cases hv
 obtain ⟨hnew,hfree,oe,vs,he,hc,hdx,hd,hsz,ht⟩:=F;refine ⟨dead _ hnew,hfree,oe,vs,he,hc,hdx,hd,hsz,?_⟩;rcases ht with h1 | ⟨T,oT,ts,h1,hTe,hnT,r⟩
 .exact .inl h1
 .exact .inr ⟨T,oT,ts,h1,hTe,dead _ hnT,r⟩
section
variable{K:W.Frag}
theorem JY:BP (Yo (CX1 P w) P w K mg base N qual scope f cd A outer s₀ H₀ E) E:=by
 intro pins U H s ea C dx I F q;have there:∀ b u,s₀.heap.get? b=some u->∃ v,s.heap.get? b=some v:=fun b u e=>I.base.there b u e (by simp [Yo]);show wpAny _ _ (leaving _ _) _ _ s;unfold leaving;refine wpAny_bind (Do (base:=base) (outer:=outer) I.ok.frames I.stack rfl F there (fun b o e=>(I.hok b o e).ex) fun h' hk hsl F'=>?_);have fr:∀ b∈frs (envOfC qual scope s₀.heap.objs.size f cd::outer),H b=none:=I.stkFree;have nofr:∀ b o,H b=some o->b ∉ frs (envOfC qual scope s₀.heap.objs.size f cd::outer):=fun b o e z=>by rw [fr b z] at e;cases e
 have tk:∀ b o u,H b=some o->s.heap.get? b=some u->h'.get? b=some u:=fun b o u e q=>hk b u (.inl (by rw [e];simp)) (nofr b o e) q;have B:=I.base;refine ⟨ea,C,dx,H,rfl,I.os,I.bare,⟨fun b o e n hb _=>?_,fun b o e n hb _=>?_,fun b o e n _=>B.free b o e n (by simp [Yo]),fun b o e _=>?_,B.tups,B.frzs,B.tbls⟩,fun a o e=>?_,F',q⟩
 .refine hk b o (.inr ⟨o,e⟩) ?_ (B.keep b o e n hb (by simp [Yo]))
  intro z;have z':b∈(s₀.heap.objs.size::frs outer):=z;rcases O8.mp z' with rfl | z'
  .exact (Nat.lt_irrefl _ (Ow e)).elim
  .exact hb z'
 .obtain ⟨sl,e1⟩:=B.slot b o e n hb (by simp [Yo])
  have nd:∀ vs,o.data≠ .fields vs:=fun vs z=>by
   obtain ⟨_,o',ho',hd'⟩:=I.stack.mem (b:=b) (by show b∈(s₀.heap.objs.size::frs outer);exact Ot _ hb);rw [e1] at ho';cases ho';exact hd' vs z
  obtain ⟨sl2,e2⟩:=hsl b {o with slots:=sl} nd e1;exact ⟨sl2,e2⟩
 .by_cases hb:b∈frs (envOfC qual scope s₀.heap.objs.size f cd::outer)
  .obtain ⟨_,o',ho',hd'⟩:=I.stack.mem hb
   obtain ⟨sl,e2⟩:=hsl b o' hd' ho';exact ⟨_,e2⟩
  .obtain ⟨o',e1⟩:=there b o e
   exact ⟨o',hk b o' (.inr ⟨o,e⟩) hb e1⟩
 .refine (I.hok a o e).stay (fun b u hb q=>?_) (fun _ q=>q) fun _ _ q=>q
  rcases hb with rfl | hb
  .exact tk _ _ _ e q
  .exact tk _ _ _ hb q
end
section
theorem BP.passes(h:BP X E)(hex:X.ex= []):JE (CX1 X.prog X.w) X E:=by
 intro pins U H s e s' I hx;obtain ⟨ea,C,dx,H',rfl,os,bare,un,hok,F,q⟩:=hx;obtain ⟨hh,g,d,t,os'⟩:=s';obtain rfl:os'=s.os:=os;exact h pins U H' _ ea C dx (I.call (h':=hh) (g':=g) (d':=d) (t':=t) (ch:= []) un hok bare (fun b z=>absurd z (by simp))) (F.older fun b u q=>I.base.there b u q (by rw [hex];simp)) q
end
end L2
namespace L2
open PySem PySem.Spec PyProof.Rows
abbrev vErr:List Value:= [.type "ValueError", .type "Exception", .type "BaseException", .type "object"]
abbrev IsX(K:W.Frag)(C:Addr):Prop:=W.excIn K C vErr "ValueError.__new__" =true
set_option tactic.hygienic true in
theorem IM{K:W.Frag}(X:K.In h)(q:IsX K C):
  ∃ tl N nm qn bs hd sn sub ab col dd k0 k1 k2 k3 k5 mN,h.get? C=some (excClassObj nm qn C N bs tl hd sn sub ab col dd k0 k1 k2 k3 k5 "ValueError.__new__")/\h.Ns N mN/\mN "__init__" =none/\OwnTail h vErr tl:=by
 unfold IsX W.excIn at q
 split at q
 case h_1 dd cd sl ho=>
  split at q
  case h_1 C2 tl k0 k1 k2 k3 n k5 hm hs=>
   rw [O4,O4,O4,O4,O4] at q;obtain ⟨⟨⟨⟨⟨q1,q2⟩,q3⟩,q4⟩,q5⟩,q6⟩:=q;have e1:C2=C:=beq_iff_eq.mp q1;have e2:n="ValueError.__new__" :=beq_iff_eq.mp q2;subst e1 e2
   cases cd with
   | mk nm bs mro ns qn hd sn sub ab col del=>
    have e3:mro= .ref C2::tl:=hm
    have e4:del=false:=by cases del with
     | false=>rfl
     | true=>cases q3
    subst e3 e4
    have e5:sl= #[k0,k1,k2,k3,some (.builtin "ValueError.__new__"),k5]:=by
     cases sl with
     | mk l=>exact congrArg Array.mk hs
    subst e5;exact ⟨tl,ns,nm,qn,bs,hd,sn,sub,ab,col,dd,k0,k1,k2,k3,k5,h.nsMap ns,X _ _ ho, .of_isNs (W.isNs_of_in X q5),W.nsMap_none_of_in X q5 (beq_iff_eq.mp q6),W.tail_of_in X q4⟩
  case h_2=>cases q
 case h_2=>cases q
section
variable{X:Cx}{E:XK}{x:Str}{C:Addr}{e:Expr}{es:List Expr}{t:TA}
def KF(C:Addr)(E:XK)(t:TA):TS:=fun _ U H=>t U H fun vs H1=>vs.length<=sizeLine/\E (.ref C) none H1
theorem Bx(hl:BP X E)(hex:X.ex= [])(hc:X.calm=true)(hg:Gl X x)(hm:X.mg x=some (.ref C))(hC:IsX X.K C)(ha:PA X (e::es) t)(hdb:(x==("__debug__" :Str))=false:=by decide)(he:starEach (e::es) X.env=(false,eval e X.env)::starEach es X.env:=by rfl)(hpl:(backTo cpos (starEach es X.env)).any (·.1)=false:=by rfl):
  PS X (.Raise (some (.Call (.Name x np) (e::es) [] cpos)) none pos) (KF C E t):=by
 intro pins s U H D I h;obtain ⟨tl,N,nm,qn,bs,hd,sn,sub,ab,col,dd,k0,k1,k2,k3,k5,mN,hCo,hN,hni,T⟩:=IM I.ok.mod.kin hC;refine wpAny_Raise_call_subT (C:=C) (nm:=nm) (q:=qn) (N:=N) (bs:=bs) (bm:=tl) (hdct:=hd) (sn:=sn) (sub:=sub) (ab:=ab) (col:=col) (dd:=dd) (k0:=k0) (k1:=k1) (k2:=k2) (k3:=k3) (k5:=k5)
  F.excBase_ValueError (mN:=mN) (T.hasType F.excBase_ValueError.hasBase) (I.ok.hd hc) ?_ hni (JZ I hg hm ⟨rfl,?_⟩ hdb)
 .rw [he]
  show (false || (backTo cpos (starEach es X.env)).any (·.1))=false;rw [hpl];rfl
 .have ha':=ha cpos pins s U H _ I h
  rw [he] at ha' |-;refine Calls.evalArgs_plain (wpAny_mono ha' (fun us s2 ⟨vs,H1,I1,r1,hz,q1⟩=>⟨rfl,by show us.length<=sizeLine;rw [<-r1.length];exact hz,I1.bk _ _ hCo,hN.keeps I1.bk,T.keeps I1.bk,fun h' ea hx=>?_⟩) fun _ _ z=>z);obtain ⟨tt,ht,_,_⟩:=hx.there;refine hl pins U H1 _ ea C none (I1.kept (h':=h') (t':=s2.toks) hx.keeps) ⟨?_,?_,_,_,ht,rfl,rfl,rfl,(by show 1 < 6;decide), .inl rfl⟩ q1
  .cases q:X.s₀.heap.get? ea with
   | none=>rfl
   | some u=>obtain ⟨v,hv⟩:=I1.base.there ea u q (by rw [hex];simp);rw [hx.new] at hv;cases hv
  .cases q:H1 ea with
   | none=>rfl
   | some u=>obtain ⟨v,hv⟩:=(I1.hok ea u q).ex;rw [hx.new] at hv;cases hv
def LO(t:TE):TE:=fun U H Q=>t U H fun v H1=> ∃ x,v= .str x/\x.length<=1000/\Q (.str x) H1
theorem Kf(hv:PE X v tv):PE X (.FormattedValue v (-1) none pos) (LO tv):=by
 intro pins s U H Q I h;refine wpAny_FormattedValue_plain (thn (hv pins s U H _ I h) fun u s1 ⟨y,H1,I1,r1,z,hz,hl,q⟩=>?_);subst hz;obtain ⟨tk,rfl⟩:=r1;exact wpAny_formatField_str ⟨.str z,H1,I1,⟨_,rfl⟩,q⟩ ⟨.str z,H1,I1.tok _,⟨_,rfl⟩,q⟩ (O6 hl (by decide))
def WZ:List TE->Str->TE
 | [],acc=>fun _ H Q=>Q (.str acc) H
 | t::ts,acc=>fun U H Q=>t U H fun v H1=> ∃ x,v= .str x/\(acc++ x).length<=sizeLine/\WZ ts (acc++ x) U H1 Q
inductive PEs(X:Cx):List Expr->List TE->Prop where
 | nil:PEs X [] []
 | cons {e:Expr}{t:TE}{es:List Expr}{ts:List TE}:PE X e t->PEs X es ts->PEs X (e::es) (t::ts)
theorem RA:∀ {es:List Expr}{ts:List TE}(hp:PEs X es ts) (acc:Str) (s:Shared) (H:Hp),acc.length<=sizeLine->Inv X pins U H s->WZ ts acc U H Q->
  Joins (model X.prog X.w) X.A X.xe (evalEach es X.env) acc (fun out s₁=>out.length<=sizeLine/\EP X pins U Q (.str out s₁.toks) {s₁ with toks:=s₁.toks + 1}) s
 | _,_, .nil,acc,s,H,hz,I,h=>by
  unfold evalEach;exact ⟨hz, .str acc,H,I.tok _,⟨_,rfl⟩,h⟩
 | _,_, .cons (e:=e) (es:=es) hp hr,acc,s,H,hz,I,h=>by
  unfold evalEach;refine thn (hp pins s U H _ I h) fun u s1 ⟨y,H1,I1,r1,x,hx,hl,q⟩=>?_;subst hx;obtain ⟨tk,rfl⟩:=r1;exact ⟨x,tk,rfl,hl,RA hr (acc++ x) s1 H1 hl I1 q⟩
theorem Ng(hp:PEs X (v1::v2::vs) ts):PE X (.JoinedStr (v1::v2::vs) pos) (WZ ts Str.empty):=by
 intro pins s U H Q I h;exact wpAny_JoinedStr (RA hp Str.empty s H (by decide) I h)
end
end L2
namespace L2
open PySem PySem.Spec PyProof.Rows
def JM(ea C:Addr)(dx:Option Addr):HO:= .ext fun h=> ∃ ox,h.get? ea=some ox/\ox.cls= .ref C/\W.notCls ox=true/\ox.dict=dx
section
variable{s s':Shared}
theorem Ff(hfr:A.frames=some (env::outer))(hl:s'.heap.FunFrames base (env::outer))(hf:env.frame=some L)(hH:∀ b∈frs (env::outer),H' b=none)(un:Un (frs (env::outer)) [] H H' s.heap s'.heap)(hok:HOk P w H' s'.heap)(F:Fly s.heap H' s'.heap ea C dx)(h:∀ h',Un (frs (env::outer)) [] H H' s.heap h'->HOk P w H' h'->Fly s.heap H' h' ea C dx->Q () {s' with heap:=h'}):
  wpAny M A (noteFrame (.ref ea) env) (fun _ s₂=>wpAny M A (setFlight (.ref ea) none) Q E s₂) E s':=by
 have there:∀ b u,s.heap.get? b=some u->∃ v,s'.heap.get? b=some v:=fun b u e=>un.there b u e (by simp);refine Do hfr hl hf F there (fun b o e=>(hok b o e).ex) fun h' hk hsl F'=>?_;have nofr:∀ b o,H' b=some o->b ∉ frs (env::outer):=fun b o e z=>by rw [hH b z] at e;cases e
 have tk:∀ b o u,H' b=some o->s'.heap.get? b=some u->h'.get? b=some u:=fun b o u e q=>hk b u (.inl (by rw [e];simp)) (nofr b o e) q;refine h h' ⟨fun b o e n hb hx=>hk b o (.inr ⟨o,e⟩) hb (un.keep b o e n hb hx),fun b o e n hb hx=>?_,un.free,fun b o e hx=>?_,un.tups,un.frzs,un.tbls⟩ (fun a o e=>?_) F'
 .obtain ⟨sl,e1⟩:=un.slot b o e n hb hx
  have nd:∀ vs,o.data≠ .fields vs:=fun vs z=>by
   obtain ⟨_,o',ho',hd'⟩:=hl.mem hb;rw [e1] at ho';cases ho';exact hd' vs z
  obtain ⟨sl2,e2⟩:=hsl b {o with slots:=sl} nd e1;exact ⟨sl2,e2⟩
 .by_cases hb:b∈frs (env::outer)
  .obtain ⟨_,o',ho',hd'⟩:=hl.mem hb
   obtain ⟨sl,e2⟩:=hsl b o' hd' ho';exact ⟨_,e2⟩
  .obtain ⟨o',e1⟩:=there b o e
   exact ⟨o',hk b o' (.inr ⟨o,e⟩) hb e1⟩
 .refine (hok a o e).stay (fun b u hb q=>?_) (fun _ q=>q) fun _ _ q=>q
  rcases hb with rfl | hb
  .exact tk _ _ _ e q
  .exact tk _ _ _ hb q
theorem N9(un:Un fs [] H H' s.heap s'.heap)(hok:HOk P w H' s'.heap)(F:Fly s.heap H' s'.heap ea C dx)(hT:∀ b∈fs,∀ o vs,s'.heap.get? b=some o->o.data≠ .fields vs)(h:∀ h',Un fs [] H H' s.heap h'->HOk P w H' h'->Fly s.heap H' h' ea C dx->Q () {s' with heap:=h'}):
  wpAny M A (setFlight (.ref ea) none) Q E s':=by
 obtain ⟨hnew,hfree,oe,vs,he,hc,hdx,hd,hsz,ht⟩:=id F;unfold setFlight;rcases ht with h1 | ⟨T,oT,ts,h1,hTe,hnT,hfT,hTo,hdT,h3⟩
 .refine wpAny_bind (wpAny_field he hd h1 ?_)
  rw [if_neg (by decide)];obtain ⟨hh,g,d,t,os⟩:=s';exact wpAny_pure (h hh un hok F)
 .refine wpAny_bind (wpAny_field he hd h1 ?_)
  rw [if_pos (by simp)];have hlt:=(Array.getElem?_eq_some_iff.mp h3).1;have other:∀ b,b≠T->(s'.heap.update T (Obj.mapFields (·.setIfInBounds 3 ((none:Option Addr).elim Value.none fun f=>rawInt f)))).get? b=s'.heap.get? b:=fun b z=>Heap.get?_update_other _ _ (Ne.symm z);have self:=Heap.get?_update_self (Obj.mapFields (·.setIfInBounds 3 ((none:Option Addr).elim Value.none fun f=>rawInt f))) hTo (Obj.isFreed_of_fields (Obj.data_mapFields hdT _));have old:∀ b o,s.heap.get? b=some o->b≠T:=fun b o e z=>by rw [z,hnT] at e;cases e
  refine wpAny_setField hTo hdT hlt (h _ ⟨fun b o e n hb hx=>(other b (old b o e)).trans (un.keep b o e n hb hx),fun b o e n hb hx=>?_,un.free,fun b o e hx=>?_,un.tups,un.frzs,un.tbls⟩ (fun a o e=>?_)
   ⟨hnew,hfree,oe,vs,(other ea (Ne.symm hTe)).trans he,hc,hdx,hd,hsz, .inr ⟨T,_,_,h1,hTe,hnT,hfT,self,Obj.data_mapFields hdT _,by simp [hlt]⟩⟩)
  .obtain ⟨sl,e1⟩:=un.slot b o e n hb hx
   exact ⟨sl,(other b (old b o e)).trans e1⟩
  .obtain ⟨o',e1⟩:=un.there b o e hx
   exact ⟨o',(other b (old b o e)).trans e1⟩
  .refine (hok a o e).stay (fun b u hb q=>?_) (fun _ q=>q) fun _ _ q=>q
   refine (other b ?_).trans q;rintro rfl;rcases hb with rfl | hb
   .rw [hfT] at e;cases e
   .rw [hfT] at hb;cases hb
theorem Fly.track(F:Fly old H' h ea C dx)(un:Un fs [] H H' old h)(hok:HOk P w H' h):Un fs [] H (upd H' ea (JM ea C dx)) old h/\HOk P w (upd H' ea (JM ea C dx)) h:=by
 obtain ⟨hnew,hfree,oe,vs,he,hc,hdx,hd,hsz,ht⟩:=F;have ne:∀ b o,H' b=some o->b≠ea:=fun b o e z=>by rw [z,hfree] at e;cases e
 refine ⟨⟨un.keep,un.slot,fun b o e n hx=>?_,un.there,fun b xs e=>?_,fun b o u e=>?_,fun b ps e=>?_⟩,fun a o e=>?_⟩
 .rw [ZE (fun z=>by rw [z,hnew] at e;cases e)];exact un.free b o e n hx
 .rw [ZE (ne b _ (un.tups b xs e))];exact un.tups b xs e
 .rw [ZE (ne b _ (un.frzs b o u e))];exact un.frzs b o u e
 .obtain ⟨more,q⟩:=un.tbls b ps e
  exact ⟨more,by rw [ZE (ne b _ q)];exact q⟩
 .by_cases z:a=ea
  .subst z
   rw [ZC] at e;cases e;refine ⟨⟨oe,he,hc,?_,hdx⟩,⟨oe,he⟩,fun h1 h2 ⟨ox,q1,q2⟩ k=>⟨ox,k ox q1,q2⟩⟩;unfold W.notCls;rw [hd]
  .rw [ZE z] at e
   exact (hok a o e).stay (fun b u _ q=>q) (fun b q=>by rw [ZE (ne b _ q)];exact q) fun b xs q=>by rw [ZE (ne b _ q)];exact q
end
abbrev Cx.sui(X:Cx)(A':Around):Cx:={X with A:=A',calm:=false,xe:=fun _ _=>False}
section
theorem Inv.sui(I:Inv X pins U H s)(hA:A'.frames=some X.stack):Inv (X.sui A') pins U H s:=
 ⟨⟨I.ok.mod,I.ok.kind,I.ok.glob,I.ok.blt,I.ok.above,I.ok.inj,I.ok.has,I.ok.cab,fun z=>absurd z (by simp),hA,I.ok.stk,I.ok.exf,I.ok.bs,I.ok.bsz,I.ok.noex,I.ok.exfs,I.ok.funs,I.ok.frf⟩,
  I.os,I.bare,I.base,I.loc,I.cell,I.free,I.freeC,I.pin,I.hok,I.len⟩
theorem Inv.unsui(I:Inv (X.sui A') pins U H s)(ok:X.Ok):Inv X pins U H s:=
 ⟨ok,I.os,I.bare,I.base,I.loc,I.cell,I.free,I.freeC,I.pin,I.hok,I.len⟩
theorem name_goes(I:Inv X pins U H s)(hN:X.N.Nodup)(hi:X.N[i]?=some x)(hx:X.env.kindOf x=some .local)(h:∀ s',Inv X pins (U.set i none) H s'->Q () s'):wpAny M A (do bindName X.env x .none;unbindBehindTheSuite X.env x pos) Q E s:=by
 obtain ⟨m,hn,hl⟩:=id I.loc;have hcls:(X.env.scope.kind== .class || (X.env.scope.kind== .module && X.env.locals !=X.env.globals))=false:=by rw [I.ok.kind];rfl
 refine wpAny_nameGoes_keeps hx hn hcls fun h' v hn' hs=>h _ ?_;have oth:∀ b,b≠X.env.locals->h'.get? b=s.heap.get? b:=fun b z=>hs.2 b z;have nel:∀ b o,X.s₀.heap.get? b=some o->b≠X.env.locals:=fun b o e=>O9 (Nat.lt_of_lt_of_le (Ow e) I.ok.above);have tk:∀ b o,H b=some o->b≠X.env.locals:=fun b o e z=>by rw [z,I.free] at e;cases e
 have B:=I.base;refine ⟨I.ok,I.os,I.bare,⟨fun b o e n hb hx=>(oth b (nel b o e)).trans (B.keep b o e n hb hx),fun b o e n hb hx=>?_,B.free,fun b o e hx=>?_,B.tups,B.frzs,B.tbls⟩,⟨_,hn',fun j y u hj hσ hv=>?_⟩,fun y c e=>?_,I.free,I.freeC,fun p hp=>?_,fun a o e=>?_,?_⟩
 .obtain ⟨sl,e1⟩:=B.slot b o e n hb hx
  exact ⟨sl,(oth b (nel b o e)).trans e1⟩
 .obtain ⟨o',e1⟩:=B.there b o e hx
  exact ⟨o',(oth b (nel b o e)).trans e1⟩
 .by_cases hji:j=i
  .subst hji
   rw [List.getElem?_set_self'] at hσ
   cases q:U[j]? with
   | none=>rw [q] at hσ;cases hσ
   | some z=>rw [q] at hσ;cases hσ
  .rw [List.getElem?_set_ne (Ne.symm hji)] at hσ
   obtain ⟨u',ru,lk⟩:=hl j y u hj hσ hv;have hyx:y≠x:=fun z=>hji (WA hN hj (z ▸ hi));refine ⟨u',ru,?_⟩;rcases lk with ⟨k1,k2⟩ | ⟨k1,c,k2,k3⟩
   .exact .inl ⟨k1,by show (if y=x then v else m y)=some u';rw [if_neg hyx];exact k2⟩
   .refine .inr ⟨k1,c,k2,k3.sameBut hs ?_⟩
    exact I.cne y c k2
 .obtain ⟨v',hv'⟩:=I.cell y c e
  exact ⟨v',hv'.sameBut hs (I.cne y c e)⟩
 .obtain ⟨e,n,ne,nf,d⟩:=I.pin p hp
  exact ⟨(oth p.1 ne).trans e,n,ne,nf,d⟩
 .refine (I.hok a o e).stay (fun b u hb q=>?_) (fun _ q=>q) fun _ _ q=>q
  refine (oth b ?_).trans q;rcases hb with rfl | hb
  .exact tk _ _ e
  .exact tk _ _ hb
 .rw [List.length_set];exact I.len
end
end L2
namespace L2
open PySem PySem.Spec PyProof.Rows
def Xp(CX:CXT)(X:Cx)(U:St)(E:XK):Prop:= ∀ (pins:List (Addr × Obj)) (H:Hp) (s:Shared) (e:Value) (s':Shared),Inv X pins U H s->CX X.stack H s E e s'->X.xe e s'
structure Ee(K:W.Frag)(N:Addr):Prop where
 cls:(W.clsIn K N).isSome=true
 ty:W.typeIn K (.ref N)=some (.type "type")
 base:W.mroIn K N (.type "BaseException")=some true
def L6(K:W.Frag)(Nc:Addr)(i:Nat)(tb:(St->XK)->TS)(ts:TS):TS:=fun D U H=>
 tb (fun U' cls dx H'=> ∃ C,cls= .ref C/\W.subIn K (.ref C) (.ref Nc)=some true/\(∀ d,dx=some d->∃ o,H' d=some o)/\
  ∀ ea,H' ea=none->ts {nx:=fun U H=>D.nx (U.set i none) H,rt:=D.rt,bk:=fun U H=>D.bk (U.set i none) H,ct:=fun U H=>D.ct (U.set i none) H} (U'.set i (some (.ref ea))) (upd H' ea (JM ea C dx))) D U H
section
variable{X:Cx}
theorem XE{A:Around}(h:A.frames=some l):(A.mark v).frames=some l:=h
abbrev Cx.tried(X:Cx)(pn:List (Addr × Obj))(W:Value->Shared->Prop):Cx:={X with pn:=pn,xe:=W}
theorem Inv.tried(I:Inv X pins U H s):Inv (X.tried (X.pn++ pins) W) [] U H s:=
 ⟨⟨I.ok.mod,I.ok.kind,I.ok.glob,I.ok.blt,I.ok.above,I.ok.inj,I.ok.has,I.ok.cab,I.ok.hd,I.ok.frames,I.ok.stk,I.ok.exf,I.ok.bs,I.ok.bsz,I.ok.noex,I.ok.exfs,I.ok.funs,I.ok.frf⟩,
  I.os,I.bare,I.base,I.loc,I.cell,I.free,I.freeC,fun p hp=>I.pin p (by rw [List.append_nil] at hp;exact hp),I.hok,I.len⟩
theorem Inv.untried(I:Inv (X.tried (X.pn++ pins) W) pins' U H s)(ok:X.Ok):Inv X pins U H s:=
 ⟨ok,I.os,I.bare,I.base,I.loc,I.cell,I.free,I.freeC,fun p hp=>I.pin p (List.mem_append_left _ hp),I.hok,I.len⟩
theorem Bw(hst:X.stack=X.env::X.outer)(hfr:X.env.frame=some X.env.locals)(hN:X.N.Nodup)(hi:X.N[i]?=some n)(hk:X.env.kindOf n=some .local)(hg:Gl X x)(hm:X.mg x=some (.ref Nc))(hC:Ee X.K Nc)(hb:∀ (EX:St->XK) (pn:List (Addr × Obj)) (W:Value->Shared->Prop),(∀ U,Xp (CX1 X.prog X.w) (X.tried pn W) U (EX U))->PSs (X.tried pn W) body (tb EX))(hs:∀ A',PSs (X.sui A') (b₀::suite) ts)(hdb:(x==("__debug__" :Str))=false:=by decide):
  PS X (.Try body [.ExceptHandler (some (.Name x np)) (some n) (b₀::suite) hpos] [] [] pos) (L6 X.K Nc i tb ts):=by
 intro pins s U H D I h;refine wpAny_Try_except ?_
 let EX:St->XK:=fun U' cls dx H'=> ∃ C,cls= .ref C/\PySem.W.subIn X.K (.ref C) (.ref Nc)=some true/\(∀ d,dx=some d->∃ o,H' d=some o)/\
  ∀ ea,H' ea=none->ts {nx:=fun U H=>D.nx (U.set i none) H,rt:=D.rt,bk:=fun U H=>D.bk (U.set i none) H,ct:=fun U H=>D.ct (U.set i none) H} (U'.set i (some (.ref ea))) (upd H' ea (JM ea C dx))
 let W:Value->Shared->Prop:=fun e s'=> ∃ U' H1 s1,Inv X pins U' H1 s1/\CX1 X.prog X.w X.stack H1 s1 (EX U') e s'
 have hp:∀ U,Xp (CX1 X.prog X.w) (X.tried (X.pn++ pins) W) U (EX U):=fun U' pins' H1 s1 e s' I1 hx=>⟨U',H1,s1,I1.untried I.ok,hx⟩;refine wpAny_mono (hb EX (X.pn++ pins) W hp [] s U H D I.tried h) (fun fl s1 q=>?_) fun e s1 q=>?_
 .cases fl with
  | next=>
   obtain ⟨U',H',I',q⟩:=q;exact wpAny_execs_nil ⟨U',H',I'.untried I.ok,q⟩
  | brk=>obtain ⟨U',H',I',q⟩:=q;exact ⟨U',H',I'.untried I.ok,q⟩
  | cont=>obtain ⟨U',H',I',q⟩:=q;exact ⟨U',H',I'.untried I.ok,q⟩
  | ret u=>obtain ⟨v,U',H',I',q⟩:=q;exact ⟨v,U',H',I'.untried I.ok,q⟩
 .obtain ⟨U',H1,s0,I0,ea,C,dx,H',rfl,os,bare,un,hok,F,C',hC',hsub,hdx,q⟩:=q
  cases hC';have frm:X.A.frames=some (X.env::X.outer):=hst ▸ I.ok.frames
  have hJ:∀ h' t',Un (frs X.stack) [] H1 H' s0.heap h'->HOk X.prog X.w H' h'->Inv X pins U' H' {s1 with heap:=h',toks:=t'}:=fun h' t' u k=>
   I0.call' (s':={s1 with heap:=h',toks:=t'}) os u k bare (fun b z=>absurd z (by simp))
  have J1:=hJ s1.heap s1.toks un hok;have un':Un (frs (X.env::X.outer)) [] H1 H' s0.heap s1.heap:=hst ▸ un;refine Ff (P:=X.prog) (w:=X.w) (base:=X.base) (s:=s0) frm (hst ▸ J1.stack) hfr (hst ▸ J1.stkFree) un' hok F fun h2 un2 hok2 F2=>?_;have un2':Un (frs X.stack) [] H1 H' s0.heap h2:=hst ▸ un2;have J2:=hJ h2 s1.toks un2' hok2;obtain ⟨ut,kt⟩:=F2.track un2' hok2
  have inst:∀ h3,HOk X.prog X.w (upd H' ea (JM ea C dx)) h3->∃ ox odo,PySem.W.InstAt h3 ea ox C odo:=fun h3 k3=>by
   obtain ⟨⟨ox,e1,e2,e3,e4⟩,_⟩:=(show Zr X.prog X.w _ h3 ea (JM ea C dx) from k3 ea _ ZC)
   cases hd:dx with
   | none=>exact ⟨ox,none,e1,e2,e3,by rw [e4,hd];trivial⟩
   | some d=>
    obtain ⟨o,ho⟩:=hdx d hd
    have hde:upd H' ea (JM ea C dx) d=some o:=by
     rw [ZE (fun z=>by rw [z,F2.free] at ho;cases ho)];exact ho
    obtain ⟨u,hu⟩:=(k3 d o hde).ex;exact ⟨ox,some u,e1,e2,e3,by rw [e4,hd];exact hu⟩
  have JS:Inv (X.sui (X.A.mark (some (.ref ea)))) pins U' H' {s1 with heap:=h2}:=J2.sui (XE I.ok.frames);refine wpAny_handleBy_cons (codeAny_handlers_test (JZ JS hg hm ?_ hdb)) (by intro z;cases z);obtain ⟨ox,odo,IA⟩:=inst h2 kt;refine PySem.W.exc_matches (s:={s1 with heap:=h2}) JS.kIn IA hC.cls hC.ty hC.base hsub ?_;refine codeAny_handlers_suite_as (N9 (P:=X.prog) (w:=X.w) (s:=s0) un2' hok2 F2 (fun b hb o vs ho=>?_) fun h4 un4 hok4 F4=>?_)
  .obtain ⟨_,o',ho',hd'⟩:=J2.stack.mem hb
   have ho2:h2.get? b=some o:=ho;have ho2':h2.get? b=some o':=ho';rw [ho2] at ho2';cases ho2';exact hd' vs
  .obtain ⟨ut4,kt4⟩:=F4.track un4 hok4
   have J4:Inv X pins U' (upd H' ea (JM ea C dx)) {s1 with heap:=h4}:=I0.call' (s':={s1 with heap:=h4}) os ut4 kt4 bare (fun b z=>absurd z (by simp));refine UO (v:= .ref ea) J4 hN hi (.inl hk) rfl (fun s5 J5=>?_) (.inr hk);have JS5:Inv (X.sui (X.A.mark (some (.ref ea)))) pins (U'.set i (some (.ref ea))) (upd H' ea (JM ea C dx)) s5:=J5.sui (XE I.ok.frames);refine wpAny_mono (hs _ pins s5 _ _ _ JS5 (q ea F4.free)) (fun fl s6 z=>?_) fun _ _ z=>z.elim
   cases fl with
   | next=>
    obtain ⟨σ6,H6,I6,z⟩:=z;exact name_goes (I6.unsui I.ok) hN hi hk fun s7 I7=>⟨_,H6,I7,z⟩
   | brk=>
    obtain ⟨σ6,H6,I6,z⟩:=z;exact name_goes (I6.unsui I.ok) hN hi hk fun s7 I7=>⟨_,H6,I7,z⟩
   | cont=>
    obtain ⟨σ6,H6,I6,z⟩:=z;exact name_goes (I6.unsui I.ok) hN hi hk fun s7 I7=>⟨_,H6,I7,z⟩
   | ret u=>
    obtain ⟨v,σ6,H6,I6,rv,z⟩:=z;exact name_goes (I6.unsui I.ok) hN hi hk fun s7 I7=>⟨v,_,H6,I7,rv,z⟩
end
end L2
namespace L2
open PySem PySem.Spec PyProof.Rows
theorem MV(cs:List (Str × NameKind)):∀ (acc:List (Str × Addr)),(∀ x∈cs,x.2= .free->∃ c,env.cells.lookup x.1=some c)->
  ∃ cl,(forIn cs acc (fun (x:Str × NameKind) (r:List (Str × Addr))=>(if (x.2==NameKind.free)=true then do let c <-cellOf env x.1;pure (ForInStep.yield ((x.1,c)::r)) else pure (ForInStep.yield r):Sem (ForInStep (List (Str × Addr)))))=pure cl)/\
   (∀ x c,cl.lookup x=some c->env.cells.lookup x=some c \/ acc.lookup x=some c)/\(∀ x,(x,NameKind.free)∈cs->∃ c,cl.lookup x=some c)/\(∀ x c,acc.lookup x=some c->∃ c',cl.lookup x=some c'):=by
 induction cs with
 | nil=>intro acc _;exact ⟨acc,rfl,fun x c h=> .inr h,fun x h=>(nomatch h),fun x c h=>⟨c,h⟩⟩
 | cons y r ih=>
  intro acc h;obtain ⟨n,k⟩:=y
  by_cases hk:k= .free
  .subst hk
   obtain ⟨c,hc⟩:=h (n, .free) O5 rfl;obtain ⟨cl,e1,e2,e3,e4⟩:=ih ((n,c)::acc) fun x hx=>h x (Ot _ hx);refine ⟨cl,?_,fun x c' hx=>?_,fun x hx=>?_,fun x c' hx=>?_⟩
   .rw [<-e1]
    simp only [List.forIn_cons,beq_self_eq_true,if_true,cellOf,hc]
    rfl
   .rcases e2 x c' hx with q | q
    .exact .inl q
    .rw [List.lookup_cons] at q
     cases hb:x==n with
     | true=>
      rw [hb] at q;have:x=n:=by simpa using hb
      subst this;cases q;exact .inl hc
     | false=>rw [hb] at q;exact .inr q
   .rcases O8.mp hx with q | q
    .cases q
     exact e4 n c (by simp [List.lookup_cons])
    .exact e3 x q
   .cases hb:x==n with
    | true=>exact e4 x c (by simp [List.lookup_cons,hb])
    | false=>exact e4 x c' (by simp [List.lookup_cons,hb,hx])
  .obtain ⟨cl,e1,e2,e3,e4⟩:=ih acc fun x hx=>h x (Ot _ hx)
   have hb:(k==NameKind.free)=false:=by simpa using hk
   refine ⟨cl,?_,e2,fun x hx=>?_,e4⟩
   .rw [<-e1]
    simp only [List.forIn_cons,hb,Bool.false_eq_true,if_false]
    rfl
   .rcases O8.mp hx with q | q
    .cases q;exact absurd rfl hk
    .exact e3 x q
theorem MU(h:∀ x∈scope.names,x.2= .free->∃ c,env.cells.lookup x.1=some c):
  ∃ cl,closureFor scope env=pure cl/\(∀ x c,cl.lookup x=some c->env.cells.lookup x=some c)/\(∀ x,(x,NameKind.free)∈scope.names->∃ c,cl.lookup x=some c):=by
 obtain ⟨cl,e1,e2,e3,_⟩:=MV scope.names [] h;refine ⟨cl,?_,fun x c hx=>(e2 x c hx).resolve_right (by simp),e3⟩;rw [<-bind_pure (pure cl:Sem (List (Str × Addr))),<-e1]
 rfl
theorem UT{scope:Scope}{env:Env}{x:Str}:∀ {names:List (Str × NameKind)},(names.map fun (n,k)=>if (k==NameKind.free && env.scope.kind== .function && env.kindOf n==some .cell) then (n,NameKind.cell) else (n,k)).lookup x=some .cell \/
  (names.map fun (n,k)=>if (k==NameKind.free && env.scope.kind== .function && env.kindOf n==some .cell) then (n,NameKind.cell) else (n,k)).lookup x=some .free->(∀ y∈names,y.2≠ .cell)->(x,NameKind.free)∈names
 | [],h,_=>by simp at h
 | (n,k)::r,h,hc=>by
  have ih:= @UT scope env x r;rw [O0] at h
  have key:∀ k':NameKind,(∀ k₂,((n,k')::(r.map fun (n,k)=>if (k==NameKind.free && env.scope.kind== .function && env.kindOf n==some .cell) then (n,NameKind.cell) else (n,k))).lookup x=some k₂->(x=n/\k'=k₂) \/ (r.map fun (n,k)=>if (k==NameKind.free && env.scope.kind== .function && env.kindOf n==some .cell) then (n,NameKind.cell) else (n,k)).lookup x=some k₂):=fun k' k₂ q=>by
   rw [List.lookup_cons] at q
   cases hb:x==n with
   | true=>rw [hb] at q;exact .inl ⟨by simpa using hb,Oy q⟩
   | false=>rw [hb] at q;exact .inr q
  dsimp only at h
  split at h
  .rename_i hk
   have kf:k= .free:=by
    cases k <;> simp at hk
    rfl
   subst kf;rcases h with h | h
   .rcases key _ _ h with ⟨e,_⟩ | q
    .subst e;exact O5
    .exact Ot _ (ih (.inl q) fun y hy=>hc y (Ot _ hy))
   .rcases key _ _ h with ⟨e,_⟩ | q
    .subst e;exact O5
    .exact Ot _ (ih (.inr q) fun y hy=>hc y (Ot _ hy))
  .rcases h with h | h
   .rcases key _ _ h with ⟨e,e2⟩ | q
    .exact absurd e2 (hc (n,k) O5)
    .exact Ot _ (ih (.inl q) fun y hy=>hc y (Ot _ hy))
   .rcases key _ _ h with ⟨e,e2⟩ | q
    .subst e;subst e2;exact O5
    .exact Ot _ (ih (.inr q) fun y hy=>hc y (Ot _ hy))
theorem RL(I:Nat->Shared->Prop)(turn:∀ n s,I n s->wpAny (model prog w) A (pyNext it) (fun r s1=>match r with
   | none=>R (.ok .next) s1
   | some v=>wpAny (model prog w) A (letOwnedTupleGo target it v) (fun _ s1'=>wpAny (model prog w) A (assign target env v) (fun _ s2=>wpAny (model prog w) A (eval elt env) (fun x s3=>
     wpAny (model prog w) A (call (.builtin "list.append") [acc,x]) (fun _ s4=> ∃ m,m < n/\I m s4) (fun _ _=>False) s3)
     (fun _ _=>False) s2) (fun _ _=>False) s1') (fun _ _=>False) s1) (fun _ _=>False) s)(n:Nat)(h:I n s):codeAny (model prog w) A
   (.compLoop (.ListComp elt [⟨target,iter, [],0⟩] scope pos) 0 it acc env) R s:=by
 refine codeAny_loop rfl I (fun n s hI=>wpAny_noted (m:=compTurn (.ListComp elt [⟨target,iter, [],0⟩] scope pos) 0 it acc env) ?_) n h;rw [compTurn_list1];refine wpAny_bind (wpAny_standAt (wpAny_bind (wpAny_mono (turn n s hI) (fun r s1 h1=>?_) fun _ _ h'=>h'.elim)))
 cases r with
 | none=>exact wpAny_pure h1
 | some v=>
  exact wpAny_bind (wpAny_mono h1 (fun _ s1' h1'=>wpAny_bind (wpAny_mono h1' (fun _ s2 h2=>wpAny_bind (wpAny_bind (wpAny_mono h2 (fun x s3 h3=>wpAny_bind (wpAny_mono h3
   (fun _ s4 h4=>wpAny_pure (wpAny_pure ⟨rfl,h4⟩)) fun _ _ h'=>h'.elim)) fun _ _ h'=>h'.elim))) fun _ _ h'=>h'.elim)) fun _ _ h'=>h'.elim)
theorem XD{env:Env}{x:Str}:∀ {names:List (Str × NameKind)},names.lookup x=some .free->
  (names.map fun (n,k)=>if (k==NameKind.free && env.scope.kind== .function && env.kindOf n==some .cell) then (n,NameKind.cell) else (n,k)).lookup x≠some .local
 | [],h=>by simp at h
 | (n,k)::r,h=>by
  have ih:= @XD env x r;rw [O0];dsimp only [rI0,rI,Vw];rw [List.lookup_cons] at h
  cases hb:x==n with
  | true=>
   rw [hb] at h;have kf:k= .free:=Oy h;subst kf
   split <;> simp [List.lookup_cons,hb]
  | false=>
   rw [hb] at h
   split <;> (simp only [List.lookup_cons,hb];exact ih h)
def Zq(X:Cx)(N':List Str)(scope:Scope)(cl:List (Str × Addr))(C:Addr)(fp:List Addr)(s:Shared)(H:Hp):Cx:=
 {X with N:=N',s₀:=s,H₀:=H,env:=compEnvC scope cl C X.env,outer:=X.stack,stack:=X.stack,ex:=fp,fn:=fun _=>false,pn:= [],xe:=fun _ _=>False}
def Z8(X:Cx)(own:List Str)(ix:List Nat):List Str:=own++ ix.map fun j=>X.N.getD j ("" :Str)
def YV(k:Nat)(ix:List Nat)(U:St):St:=List.replicate k none++ ix.map fun j=>U.getD j none
def GK(k:Nat)(g:TG):Prop:= ∀ x U H Q,g x U H Q->g x U H fun σ2 H2=>Q σ2 H2/\σ2.length=U.length/\σ2.drop k=U.drop k
theorem YO(h:i < k):GK k (YZ i):=fun x U H Q q=>⟨q,by simp,by rw [List.drop_set,if_pos h]⟩
def GKs(k:Nat)(g:TGs):Prop:= ∀ x U H Q,g x U H Q->g x U H fun σ2 H2=>Q σ2 H2/\σ2.length=U.length/\σ2.drop k=U.drop k
theorem K8:GKs k RE:=fun x U H Q q=>by
 match x,q with
 | [],q=>exact ⟨q,rfl,rfl⟩
theorem NC(h1:GK k g)(h2:GKs k gs)(m1:∀ x U H (Q Q':St->Hp->Prop),(∀ a b,Q a b->Q' a b)->g x U H Q->g x U H Q')(m2:∀ x U H (Q Q':St->Hp->Prop),(∀ a b,Q a b->Q' a b)->gs x U H Q->gs x U H Q'):GKs k (Jh g gs):=fun x U H Q q=>by
 match x,q with
 | v::r,q=>
  refine m1 _ _ _ _ _ (fun a b z=>?_) (h1 _ _ _ _ q);obtain ⟨z1,z2,z3⟩:=z;refine m2 _ _ _ _ _ (fun c d y=>?_) (h2 _ _ _ _ z1);exact ⟨y.1,y.2.1.trans z2,y.2.2.trans z3⟩
theorem K7{K:W.Frag}(h:GKs k gs):GK k (Fu K n gs):=fun x U H Q q=>by
 match x,q with
 | .ref a,q=>
  obtain ⟨xs,h1,h2,q⟩:=q;exact ⟨xs,h1,h2,h _ _ _ _ q⟩
def W5(J:It)(g:TG)(te:TE)(s0:St)(Q:VK)(H1:Hp):Prop:= ∃ W:Nat->Nat->List V->Hp->Prop,(∃ m,W 0 m [] H1)/\∀ i m ys H,W i m ys H->
 ys.length < sizeLine/\((J.stop i H/\∀ p,H p=none->Q (.ref p) (upd H p (.lst ys))) \/
  (J.go i H/\∀ x H',J.yld i H x H'->g x s0 H' fun σ2 H2=>te σ2 H2 fun y H3=> ∃ m',m' < m/\W (i + 1) m' (ys++ [y]) H3))
def Ic(k:Nat)(ix:List Nat)(wi:TI)(g:TG)(te:TE):TE:=fun U H Q=>wi U H fun J H1=>W5 J g te (YV k ix U) Q H1
theorem Inv.retrack(I:Inv X pins U H s)(hD:H D=none)(f:Ve X pins H D)(new:Zr X.prog X.w (upd H D o) s.heap D o):Inv X pins U (upd H D o) s:=by
 have ne:∀ b u,H b=some u->b≠D:=fun b u e=>ZG e hD;have r:=I.step (h':=s.heap) (H':=upd H D o) (g':=s.gens) (d':=s.drawn) (t':=s.toks) (ch:= [D])
  (fun b hb=>by
   have e:b=D:=by simpa using hb
   subst e;exact ⟨f.2.2.2.1,f.2.1,f.2.2.2.2.1,f.2.2.2.2.2⟩)
  (fun b o _ _ _ e _=>e) (fun b o _ _ _ e _=>⟨o.slots,e⟩) (fun b o hb e n=>by rw [ZE (fun z=>hb (by simp [z]))];exact n) (fun b o _ e=>⟨o,e⟩)
  (fun b xs e=>by rw [ZE (ne _ _ e)];exact e) (fun b o u e=>by rw [ZE (ne _ _ e)];exact e) (fun b ps e=>⟨#[],by rw [ZE (ne _ _ e),e];simp⟩) (fun m hm=>hm)
  (fun b u e=>by
   by_cases hb:b=D
   .subst hb;rw [ZC] at e;cases e;exact new
   .rw [ZE hb] at e
    exact (I.hok b u e).stay (fun c v _ q=>q) (fun c q=>by rw [ZE (ne _ _ q)];exact q) fun c xs q=>by rw [ZE (ne _ _ q)];exact q) I.bare
 exact r
def V1(sc:Scope)(outer:List (Str × NameKind))(N:List Str)(ix:List Nat):Bool:=
 sc.names.all (fun x=>(decide (x.2≠ .local) || decide (sc.names.lookup x.1=some .local)) && decide (x.2≠ .cell) && (decide (x.2≠ .free) || decide (outer.lookup x.1=some .cell) || decide (outer.lookup x.1=some .free))) &&
  ix.all fun j=>match N[j]? with
   | some y=>decide (sc.names.lookup y=some .free)
   | none=>false
theorem V1.all(hok:V1 sc outer N ix=true):
  (∀ x∈sc.names,x.2= .local->sc.names.lookup x.1=some .local)/\(∀ x∈sc.names,x.2≠ .cell)/\(∀ x∈sc.names,x.2= .free->outer.lookup x.1=some .cell \/ outer.lookup x.1=some .free)/\∀ j∈ix,∃ y,N[j]?=some y/\sc.names.lookup y=some .free:=by
 unfold V1 at hok;rw [O4,List.all_eq_true,List.all_eq_true] at hok;have each:=fun x hx=>hok.1 x hx;simp only [O4,Bool.or_eq_true,decide_eq_true_eq] at each;refine ⟨fun x hx hl=>(each x hx).1.1.resolve_left fun z=>z hl,fun x hx=>(each x hx).1.2,fun x hx hf=>?_,fun j hj=>?_⟩
 .rcases (each x hx).2 with (z | z) | z
  .exact absurd hf z
  .exact .inl z
  .exact .inr z
 .have q:=hok.2 j hj
  cases e:N[j]? with
  | none=>rw [e] at q;cases q
  | some y=>rw [e] at q;exact ⟨y,rfl,of_decide_eq_true q⟩
structure CB(X:Cx)(own:List Str)(ix:List Nat)(scope:Scope)(pins:List (Addr × Obj))(U:St)(tg:Expr)(cl:List (Str × Addr))(D C:Addr)(fp:List Addr)(it:Addr)(tn:Nat->Heap->Prop)(J:It)(H2:Hp)(s3:Shared):Prop where
 T:Turn X.prog X.w X.K tg J fp it tn
 ok:(Zq X (Z8 X own ix) scope cl C (D::fp) s3 H2).Ok
 nfp:∀ b∈fp,b≠D
 f2:∀ b∈fp,Ve X pins H2 b
 fD:Ve X pins H2 D
 I3:Inv X pins U H2 s3
 CD:C≠D
 fC:∀ H':Hp,H' C=none->Ve X pins H' C
section
theorem JO{rest:List Comprehension}(own:List Str)(ix:List Nat)(hi:PI X tg iter wi)(hkind:scope.kind= .function)(hok:V1 scope X.env.scope.names X.N ix=true)(hs:∀ x,foldedSetIterable iter X.env x=pure x)(I:Inv X pins U H s)(h:wi U H R)(loop:∀ (cl:List (Str × Addr)) (D C:Addr) (fp:List Addr) (it:Addr) (tn:Nat->Heap->Prop) (J:It) (H2:Hp) (s3 s5:Shared),CB X own ix scope pins U tg cl D C fp it tn J H2 s3->R J H2->Inv (Zq X (Z8 X own ix) scope cl C (D::fp) s3 H2) [] (YV own.length ix U) H2 s5->tn 0 s5.heap->s5.heap.PlainList D (List.toArray [])->
   codeAny (model X.prog X.w) X.A (.compLoop (.ListComp elt (⟨tg,iter,ifs,0⟩::rest) scope pos) 0 (.ref it) (.ref D) (compEnvC scope cl C X.env)) (compPost (model X.prog X.w) X.A X.xe use POST (.ref D) C) s5):
  wpAny (model X.prog X.w) X.A (comprehension (.ListComp elt (⟨tg,iter,ifs,0⟩::rest) scope pos) scope X.env cpos (newList []) false (eval iter X.env) use) POST X.xe s:=by
 obtain ⟨hnames,hcell,hcap,hix⟩:=V1.all hok;have hcells:∀ x∈scope.names,x.2= .free->∃ c,X.env.cells.lookup x.1=some c:=fun x hx hf=>I.ok.has x.1 (hcap x hx hf);obtain ⟨cl,hcl,hcl1,hcl2⟩:=MU hcells;refine wpAny_comprehension_free rfl hs hcl hkind hnames ?_;refine thn (hi pins s U H _ I h) fun v s1 h1=>thn h1 fun itv s2 h2=>?_;obtain ⟨it,fp,tn,J,H2,e,I2,T,st2,f2,hR⟩:=h2;subst e;refine wpAny_newObj_type (wpAny_newFunctionEnv hcell (by intro y hy;simp at hy) (fun h4 hns hsb=>?_) hkind);dsimp only at hns hsb |-;generalize hh3:s2.heap.push {cls:= .type "list",dict:=none,data:= .seq ([]:List Value).toArray}=h3 at hns hsb |-;have sz3:h3.objs.size=s2.heap.objs.size + 1:=by rw [<-hh3,Heap.size_push]
 have k23:∀ b u,s2.heap.get? b=some u->h3.get? b=some u:=fun b u q=>by rw [<-hh3];exact Oj _ q
 have D3:h3.get? s2.heap.objs.size=some {cls:= .type "list",data:= .seq #[]}:=by rw [<-hh3];exact O3 _ rfl
 obtain ⟨D,hD⟩:∃ D,D=s2.heap.objs.size:=⟨_,rfl⟩;obtain ⟨C,hC⟩:∃ C,C=h3.objs.size:=⟨_,rfl⟩;rw [<-hC] at hns hsb;rw [<-hD] at D3 sz3;have hCD:C=D + 1:=hC.trans sz3
 let s3:Shared:={s2 with heap:=h3}
 have I3:Inv X pins U H2 s3:=I2.kept (t':=s2.toks) k23;have lt3:∀ b u,h3.get? b=some u->b < C:=fun b u q=>by rw [hC];exact Ow q
 have k34:∀ b u,h3.get? b=some u->h4.get? b=some u:=fun b u q=>hsb.extBut b u (O9 (lt3 b u q)) (Oj _ q);have H2D:H2 D=none:=I2.hok.fresh (by rw [hD];exact Om _);have H2C:H2 C=none:=I2.hok.fresh (by rw [hCD,hD];exact Nat.le_succ _);have fD:Ve X pins H2 D:=I2.fpOk (by rw [hD];exact Om _) H2D
 have cellsLt:∀ x c,X.env.cells.lookup x=some c->c < D:=fun x c e=>by
  obtain ⟨v,z⟩:=I2.cell x c e;rw [hD];exact z.lt
 have fpLt:∀ b∈fp,b < D:=fun b hb=>by
  obtain ⟨o,e,_⟩:=T.obj 0 _ st2 b hb;rw [hD];exact Ow e
 let X':Cx:=Zq X (Z8 X own ix) scope cl C (D::fp) s3 H2
 have stkLt:∀ b∈frs X.stack,b ∉ D::fp:=fun b hb z=>by
  rcases O8.mp z with z | z
  .have q:=I2.stack
   obtain ⟨_,o,e,_⟩:=q.mem hb;have:=Ow e;rw [z,hD] at this;exact Nat.lt_irrefl _ this
  .rcases O8.mp (I2.stkSub b hb) with q | q
   .exact (f2 b z).2.1 q
   .exact (f2 b z).2.2.1 q
 have ok':X'.Ok:=by
  refine ⟨I.ok.mod,hkind,I.ok.glob,I.ok.blt,?_,fun x y c h1 h2=>I.ok.inj x y c (hcl1 x c h1) (hcl1 y c h2),fun x hx=>hcl2 x (UT (scope:=scope) hx hcell),(fun x c z=>Bool.noConfusion (show false=true from z)),I.ok.hd,I.ok.frames, .inl rfl,fun b hb=>⟨?_,fun x c h1=>?_⟩,fun b o e=>?_,?_,fun b o e hb=>?_,fun b hb z=>stkLt b z hb,?_,fun b hb=>I2.stkFree b hb⟩
  .show h3.objs.size<=C
   rw [hC];exact Om _
  .show b≠C
   rcases O8.mp hb with z | z
   .rw [z,hCD];exact O9 (Nat.lt_succ_self _)
   .rw [hCD];exact O9 (Nat.lt_succ_of_lt (fpLt b z))
  .rcases O8.mp hb with z | z
   .rw [z];exact O9 (cellsLt x c (hcl1 x c h1))
   .exact (f2 b z).2.2.2.2.1 x c (hcl1 x c h1)
  .exact I3.bs b o e
  .show X.base.objs.size<=h3.objs.size
   have:=O6 I.ok.bsz I2.sz;rw [<-hD] at this;rw [<-hC,hCD];exact Nat.le_succ_of_le this
  .rcases O8.mp hb with z | z
   .have:=Ow (I2.bk b o e)
    rw [z,hD] at this;exact Nat.lt_irrefl _ this
   .rcases (f2 b z).2.2.2.1 with q | q
    .exact I.ok.noex b o e q
    .have:=Nat.lt_of_lt_of_le (Ow (I.ok.bs b o e).1) q
     exact Nat.lt_irrefl _ this
  .exact I3.stack
 have lenN:(YV own.length ix U).length=(Z8 X own ix).length:=by simp [YV,Z8]
 have I4:∀ t,Inv X' [] (YV own.length ix U) H2 {s2 with heap:=h4,toks:=t}:=fun t=>by
  refine ⟨ok',rfl,I2.bare,Un.kept k34,⟨_,hns,fun i x v e1 e2 e3=>?_⟩,fun x c e=>?_,H2C,fun x c e=>I2.freeC x c (hcl1 x c e),fun p hp=>absurd (show p∈([]:List (Addr × Obj)) from hp) (by simp),(I3.hok).kept k34,lenN⟩
  .-- a name of the def that the block reads
   have hi':own.length<=i:=by
    apply Nat.le_of_not_lt;intro hlt;unfold YV at e2;rw [List.getElem?_append_left (by simpa using hlt),List.getElem?_replicate,if_pos hlt] at e2;cases e2
   have e1':(ix.map fun j=>X.N.getD j ("" :Str))[i - own.length]?=some x:=by
    have z:(own++ ix.map fun j=>X.N.getD j ("" :Str))[i]?=some x:=e1
    rwa [List.getElem?_append_right hi'] at z
   have e2':(ix.map fun j=>U.getD j none)[i - own.length]?=some (some v):=by
    unfold YV at e2;rw [List.getElem?_append_right (by simpa using hi')] at e2;simpa using e2
   rw [On] at e1' e2'
   cases hj:ix[i - own.length]? with
   | none=>rw [hj] at e1';cases e1'
   | some j=>
    rw [hj] at e1' e2';obtain ⟨y,hy,hfree⟩:=hix j (Oo hj)
    have ex:x=y:=by
     have z:X.N.getD j ("" :Str)=x:=Oy e1';rw [<-z,List.getD_eq_getElem?_getD,hy];rfl
    subst ex
    have ev:U[j]?=some (some v):=by
     have z:U.getD j none=some v:=Oy e2';rw [List.getD_eq_getElem?_getD] at z
     cases q:U[j]? with
     | none=>rw [q] at z;cases z
     | some a=>rw [q] at z;exact congrArg some z
    have hxm:=PySem.mem_of_lookup hfree;have hvis:=hcap _ hxm rfl;obtain ⟨m,hn,hl⟩:=I2.loc;obtain ⟨u,r,lk⟩:=hl j x v hy ev (.inr hvis);refine ⟨u,r, .inr ⟨?_,?_⟩⟩
    .rcases e3 with z | z
     .exact absurd z (XD hfree)
     .exact z
    .rcases lk with ⟨k,_⟩ | ⟨_,c,hc1,z⟩
     .rcases hvis with q | q
      .exact absurd (k.symm.trans q) (by simp)
      .exact absurd (k.symm.trans q) (by simp)
     .obtain ⟨c',hc'⟩:=hcl2 x hxm
      have:=hcl1 x c' hc';rw [hc1] at this;cases this;obtain ⟨o,ho,hd⟩:=z;exact ⟨c,hc',o,k34 _ _ (k23 _ _ ho),hd⟩
  .obtain ⟨v,z⟩:=I3.cell x c (hcl1 x c e)
   obtain ⟨o,ho,hd⟩:=z;exact ⟨v,o,k34 _ _ ho,hd⟩
 have B:CB X own ix scope pins U tg cl D C fp it tn J H2 s3:=⟨T,ok',fun b hb=>O9 (fpLt b hb),f2,fD,I3,by rw [hCD];exact Nat.ne_of_gt (Nat.lt_succ_self _),fun H' hn=>I2.fpOk (by rw [hCD,hD];exact Nat.le_succ _) hn⟩;have loop':=fun t=>loop cl D C fp it tn J H2 s3 {s2 with heap:=h4,toks:=t} B hR (I4 t) (T.keep 0 _ _ st2 fun b _ o e=>k34 _ _ (k23 _ _ e)) ⟨_,k34 _ _ D3⟩;rw [<-hC,<-hD];exact codeAny_compStart_list (loop' _) (T.self _ 0 _ _ _ (T.keep 0 _ _ st2 fun b _ o e=>k34 _ _ (k23 _ _ e)) (loop' _))
theorem CB.stop(B:CB X own ix scope pins U tg cl D C fp it tn J H2 s3)(I6:Inv (Zq X (Z8 X own ix) scope cl C (D::fp) s3 H2) [(D,oD)] τ H5 s6)(hz:ys.length < sizeLine)(v5:Vals ys its)(eo:oD={cls:= .type "list",data:= .seq its.toArray nn}):
  Inv X pins U (upd H5 D (.lst ys)) s6/\Ve X pins (upd H5 D (.lst ys)) C/\(∃ m,s6.heap.Ns C m)/\H5 D=none:=by
 obtain ⟨m,hn6,_⟩:=id I6.loc
 have I7:Inv X pins U H5 s6:=B.I3.call' (ch:=D::fp) I6.os I6.base I6.hok I6.bare fun b hb=>by
  rcases O8.mp hb with z | z
  .subst z
   exact ⟨B.fD.2.2.2.1,B.fD.2.1,B.fD.2.2.2.2.1,B.fD.2.2.2.2.2⟩
  .have f:=B.f2 b z
   exact ⟨f.2.2.2.1,f.2.1,f.2.2.2.2.1,f.2.2.2.2.2⟩
 obtain ⟨gD,nD,_⟩:=I6.pin (D,oD) (by simp);subst eo;exact ⟨I7.retrack (o:= .lst ys) nD ⟨nD,B.fD.2⟩ ⟨PF hz,its,nn,v5,gD⟩,B.fC _ (by rw [ZE B.CD];exact I6.free),⟨m,hn6⟩,nD⟩
theorem MR(I8:Inv X pins U H' s6)(fC:Ve X pins H' C)(hm:∃ m,s6.heap.Ns C m)(q:Q (.ref D) H'):compPost (model X.prog X.w) X.A X.xe none (EP X pins U Q) (.ref D) C (.ok .next) s6:=by
 obtain ⟨m,hn⟩:=hm;exact ⟨m,hn,fun h' hs'=>⟨.ref D,_,I8.turned (it:=C) (t':=s6.toks) (fun b o hb e=>(hs'.2 b hb).trans e) fC.1 fC.2.1 fC.2.2.2.1 fC.2.2.2.2.1 fC.2.2.2.2.2,rfl,q⟩⟩
theorem MQ{D0:Ends}(hN:X.N.Nodup)(hi0:X.N[i0]?=some x0)(hx0:Loc X.env.scope x0)(hf:X.fn x0=true \/ X.env.scope.names.lookup x0=some .local)(I8:Inv X pins U H' s6)(fC:Ve X pins H' C)(hm:∃ m,s6.heap.Ns C m)(q:YZ i0 (.ref D) U H' D0.nx):
  compPost (model X.prog X.w) X.A X.xe (some (assign (.Name x0 py) X.env)) (fun _ s'=> ∃ U' H',Inv X pins U' H' s'/\D0.nx U' H') (.ref D) C (.ok .next) s6:=by
 obtain ⟨m,hn6⟩:=hm;show wpAny _ X.A (assign (.Name x0 py) X.env (.ref D)) _ _ _;refine wpAny_assign_Name (Wd (v:= .ref D) I8 hN hi0 hx0 rfl (fun s7 I9 hs7=>?_) hf);obtain ⟨a,hs7,ha⟩:=hs7
 have hCa:C≠a:=by
  rcases ha with ha | ha
  .rw [ha];exact fC.2.1
  .exact fun z=>fC.2.2.2.2.1 x0 a ha z.symm
 exact ⟨m,hn6.sameBut hs7 hCa,fun h' hs'=>⟨_,_,I9.turned (it:=C) (t':=s7.toks) (fun b o hb e=>(hs'.2 b hb).trans e) fC.1 fC.2.1 fC.2.2.2.1 fC.2.2.2.2.1 fC.2.2.2.2.2,q⟩⟩
theorem Gs(hsw:swapsWith (.ListComp e gens scope pos) (some (.Name x0 py)) spos.line X.env=pure true)(h:wpAny (model X.prog X.w) X.A (comprehension (.ListComp e gens scope pos) scope X.env (firstIterPos gens pos) (newList []) (firstAsync gens) (firstIter gens X.env) (some (assign (.Name x0 py) X.env))) (fun _ s'=> ∃ U' H',Inv X pins U' H' s'/\D0.nx U' H') X.xe s):
  wpAny (model X.prog X.w) X.A (exec (.Assign [.Name x0 py] (.ListComp e gens scope pos) spos) X.env) (SP X pins D0) X.xe s:=by
 rw [exec_Assign_Name_used _ _ _ _ hsw];refine wpAny_bind (wpAny_standAt (wpAny_bind (?_:wpAny _ X.A (do let _ <-comprehension (.ListComp e gens scope pos) scope X.env _ (newList []) _ _ (some (assign (.Name x0 py) X.env))) _ _ s)));exact wpAny_bind (wpAny_mono h (fun _ s' hq=>wpAny_pure (wpAny_pure hq)) fun _ _ e=>e)
theorem CB.loop1(B:CB X own ix scope pins U tg cl D C fp it tn J H2 s3)(hc:X.calm=true)(hgk:GK own.length g)(hg:∀ cl C fp s H,PG (Zq X (Z8 X own ix) scope cl C fp s H) tg g)(he:∀ cl C fp s H,PE (Zq X (Z8 X own ix) scope cl C fp s H) elt te)(cw:W5 J g te (YV own.length ix U) Q H2)(fin:∀ s6 H5 ys,Inv X pins U (upd H5 D (.lst ys)) s6->Ve X pins (upd H5 D (.lst ys)) C->(∃ m,s6.heap.Ns C m)->Q (.ref D) (upd H5 D (.lst ys))->Rs (.ok .next) s6)(I4:Inv (Zq X (Z8 X own ix) scope cl C (D::fp) s3 H2) [] (YV own.length ix U) H2 s5)(st4:tn 0 s5.heap)(lD:s5.heap.PlainList D (List.toArray [])):
  codeAny (model X.prog X.w) X.A (.compLoop (.ListComp elt [⟨tg,iter, [],0⟩] scope pos) 0 (.ref it) (.ref D) (compEnvC scope cl C X.env)) Rs s5:=by
 obtain ⟨W,⟨m0,w0⟩,turn⟩:=cw;have T:=B.T;have ok':=B.ok;have nfp:=B.nfp
 let X':Cx:=Zq X (Z8 X own ix) scope cl C (D::fp) s3 H2
 have fp':∀ {H':Hp}{pl:List (Addr × Obj)},(∀ p∈pl,p.1=D)->(∀ b∈fp,H' b=none)->∀ b∈fp,Ve X' pl H' b:=fun {H' pl} hp hn b hb=>
  ⟨hn b hb,(ok'.exf b (Ot _ hb)).1,ok'.exfs b (Ot _ hb), .inl (Ot _ hb),(ok'.exf b (Ot _ hb)).2,fun p hp' z=>nfp b hb (z ▸ hp p (by
   have q:p∈([]:List (Addr × Obj))++ pl:=hp';simpa using q))⟩
 have dX:D≠X'.env.locals:=(ok'.exf D O5).1;have dF:D ∉ X'.fs:=ok'.exfs D O5;refine RL (fun n s'=> ∃ i ys its H',Inv X' [] (YV own.length ix U) H' s'/\tn i s'.heap/\(∀ b∈fp,H' b=none)/\H' D=none/\s'.heap.PlainList D (List.toArray its)/\Vals ys its/\W i n ys H') ?_ m0
  ⟨0, [], [],H2,I4,st4,fun b hb=>(B.f2 b hb).1,B.fD.1,lD, .nil,w0⟩
 rintro n s5 ⟨i,ys,its,H5,I5,st5,fr5,d5,⟨nn,l5⟩,v5,w5⟩;obtain ⟨hz,hcase⟩:=turn i n ys H5 w5
 let oD:Obj:={cls:= .type "list",data:= .seq its.toArray nn}
 have onlyD:∀ p∈ [((D,oD):Addr × Obj)],p.1=D:=fun p hp=>by
  have e:p=(D,oD):=by simpa using hp
  rw [e]
 have I5':Inv X' [(D,oD)] (YV own.length ix U) H5 s5:=I5.pins_of fun p hp=>by
  have e:p=(D,oD):=by simpa using hp
  subst e;exact ⟨l5,d5,dX,dF,fun v z=>nomatch z⟩
 rcases hcase with ⟨stop,qn⟩ | ⟨go,step⟩
 .refine thn (T.done X' rfl rfl rfl hc i _ s5 _ H5 _ I5' (fp' onlyD fr5) st5 stop) fun r s6 ⟨hr,I6⟩=>?_
  subst hr;obtain ⟨z1,z2,z3,nD⟩:=B.stop I6 hz v5 rfl;exact fin s6 H5 ys z1 z2 z3 (qn D nD)
 .refine thn (T.item X' rfl rfl rfl hc i _ s5 _ H5 _ I5' (fp' onlyD fr5) st5 go) fun r s6 ⟨u,hr,h6⟩=>?_
  subst hr;refine thn h6 fun _ s7 ⟨x,H7,I7,r7,y7,st7,fr7⟩=>?_;have I7':=I7.pinned (fp' onlyD fr7) (T.obj _ _ st7);refine thn (hg cl C (D::fp) s3 H2 _ s7 _ H7 x u _ I7' r7 (hgk _ _ _ _ (step x H7 y7))) fun _ s8 ⟨σ8,H8,I8,q8,l8,k8⟩=>?_;refine thn (he cl C (D::fp) s3 H2 _ s8 σ8 H8 _ I8 q8) fun yv s9 ⟨y,H9,I9,r9,m',hm',w9⟩=>?_;obtain ⟨gD,nD,_⟩:=I9.pin (D,oD) (by simp);have hlen:its.length=ys.length:=v5.length.symm;refine wpAny_list_append_plain (l:=D) (items:=its.toArray) ⟨nn,gD⟩ (fun h' hl' hs'=>?_) (by rw [Ov,hlen];exact PF hz);have kp:∀ b o,b≠D->s9.heap.get? b=some o->h'.get? b=some o:=fun b o hb q=>(hs'.2 b hb).trans q
  have I9':Inv X' (Z1 fp s7.heap) σ8 H9 s9:=I9.pins_of fun p hp=>I9.pin p (by
   refine Oz _ (Oz _ hp))
  have pinNe:∀ p∈X'.pn++ Z1 fp s7.heap,p.1≠D:=fun p hp=>by
   have q:p∈([]:List (Addr × Obj))++ Z1 fp s7.heap:=hp;exact nfp _ (Jx (by simpa using q)).1
  have I10:Inv X' (Z1 fp s7.heap) σ8 H9 {s9 with heap:=h',toks:=s9.toks}:=I9'.turned (it:=D) kp nD dX (.inl O5) (ok'.exf D O5).2 pinNe;refine ⟨m',hm',i + 1,ys++ [y],its++ [yv],H9,?_,?_,?_,nD,?_,v5.append (.cons r9 .nil),w9⟩
  .refine Inv.weak (I10.pins_of (pins':= []) fun p hp=>nomatch hp) (by rw [l8]) fun j v hj=>?_
   by_cases hlt:j < own.length
   .unfold YV at hj
    rw [List.getElem?_append_left (by simpa using hlt),List.getElem?_replicate,if_pos hlt] at hj;cases hj
   .have e:σ8[j]?=(YV own.length ix U)[j]?:=by
     have q:=congrArg (fun l:List (Option V)=>l[j - own.length]?) k8;simp only [List.getElem?_drop] at q
     rwa [Nat.add_sub_cancel' (Nat.le_of_not_lt hlt)] at q
    rw [e];exact hj
  .exact T.keep _ _ _ st7 fun b hb o e=>(I10.pin (b,o) (Oz _ (YT hb e))).1
  .intro b hb
   obtain ⟨o,e,d⟩:=T.obj _ _ st7 b hb;exact (I10.pin (b,o) (Oz _ (YT hb e))).2.1
  .have e:(its++ [yv]).toArray=its.toArray.push yv:=by simp
   rw [e];exact hl'
end
theorem TJ(I:Nat->Shared->Prop)(turn:∀ n s,I n s->wpAny (model prog w) A (pyNext it) (fun r s1=>match r with
   | none=>R (.ok .next) s1
   | some v=>wpAny (model prog w) A (letOwnedTupleGo target it v) (fun _ s1'=>wpAny (model prog w) A (assign target env v) (fun _ s2=>wpAny (model prog w) A (isTrue ct env (eval ct env)) (fun b s2'=>if b=true then wpAny (model prog w) A (eval elt env) (fun x s3=>
     wpAny (model prog w) A (call (.builtin "list.append") [acc,x]) (fun _ s4=> ∃ m,m < n/\I m s4) (fun _ _=>False) s3)
     (fun _ _=>False) s2' else ∃ m,m < n/\I m s2') (fun _ _=>False) s2) (fun _ _=>False) s1') (fun _ _=>False) s1) (fun _ _=>False) s)(n:Nat)(h:I n s):codeAny (model prog w) A (.compLoop (.ListComp elt [⟨target,iter, [ct],0⟩] scope pos) 0 it acc env) R s:=by
 refine codeAny_loop rfl I (fun n s hI=>wpAny_noted (m:=compTurn (.ListComp elt [⟨target,iter, [ct],0⟩] scope pos) 0 it acc env) ?_) n h;rw [compTurn_list];refine wpAny_bind (wpAny_standAt (wpAny_bind (wpAny_mono (turn n s hI) (fun r s1 h1=>?_) fun _ _ h'=>h'.elim)))
 cases r with
 | none=>exact wpAny_pure h1
 | some v=>
  refine wpAny_bind (wpAny_mono h1 (fun _ s1' h1'=>wpAny_bind (wpAny_mono h1' (fun _ s2 h2=>?_) fun _ _ h'=>h'.elim)) fun _ _ h'=>h'.elim);dsimp only;refine wpAny_bind ?_;rw [List.forIn_cons];simp only [if_true];refine wpAny_bind (wpAny_bind (wpAny_mono h2 (fun b s2' h2'=>wpAny_pure ?_) fun _ _ h'=>h'.elim));dsimp only;rw [List.forIn_nil];refine wpAny_pure ?_
  cases b with
  | true=>
   rw [if_pos rfl] at h2';simp only [if_true];exact wpAny_bind (wpAny_bind (wpAny_mono h2' (fun x s3 h3=>wpAny_bind (wpAny_mono h3 (fun _ s4 h4=>wpAny_pure (wpAny_pure ⟨rfl,h4⟩)) fun _ _ h'=>h'.elim)) fun _ _ h'=>h'.elim))
  | false=>
   rw [if_neg (by simp)] at h2';simp only [if_neg PH];exact wpAny_pure ⟨rfl,h2'⟩
def Mb(J:It)(g:TG)(tc:TT)(te:TE)(s0:St)(Q:VK)(H1:Hp):Prop:= ∃ W:Nat->Nat->List V->Hp->Prop,(∃ m,W 0 m [] H1)/\∀ i m ys H,W i m ys H->
 ys.length < sizeLine/\((J.stop i H/\∀ p,H p=none->Q (.ref p) (upd H p (.lst ys))) \/
  (J.go i H/\∀ x H',J.yld i H x H'->g x s0 H' fun σ2 H2=>tc σ2 H2 fun b H3=>if b=true then te σ2 H3 fun y H4=> ∃ m',m' < m/\W (i + 1) m' (ys++ [y]) H4 else ∃ m',m' < m/\W (i + 1) m' ys H3))
def BV(k:Nat)(ix:List Nat)(wi:TI)(g:TG)(tc:TT)(te:TE):TE:=fun U H Q=>wi U H fun J H1=>Mb J g tc te (YV k ix U) Q H1
theorem V0(n:Nat)(hn:n < sizeLine)(Pv:Nat->List V->Hp->Prop)(h0:Pv 0 [] H)(hlen:∀ i vs H,Pv i vs H->vs.length<=i)(hgo:∀ i vs H,i < n->Pv i vs H->J.go i H)(hstop:∀ vs H,Pv n vs H->J.stop n H)(hs:∀ i vs H x H' (R:Bool->V->Hp->Prop),i < n->Pv i vs H->J.yld i H x H'->(∀ v H3,Pv (i + 1) (vs++ [v]) H3->R true v H3)->(∀ H3,Pv (i + 1) vs H3->R false .non H3)->g x s0 H' fun s2 H2=>tc s2 H2 fun b H3=>if b=true then te s2 H3 (R true) else R false .non H3)(hd:∀ vs H p,Pv n vs H->H p=none->Q (.ref p) (upd H p (.lst vs))):
  Mb J g tc te s0 Q H:=by
 refine ⟨fun i m vs H=>m=n - i/\i<=n/\Pv i vs H,⟨n,by simp,O7 _,h0⟩,?_⟩;rintro i m vs H ⟨rfl,hi,p⟩;have hl:=hlen i vs H p;refine ⟨by omega,?_⟩
 by_cases hlt:i < n
 .exact .inr ⟨hgo i vs H hlt p,fun x H' y=>hs i vs H x H' (fun b v H3=>if b=true then ∃ m',m' < n - i/\m'=n - (i + 1)/\i + 1<=n/\Pv (i + 1) (vs++ [v]) H3 else ∃ m',m' < n - i/\m'=n - (i + 1)/\i + 1<=n/\Pv (i + 1) vs H3) hlt p y
   (fun v H3 p3=>by rw [if_pos rfl];exact ⟨n - (i + 1),by omega,rfl,hlt,p3⟩) fun H3 p3=>by rw [if_neg (by simp)];exact ⟨n - (i + 1),by omega,rfl,hlt,p3⟩⟩
 .have e:i=n:=by omega
  subst e;exact .inl ⟨hstop vs H p,fun a ha=>hd vs H a p ha⟩
section
theorem CB.loopI(B:CB X own ix scope pins U tg cl D C fp it tn J H2 s3)(hc:X.calm=true)(hgk:GK own.length g)(hg:∀ cl C fp s H,PG (Zq X (Z8 X own ix) scope cl C fp s H) tg g)(hct:∀ cl C fp s H,PT (Zq X (Z8 X own ix) scope cl C fp s H) ct tc)(he:∀ cl C fp s H,PE (Zq X (Z8 X own ix) scope cl C fp s H) elt te)(cw:Mb J g tc te (YV own.length ix U) Q H2)(fin:∀ s6 H5 ys,Inv X pins U (upd H5 D (.lst ys)) s6->Ve X pins (upd H5 D (.lst ys)) C->(∃ m,s6.heap.Ns C m)->Q (.ref D) (upd H5 D (.lst ys))->Rs (.ok .next) s6)(I4:Inv (Zq X (Z8 X own ix) scope cl C (D::fp) s3 H2) [] (YV own.length ix U) H2 s5)(st4:tn 0 s5.heap)(lD:s5.heap.PlainList D (List.toArray [])):
  codeAny (model X.prog X.w) X.A (.compLoop (.ListComp elt [⟨tg,iter, [ct],0⟩] scope pos) 0 (.ref it) (.ref D) (compEnvC scope cl C X.env)) Rs s5:=by
 obtain ⟨W,⟨m0,w0⟩,turn⟩:=cw;have T:=B.T;have ok':=B.ok;have nfp:=B.nfp
 let X':Cx:=Zq X (Z8 X own ix) scope cl C (D::fp) s3 H2
 have fp':∀ {H':Hp}{pl:List (Addr × Obj)},(∀ p∈pl,p.1=D)->(∀ b∈fp,H' b=none)->∀ b∈fp,Ve X' pl H' b:=fun {H' pl} hp hn b hb=>
  ⟨hn b hb,(ok'.exf b (Ot _ hb)).1,ok'.exfs b (Ot _ hb), .inl (Ot _ hb),(ok'.exf b (Ot _ hb)).2,fun p hp' z=>nfp b hb (z ▸ hp p (by
   have q:p∈([]:List (Addr × Obj))++ pl:=hp';simpa using q))⟩
 have dX:D≠X'.env.locals:=(ok'.exf D O5).1;have dF:D ∉ X'.fs:=ok'.exfs D O5;refine TJ (fun n s'=> ∃ i ys its H',Inv X' [] (YV own.length ix U) H' s'/\tn i s'.heap/\(∀ b∈fp,H' b=none)/\H' D=none/\s'.heap.PlainList D (List.toArray its)/\Vals ys its/\W i n ys H') ?_ m0
  ⟨0, [], [],H2,I4,st4,fun b hb=>(B.f2 b hb).1,B.fD.1,lD, .nil,w0⟩
 rintro n s5 ⟨i,ys,its,H5,I5,st5,fr5,d5,⟨nn,l5⟩,v5,w5⟩;obtain ⟨hz,hcase⟩:=turn i n ys H5 w5
 let oD:Obj:={cls:= .type "list",data:= .seq its.toArray nn}
 have onlyD:∀ p∈ [((D,oD):Addr × Obj)],p.1=D:=fun p hp=>by
  have e:p=(D,oD):=by simpa using hp
  rw [e]
 have I5':Inv X' [(D,oD)] (YV own.length ix U) H5 s5:=I5.pins_of fun p hp=>by
  have e:p=(D,oD):=by simpa using hp
  subst e;exact ⟨l5,d5,dX,dF,fun v z=>nomatch z⟩
 rcases hcase with ⟨stop,qn⟩ | ⟨go,step⟩
 .refine thn (T.done X' rfl rfl rfl hc i _ s5 _ H5 _ I5' (fp' onlyD fr5) st5 stop) fun r s6 ⟨hr,I6⟩=>?_
  subst hr;obtain ⟨z1,z2,z3,nD⟩:=B.stop I6 hz v5 rfl;exact fin s6 H5 ys z1 z2 z3 (qn D nD)
 .refine thn (T.item X' rfl rfl rfl hc i _ s5 _ H5 _ I5' (fp' onlyD fr5) st5 go) fun r s6 ⟨u,hr,h6⟩=>?_
  subst hr;refine thn h6 fun _ s7 ⟨x,H7,I7,r7,y7,st7,fr7⟩=>?_;have I7':=I7.pinned (fp' onlyD fr7) (T.obj _ _ st7);refine thn (hg cl C (D::fp) s3 H2 _ s7 _ H7 x u _ I7' r7 (hgk _ _ _ _ (step x H7 y7))) fun _ s8 ⟨σ8,H8,I8,q8,l8,k8⟩=>?_;refine thn (hct cl C (D::fp) s3 H2 _ s8 σ8 H8 _ I8 q8) fun cb s8' ⟨H8',I8',q8'⟩=>?_
  have pinNe:∀ p∈X'.pn++ Z1 fp s7.heap,p.1≠D:=fun p hp=>by
   have q:p∈([]:List (Addr × Obj))++ Z1 fp s7.heap:=hp;exact nfp _ (Jx (by simpa using q)).1
  have weak:∀ {H9:Hp}{s9:Shared},Inv X' (Z1 fp s7.heap) σ8 H9 s9->Inv X' [] (YV own.length ix U) H9 s9:=fun {H9 s9} I10=>by
   refine Inv.weak (I10.pins_of (pins':= []) fun p hp=>nomatch hp) (by rw [l8]) fun j v hj=>?_
   by_cases hlt:j < own.length
   .unfold YV at hj
    rw [List.getElem?_append_left (by simpa using hlt),List.getElem?_replicate,if_pos hlt] at hj;cases hj
   .have e:σ8[j]?=(YV own.length ix U)[j]?:=by
     have q:=congrArg (fun l:List (Option V)=>l[j - own.length]?) k8;simp only [List.getElem?_drop] at q
     rwa [Nat.add_sub_cancel' (Nat.le_of_not_lt hlt)] at q
    rw [e];exact hj
  have cut:∀ {H9:Hp}{s9:Shared},Inv X' ((D,oD)::Z1 fp s7.heap) σ8 H9 s9->Inv X' (Z1 fp s7.heap) σ8 H9 s9:=fun {H9 s9} I9=>I9.pins_of fun p hp=>I9.pin p (Oz _ (Ot _ hp))
  cases cb with
  | false=>
   rw [if_neg (by simp)] at q8';rw [if_neg (by simp)];obtain ⟨m',hm',w9⟩:=q8';obtain ⟨gD,nD,_⟩:=I8'.pin (D,oD) (by simp);have I10:=cut I8';refine ⟨m',hm',i + 1,ys,its,H8',weak I10,?_,?_,nD,⟨nn,gD⟩,v5,w9⟩
   .exact T.keep _ _ _ st7 fun b hb o e=>(I10.pin (b,o) (Oz _ (YT hb e))).1
   .intro b hb
    obtain ⟨o,e,d⟩:=T.obj _ _ st7 b hb;exact (I10.pin (b,o) (Oz _ (YT hb e))).2.1
  | true=>
   rw [if_pos rfl] at q8';rw [if_pos rfl];refine thn (he cl C (D::fp) s3 H2 _ s8' σ8 H8' _ I8' q8') fun yv s9 ⟨y,H9,I9,r9,m',hm',w9⟩=>?_;obtain ⟨gD,nD,_⟩:=I9.pin (D,oD) (by simp);have hlen:its.length=ys.length:=v5.length.symm;refine wpAny_list_append_plain (l:=D) (items:=its.toArray) ⟨nn,gD⟩ (fun h' hl' hs'=>?_) (by rw [Ov,hlen];exact PF hz);have kp:∀ b o,b≠D->s9.heap.get? b=some o->h'.get? b=some o:=fun b o hb q=>(hs'.2 b hb).trans q;have I10:Inv X' (Z1 fp s7.heap) σ8 H9 {s9 with heap:=h',toks:=s9.toks}:=(cut I9).turned (it:=D) kp nD dX (.inl O5) (ok'.exf D O5).2 pinNe;refine ⟨m',hm',i + 1,ys++ [y],its++ [yv],H9,weak I10,?_,?_,nD,?_,v5.append (.cons r9 .nil),w9⟩
   .exact T.keep _ _ _ st7 fun b hb o e=>(I10.pin (b,o) (Oz _ (YT hb e))).1
   .intro b hb
    obtain ⟨o,e,d⟩:=T.obj _ _ st7 b hb;exact (I10.pin (b,o) (Oz _ (YT hb e))).2.1
   .have e:(its++ [yv]).toArray=its.toArray.push yv:=by simp
    rw [e];exact hl'
end
abbrev two(elt tg iter tg2 iter2:Expr)(scope:Scope)(pos:Pos):Expr:= .ListComp elt [⟨tg,iter, [],0⟩,⟨tg2,iter2, [],0⟩] scope pos
section
theorem MB:compTurn (two elt tg iter tg2 iter2 scope pos) 0 it acc env=(standAt iter.pos >>=fun _=>pyNext it >>=fun r=>match r with
  | none=>pure (.done .next)
  | some v=>letOwnedTupleGo tg it v >>=fun _=>assign tg env v >>=fun _=>eval iter2 env >>=fun x=>standAt iter2.pos >>=fun _=>foldedSetIterable iter2 env x >>=fun x=>holding [x] (pyIter x) >>=fun j=>
    runOwn (.compStart (two elt tg iter tg2 iter2 scope pos) 1 j acc env) env >>=fun _=>again (.compLoop (two elt tg iter tg2 iter2 scope pos) 0 it acc env)):=by rfl
theorem ML:compTurn (two elt tg iter tg2 iter2 scope pos) 1 it acc env=(standAt iter2.pos >>=fun _=>pyNext it >>=fun r=>match r with
  | none=>pure (.done .next)
  | some v=>letOwnedTupleGo tg2 it v >>=fun _=>assign tg2 env v >>=fun _=>(eval elt env >>=fun x=>call (.builtin "list.append") [acc,x] >>=fun _=>pure ()) >>=fun _=>
    again (.compLoop (two elt tg iter tg2 iter2 scope pos) 1 it acc env)):=by rfl
theorem Dy(I:Nat->Shared->Prop)(turn:∀ n s,I n s->wpAny (model prog w) A (pyNext it) (fun r s1=>match r with
   | none=>R (.ok .next) s1
   | some v=>wpAny (model prog w) A (letOwnedTupleGo tg2 it v) (fun _ s2=>wpAny (model prog w) A (assign tg2 env v) (fun _ s3=>wpAny (model prog w) A (eval elt env) (fun x s4=>
     wpAny (model prog w) A (call (.builtin "list.append") [acc,x]) (fun _ s5=> ∃ m,m < n/\I m s5) (fun _ _=>False) s4) (fun _ _=>False) s3) (fun _ _=>False) s2) (fun _ _=>False) s1) (fun _ _=>False) s)(n:Nat)(h:I n s):codeAny (model prog w) A (.compLoop (two elt tg iter tg2 iter2 scope pos) 1 it acc env) R s:=by
 refine codeAny_loop rfl I (fun n s hI=>wpAny_noted (m:=compTurn (two elt tg iter tg2 iter2 scope pos) 1 it acc env) ?_) n h;rw [ML];refine wpAny_bind (wpAny_standAt (wpAny_bind (wpAny_mono (turn n s hI) (fun r s1 h1=>?_) fun _ _ z=>z.elim)))
 cases r with
 | none=>exact wpAny_pure h1
 | some v=>
  exact wpAny_bind (wpAny_mono h1 (fun _ s2 h2=>wpAny_bind (wpAny_mono h2 (fun _ s3 h3=>wpAny_bind (wpAny_bind (wpAny_mono h3 (fun x s4 h4=>wpAny_bind (wpAny_mono h4
   (fun _ s5 h5=>wpAny_pure (wpAny_pure ⟨rfl,h5⟩)) fun _ _ z=>z.elim)) fun _ _ z=>z.elim))) fun _ _ z=>z.elim)) fun _ _ z=>z.elim)
theorem RB(h0:codeAny (model prog w) A (.compLoop (two elt tg iter tg2 iter2 scope pos) 1 it acc env) R s)(h:wpAny (model prog w) A (pyIter it) (fun j s'=>codeAny (model prog w) A (.compLoop (two elt tg iter tg2 iter2 scope pos) 1 j acc env) R s') (fun _ _=>False) s):
  codeAny (model prog w) A (.compStart (two elt tg iter tg2 iter2 scope pos) 1 it acc env) R s:=by
 refine codeAny_of_tree (wpAny_notedAt (m:=compStart (two elt tg iter tg2 iter2 scope pos) 1 it acc env) (pos:=theWindowsPlace) ?_);simp only [compStart];refine wpAny_bind (m:=ask) (wpAny_askSetting ?_)
 split
 .exact wpAny_bind (wpAny_pure (wpAny_pure ⟨rfl,h0⟩))
 .exact wpAny_bind (wpAny_rule (wpAny_bind (wpAny_standAt (wpAny_bind (wpAny_mono h (fun j s' h'=>wpAny_pure ⟨rfl,h'⟩) fun _ _ z=>z.elim)))))
theorem B5(I:Nat->Shared->Prop)(turn:∀ n s,I n s->wpAny (model prog w) A (pyNext it) (fun r s1=>match r with
   | none=>R (.ok .next) s1
   | some v=>wpAny (model prog w) A (letOwnedTupleGo tg it v) (fun _ s2=>wpAny (model prog w) A (assign tg env v) (fun _ s3=>wpAny (model prog w) A (eval iter2 env) (fun x s4=>
     wpAny (model prog w) A (pyIter x) (fun j s5=>codeAny (model prog w) (A.mark none) (.compStart (two elt tg iter tg2 iter2 scope pos) 1 j acc env) (fun r s6=>match r with | .ok _=> ∃ m,m < n/\I m s6 | .error _=>False) s5) (fun _ _=>False) s4) (fun _ _=>False) s3) (fun _ _=>False) s2) (fun _ _=>False) s1) (fun _ _=>False) s)(hs:∀ x,foldedSetIterable iter2 env x=pure x)(n:Nat)(h:I n s):codeAny (model prog w) A (.compLoop (two elt tg iter tg2 iter2 scope pos) 0 it acc env) R s:=by
 refine codeAny_loop rfl I (fun n s hI=>wpAny_noted (m:=compTurn (two elt tg iter tg2 iter2 scope pos) 0 it acc env) ?_) n h;rw [MB];refine wpAny_bind (wpAny_standAt (wpAny_bind (wpAny_mono (turn n s hI) (fun r s1 h1=>?_) fun _ _ z=>z.elim)))
 cases r with
 | none=>exact wpAny_pure h1
 | some v=>
  refine wpAny_bind (wpAny_mono h1 (fun _ s2 h2=>wpAny_bind (wpAny_mono h2 (fun _ s3 h3=>wpAny_bind (wpAny_mono h3 (fun x s4 h4=>wpAny_bind (wpAny_standAt ?_)) fun _ _ z=>z.elim)) fun _ _ z=>z.elim)) fun _ _ z=>z.elim);rw [hs x];refine wpAny_bind (wpAny_pure (wpAny_bind (wpAny_holding (wpAny_mono h4 (fun j s5 h5=>wpAny_bind (wpAny_runOwn (codeAny_mono h5 fun r s6 h6=>?_))) fun _ _ z=>z.elim))))
  cases r with
  | error e=>exact h6.elim
  | ok f=>exact wpAny_pure ⟨rfl,h6⟩
end
def In2(wi2:TI)(te:TE)(W:Nat->Nat->List V->Hp->Prop)(i m:Nat)(ys:List V):St->Hp->Prop:=fun U H=>wi2 U H fun J2 H3=> ∃ W2:Nat->Nat->List V->Hp->Prop,(∃ m2,W2 0 m2 ys H3)/\∀ j m2 zs H4,W2 j m2 zs H4->
 zs.length < sizeLine/\((J2.stop j H4/\∃ m',m' < m/\W (i + 1) m' zs H4) \/
  (J2.go j H4/\∀ y H5,J2.yld j H4 y H5->te (U.set 1 (some y)) H5 fun v H6=> ∃ m2',m2' < m2/\W2 (j + 1) m2' (zs++ [v]) H6))
def Mc(J:It)(wi2:TI)(te:TE)(s0:St)(Q:VK)(H1:Hp):Prop:= ∃ W:Nat->Nat->List V->Hp->Prop,(∃ m,W 0 m [] H1)/\∀ i m ys H,W i m ys H->
 ys.length < sizeLine/\((J.stop i H/\∀ p,H p=none->Q (.ref p) (upd H p (.lst ys))) \/
  (J.go i H/\∀ x H',J.yld i H x H'->In2 wi2 te W i m ys (s0.set 0 (some x)) H'))
def BW(ix:List Nat)(wi wi2:TI)(te:TE):TE:=fun U H Q=>wi U H fun J H1=>Mc J wi2 te (YV 2 ix U) Q H1
theorem Ip(h:YZ i x U H Q):YZ i x U H fun σ2 H2=>Q σ2 H2/\σ2=U.set i (some x):=⟨h,rfl⟩
section
theorem CB.loop2(B:CB X [x1,x2] ix scope pins U (.Name x1 p1) cl D C fp it tn J H2 s3)(hc:X.calm=true)(hg:∀ cl C fp s H,PG (Zq X (Z8 X [x1,x2] ix) scope cl C fp s H) (.Name x1 p1) (YZ 0))(hi2:∀ cl C fp s H,PI (Zq X (Z8 X [x1,x2] ix) scope cl C fp s H) (.Name x2 p2) iter2 wi2)(hg2:∀ cl C fp s H,PG (Zq X (Z8 X [x1,x2] ix) scope cl C fp s H) (.Name x2 p2) (YZ 1))(he:∀ cl C fp s H,PE (Zq X (Z8 X [x1,x2] ix) scope cl C fp s H) elt te)(hs2:∀ env x,foldedSetIterable iter2 env x=pure x)(cw:Mc J wi2 te (YV 2 ix U) Q H2)(fin:∀ s6 H5 ys,Inv X pins U (upd H5 D (.lst ys)) s6->Ve X pins (upd H5 D (.lst ys)) C->(∃ m,s6.heap.Ns C m)->Q (.ref D) (upd H5 D (.lst ys))->Rs (.ok .next) s6)(I4:Inv (Zq X (Z8 X [x1,x2] ix) scope cl C (D::fp) s3 H2) [] (YV ([x1,x2]:List Str).length ix U) H2 s5)(st4:tn 0 s5.heap)(lD:s5.heap.PlainList D (List.toArray [])):
  codeAny (model X.prog X.w) X.A (.compLoop (two elt (.Name x1 p1) iter (.Name x2 p2) iter2 scope pos) 0 (.ref it) (.ref D) (compEnvC scope cl C X.env)) Rs s5:=by
 have hgk:GK ([x1,x2]:List Str).length (YZ 0):=YO (i:=0) (by simp);obtain ⟨W,⟨m0,w0⟩,turn⟩:=cw;have T:=B.T;have ok':=B.ok;have nfp:=B.nfp
 let X':Cx:=Zq X (Z8 X [x1,x2] ix) scope cl C (D::fp) s3 H2
 have fp':∀ {H':Hp}{pl:List (Addr × Obj)},(∀ p∈pl,p.1=D)->(∀ b∈fp,H' b=none)->∀ b∈fp,Ve X' pl H' b:=fun {H' pl} hp hn b hb=>
  ⟨hn b hb,(ok'.exf b (Ot _ hb)).1,ok'.exfs b (Ot _ hb), .inl (Ot _ hb),(ok'.exf b (Ot _ hb)).2,fun p hp' z=>nfp b hb (z ▸ hp p (by
   have q:p∈([]:List (Addr × Obj))++ pl:=hp';simpa using q))⟩
 have dX:D≠X'.env.locals:=(ok'.exf D O5).1;have dF:D ∉ X'.fs:=ok'.exfs D O5;refine B5 (fun n s'=> ∃ i ys its H',Inv X' [] (YV ([x1,x2]:List Str).length ix U) H' s'/\tn i s'.heap/\(∀ b∈fp,H' b=none)/\H' D=none/\s'.heap.PlainList D (List.toArray its)/\Vals ys its/\W i n ys H') ?_ (hs2 _) m0
  ⟨0, [], [],H2,I4,st4,fun b hb=>(B.f2 b hb).1,B.fD.1,lD, .nil,w0⟩
 rintro n s5 ⟨i,ys,its,H5,I5,st5,fr5,d5,⟨nn,l5⟩,v5,w5⟩;obtain ⟨hz,hcase⟩:=turn i n ys H5 w5
 let oD:Obj:={cls:= .type "list",data:= .seq its.toArray nn}
 have onlyD:∀ p∈ [((D,oD):Addr × Obj)],p.1=D:=fun p hp=>by
  have e:p=(D,oD):=by simpa using hp
  rw [e]
 have I5':Inv X' [(D,oD)] (YV ([x1,x2]:List Str).length ix U) H5 s5:=I5.pins_of fun p hp=>by
  have e:p=(D,oD):=by simpa using hp
  subst e;exact ⟨l5,d5,dX,dF,fun v z=>nomatch z⟩
 rcases hcase with ⟨stop,qn⟩ | ⟨go,step⟩
 .refine thn (T.done X' rfl rfl rfl hc i _ s5 _ H5 _ I5' (fp' onlyD fr5) st5 stop) fun r s6 ⟨hr,I6⟩=>?_
  subst hr;obtain ⟨z1,z2,z3,nD⟩:=B.stop I6 hz v5 rfl;exact fin s6 H5 ys z1 z2 z3 (qn D nD)
 .refine thn (T.item X' rfl rfl rfl hc i _ s5 _ H5 _ I5' (fp' onlyD fr5) st5 go) fun r s6 ⟨u,hr,h6⟩=>?_
  subst hr;refine thn h6 fun _ s7 ⟨x,H7,I7,r7,y7,st7,fr7⟩=>?_;have I7':=I7.pinned (fp' onlyD fr7) (T.obj _ _ st7);refine thn (hg cl C (D::fp) s3 H2 _ s7 _ H7 x u _ I7' r7 (hgk _ _ _ _ (Ip (Q:=In2 wi2 te W i n ys) (step x H7 y7)))) fun _ s8 ⟨σ8,H8,I8,q8,l8,k8⟩=>?_;have e8:σ8=(YV ([x1,x2]:List Str).length ix U).set 0 (some x):=by exact q8.2
  replace q8:=q8.1;refine thn (hi2 cl C (D::fp) s3 H2 _ s8 σ8 H8 _ I8 q8) fun v9 s9 h9=>thn h9 fun jv s10 h10=>?_;obtain ⟨it2,fp2,tn2,J2,H10,ej,I10,T2,st10,f10,W2,⟨m20,w20⟩,turn2⟩:=h10;subst ej;rw [Around.mark_none];obtain ⟨gD0,nD0,_⟩:=I10.pin (D,oD) (by simp);have n2D:∀ b∈fp2,b≠D:=fun b hb z=>(f10 b hb).2.2.2.2.2 (D,oD) (by simp) z.symm
  have cut:∀ {H9:Hp}{σ9:St}{s9:Shared}{more:List (Addr × Obj)},Inv X' (([(D,oD)]++ Z1 fp s7.heap)++ more) σ9 H9 s9->Inv X' (Z1 fp s7.heap) σ9 H9 s9:=fun {H9 σ9 s9 more} I9=>
   I9.pins_of fun p hp=>I9.pin p (Oz _ (List.mem_append_left _ (Oz _ hp)))
  have pinNe:∀ p∈X'.pn++ Z1 fp s7.heap,p.1≠D:=fun p hp=>by
   have q:p∈([]:List (Addr × Obj))++ Z1 fp s7.heap:=hp;exact nfp _ (Jx (by simpa using q)).1
  have fpP:∀ {H9:Hp}{o9:Obj},(∀ b∈fp2,H9 b=none)->∀ b∈fp2,Ve X' ([(D,o9)]++ Z1 fp s7.heap) H9 b:=fun {H9 o9} hn b hb=>by
   obtain ⟨_,k1,k2,k3,k4,k5⟩:=f10 b hb;refine ⟨hn b hb,k1,k2,k3,k4,fun p hp=>?_⟩
   have hp':p=(D,o9) \/ p∈Z1 fp s7.heap:=by
    have q:p∈([]:List (Addr × Obj))++ ([(D,o9)]++ Z1 fp s7.heap):=hp;simpa using q
   rcases hp' with rfl | hp'
   .exact (n2D b hb).symm
   .exact k5 p (by
     show p∈([]:List (Addr × Obj))++ ([(D,oD)]++ Z1 fp s7.heap);simp [hp'])
  let R2:Result->Shared->Prop:=fun r s6=>match r with
   | .ok _=> ∃ m,m < n/\∃ i ys its H',Inv X' [] (YV ([x1,x2]:List Str).length ix U) H' s6/\tn i s6.heap/\(∀ b∈fp,H' b=none)/\H' D=none/\s6.heap.PlainList D (List.toArray its)/\Vals ys its/\W i m ys H'
   | .error _=>False
  have inner:∀ (sA:Shared),(Inv X' (Z1 fp s7.heap) σ8 H10 sA/\tn2 0 sA.heap/\sA.heap.PlainList D (List.toArray its))->codeAny (model X.prog X.w) X.A (.compLoop (two elt (.Name x1 p1) iter (.Name x2 p2) iter2 scope pos) 1 (.ref it2) (.ref D) (compEnvC scope cl C X.env)) R2 sA:=fun sA hA=>by
   refine Dy (fun k s'=> ∃ j zs us H',Inv X' (Z1 fp s7.heap) σ8 H' s'/\tn2 j s'.heap/\(∀ b∈fp2,H' b=none)/\H' D=none/\s'.heap.PlainList D (List.toArray us)/\Vals zs us/\W2 j k zs H') ?_ m20
    ⟨0,ys,its,H10,hA.1,hA.2.1,fun b hb=>(f10 b hb).1,nD0,hA.2.2,v5,w20⟩
   rintro k sB ⟨j,zs,us,HB,IB,stB,frB,dB,⟨nB,lB⟩,vB,wB⟩;obtain ⟨hzB,hcB⟩:=turn2 j k zs HB wB
   let oB:Obj:={cls:= .type "list",data:= .seq us.toArray nB}
   have IB':Inv X' ([(D,oB)]++ Z1 fp s7.heap) σ8 HB sB:=IB.pins_of fun p hp=>by
    rcases O2.mp hp with here | there
    .have e:p=(D,oB):=by simpa using here
     subst e;exact ⟨lB,dB,dX,dF,fun v z=>nomatch z⟩
    .exact IB.pin p (Oz _ there)
   rcases hcB with ⟨stop2,m',hm',wO⟩ | ⟨go2,step2⟩
   .refine thn (T2.done X' rfl rfl rfl hc j _ sB _ HB _ IB' (fpP frB) stB stop2) fun r sC ⟨hr,IC⟩=>?_
    subst hr
    obtain ⟨gC,nC,_⟩:=IC.pin (D,oB) (by
     show (D,oB)∈([]:List (Addr × Obj))++ ([(D,oB)]++ Z1 fp s7.heap);simp)
    have IC':Inv X' (Z1 fp s7.heap) σ8 HB sC:=IC.pins_of fun p hp=>IC.pin p (Oz _ (Oz _ hp));refine ⟨m',hm',i + 1,zs,us,HB,?_,?_,?_,nC,⟨nB,gC⟩,vB,wO⟩
    .refine Inv.weak (IC'.pins_of (pins':= []) fun p hp=>nomatch hp) (by rw [l8]) fun j v hj=>?_
     by_cases hlt:j < ([x1,x2]:List Str).length
     .unfold YV at hj
      rw [List.getElem?_append_left (by simpa using hlt),List.getElem?_replicate,if_pos hlt] at hj;cases hj
     .have e:σ8[j]?=(YV ([x1,x2]:List Str).length ix U)[j]?:=by
       have q:=congrArg (fun l:List (Option V)=>l[j - ([x1,x2]:List Str).length]?) k8;simp only [List.getElem?_drop] at q
       rwa [Nat.add_sub_cancel' (Nat.le_of_not_lt hlt)] at q
      rw [e];exact hj
    .exact T.keep _ _ _ st7 fun b hb o e=>(IC'.pin (b,o) (Oz _ (YT hb e))).1
    .intro b hb
     obtain ⟨o,e,d⟩:=T.obj _ _ st7 b hb;exact (IC'.pin (b,o) (Oz _ (YT hb e))).2.1
   .refine thn (T2.item X' rfl rfl rfl hc j _ sB _ HB _ IB' (fpP frB) stB go2) fun r sC ⟨u2,hr,hC6⟩=>?_
    subst hr;refine thn hC6 fun _ sD ⟨y2,HD,ID,rD,yD,stD,frD⟩=>?_;have ID':=ID.pinned (fpP frD) (T2.obj _ _ stD);refine thn (hg2 cl C (D::fp) s3 H2 _ sD _ HD y2 u2 _ ID' rD (Ip (Q:=fun U H=>te U H fun v H6=> ∃ m2',m2' < k/\W2 (j + 1) m2' (zs++ [v]) H6) (step2 y2 HD yD))) fun _ sE ⟨σE,HE,IE,qE⟩=>?_;have eE:σE=σ8.set 1 (some y2):=by exact qE.2
    replace qE:=qE.1;refine thn (he cl C (D::fp) s3 H2 _ sE σE HE _ IE qE) fun yv sF ⟨yy,HF,IF,rF,m2',hm2',wF⟩=>?_
    obtain ⟨gD,nD,_⟩:=IF.pin (D,oB) (by
     show (D,oB)∈([]:List (Addr × Obj))++ (([(D,oB)]++ Z1 fp s7.heap)++ Z1 fp2 sD.heap);simp)
    have hlen:us.length=zs.length:=vB.length.symm;refine wpAny_list_append_plain (l:=D) (items:=us.toArray) ⟨nB,gD⟩ (fun h' hl' hs'=>?_) (by rw [Ov,hlen];exact PF hzB);have kp:∀ b o,b≠D->sF.heap.get? b=some o->h'.get? b=some o:=fun b o hb q=>(hs'.2 b hb).trans q;have IF':Inv X' (Z1 fp s7.heap) σE HF sF:=IF.pins_of fun p hp=>IF.pin p (Oz _ (List.mem_append_left _ (Oz _ hp)));have IG:Inv X' (Z1 fp s7.heap) σE HF {sF with heap:=h',toks:=sF.toks}:=IF'.turned (it:=D) kp nD dX (.inl O5) (ok'.exf D O5).2 pinNe
    have at2:∀ b∈fp2,∀ o,sD.heap.get? b=some o->sF.heap.get? b=some o/\HF b=none:=fun b hb o q=>by
     have z:=IF.pin (b,o) (Oz _ (Oz _ (YT hb q)));exact ⟨z.1,z.2.1⟩
    refine ⟨m2',hm2',j + 1,zs++ [yy],us++ [yv],HF,?_,?_,?_,nD,?_,vB.append (.cons rF .nil),wF⟩
    .refine Inv.weak IG (by rw [eE,List.length_set]) fun q v hq=>?_
     rw [eE]
     have ne1:q≠1:=fun z=>by
      subst z;rw [e8] at hq;simp [YV,List.getElem?_append] at hq
     rw [List.getElem?_set_ne (Ne.symm ne1)];exact hq
    .exact T2.keep _ _ _ stD fun b hb o q=>kp b o (n2D b hb) (at2 b hb o q).1
    .intro b hb
     obtain ⟨o,q,_⟩:=T2.obj _ _ stD b hb;exact (at2 b hb o q).2
    .have e:(us++ [yv]).toArray=us.toArray.push yv:=by simp
     rw [e];exact hl'
  have st0:Inv X' (Z1 fp s7.heap) σ8 H10 s10/\tn2 0 s10.heap/\s10.heap.PlainList D (List.toArray its):=⟨I10.pins_of fun p hp=>I10.pin p (Oz _ (Oz _ hp)),st10,⟨nn,gD0⟩⟩;exact RB (inner s10 st0) (T2.self _ 0 _ _ _ st10 (inner s10 st0))
theorem Y4(own:List Str)(ix:List Nat)(hi:PI X tg iter wi)(hgk:GK own.length g)(hg:∀ cl C fp s H,PG (Zq X (Z8 X own ix) scope cl C fp s H) tg g)(he:∀ cl C fp s H,PE (Zq X (Z8 X own ix) scope cl C fp s H) elt te)(hc:X.calm=true:=by rfl)(hkind:scope.kind= .function:=by rfl)(hok:V1 scope X.env.scope.names X.N ix=true:=by rfl)(hs:∀ x,foldedSetIterable iter X.env x=pure x:=by intro _;rfl):
  PE X (.ListComp elt [⟨tg,iter, [],0⟩] scope pos) (Ic own.length ix wi g te):=by
 intro pins s U H Q I h;rw [eval_ListComp];exact JO own ix hi hkind hok hs I h fun cl D C fp it tn J H2 s3 s5 B cw I4 st4 lD=>B.loop1 hc hgk hg he cw (fun s6 H5 ys z1 z2 z3 q=>MR z1 z2 z3 q) I4 st4 lD
theorem Mv(own:List Str)(ix:List Nat)(hN:X.N.Nodup)(hi0:X.N[i0]?=some x0)(hx0:Loc X.env.scope x0)(hi:PI X tg iter wi)(hgk:GK own.length g)(hg:∀ cl C fp s H,PG (Zq X (Z8 X own ix) scope cl C fp s H) tg g)(he:∀ cl C fp s H,PE (Zq X (Z8 X own ix) scope cl C fp s H) elt te)(hc:X.calm=true:=by rfl)(hkind:scope.kind= .function:=by rfl)(hok:V1 scope X.env.scope.names X.N ix=true:=by rfl)(hsw:swapsWith (.ListComp elt [⟨tg,iter, [],0⟩] scope pos) (some (.Name x0 py)) spos.line X.env=pure true:=by rfl)(hf:X.fn x0=true \/ X.env.scope.names.lookup x0=some .local:=by first | exact .inl rfl | exact .inr rfl | assumption)(hs:∀ x,foldedSetIterable iter X.env x=pure x:=by intro _;rfl):
  PS X (.Assign [.Name x0 py] (.ListComp elt [⟨tg,iter, [],0⟩] scope pos) spos) (Tg (Ic own.length ix wi g te) (YZ i0)):=by
 intro pins s U H D0 I h;exact Gs hsw (JO own ix hi hkind hok hs I h fun cl D C fp it tn J H2 s3 s5 B cw I4 st4 lD=>B.loop1 hc hgk hg he cw (fun s6 H5 ys z1 z2 z3 q=>MQ hN hi0 hx0 hf z1 z2 z3 q) I4 st4 lD)
theorem FI(own:List Str)(ix:List Nat)(hi:PI X tg iter wi)(hgk:GK own.length g)(hg:∀ cl C fp s H,PG (Zq X (Z8 X own ix) scope cl C fp s H) tg g)(hct:∀ cl C fp s H,PT (Zq X (Z8 X own ix) scope cl C fp s H) ct tc)(he:∀ cl C fp s H,PE (Zq X (Z8 X own ix) scope cl C fp s H) elt te)(hc:X.calm=true:=by rfl)(hkind:scope.kind= .function:=by rfl)(hok:V1 scope X.env.scope.names X.N ix=true:=by rfl)(hs:∀ x,foldedSetIterable iter X.env x=pure x:=by intro _;rfl):
  PE X (.ListComp elt [⟨tg,iter, [ct],0⟩] scope pos) (BV own.length ix wi g tc te):=by
 intro pins s U H Q I h;rw [eval_ListComp];exact JO own ix hi hkind hok hs I h fun cl D C fp it tn J H2 s3 s5 B cw I4 st4 lD=>B.loopI hc hgk hg hct he cw (fun s6 H5 ys z1 z2 z3 q=>MR z1 z2 z3 q) I4 st4 lD
theorem Xj(own:List Str)(ix:List Nat)(hN:X.N.Nodup)(hi0:X.N[i0]?=some x0)(hx0:Loc X.env.scope x0)(hi:PI X tg iter wi)(hgk:GK own.length g)(hg:∀ cl C fp s H,PG (Zq X (Z8 X own ix) scope cl C fp s H) tg g)(hct:∀ cl C fp s H,PT (Zq X (Z8 X own ix) scope cl C fp s H) ct tc)(he:∀ cl C fp s H,PE (Zq X (Z8 X own ix) scope cl C fp s H) elt te)(hc:X.calm=true:=by rfl)(hkind:scope.kind= .function:=by rfl)(hok:V1 scope X.env.scope.names X.N ix=true:=by rfl)(hsw:swapsWith (.ListComp elt [⟨tg,iter, [ct],0⟩] scope pos) (some (.Name x0 py)) spos.line X.env=pure true:=by rfl)(hf:X.fn x0=true \/ X.env.scope.names.lookup x0=some .local:=by first | exact .inl rfl | exact .inr rfl | assumption)(hs:∀ x,foldedSetIterable iter X.env x=pure x:=by intro _;rfl):
  PS X (.Assign [.Name x0 py] (.ListComp elt [⟨tg,iter, [ct],0⟩] scope pos) spos) (Tg (BV own.length ix wi g tc te) (YZ i0)):=by
 intro pins s U H D0 I h;exact Gs hsw (JO own ix hi hkind hok hs I h fun cl D C fp it tn J H2 s3 s5 B cw I4 st4 lD=>B.loopI hc hgk hg hct he cw (fun s6 H5 ys z1 z2 z3 q=>MQ hN hi0 hx0 hf z1 z2 z3 q) I4 st4 lD)
theorem FJ(ix:List Nat)(hi:PI X (.Name x1 p1) iter wi)(hg:∀ cl C fp s H,PG (Zq X (Z8 X [x1,x2] ix) scope cl C fp s H) (.Name x1 p1) (YZ 0))(hi2:∀ cl C fp s H,PI (Zq X (Z8 X [x1,x2] ix) scope cl C fp s H) (.Name x2 p2) iter2 wi2)(hg2:∀ cl C fp s H,PG (Zq X (Z8 X [x1,x2] ix) scope cl C fp s H) (.Name x2 p2) (YZ 1))(he:∀ cl C fp s H,PE (Zq X (Z8 X [x1,x2] ix) scope cl C fp s H) elt te)(hc:X.calm=true:=by rfl)(hkind:scope.kind= .function:=by rfl)(hok:V1 scope X.env.scope.names X.N ix=true:=by rfl)(hs:∀ x,foldedSetIterable iter X.env x=pure x:=by intro _;rfl)(hs2:∀ env x,foldedSetIterable iter2 env x=pure x:=by intro _ _;rfl):
  PE X (.ListComp elt [⟨.Name x1 p1,iter, [],0⟩,⟨.Name x2 p2,iter2, [],0⟩] scope pos) (BW ix wi wi2 te):=by
 intro pins s U H Q I h;rw [eval_ListComp];exact JO [x1,x2] ix hi hkind hok hs I h fun cl D C fp it tn J H2 s3 s5 B cw I4 st4 lD=>B.loop2 hc hg hi2 hg2 he hs2 cw (fun s6 H5 ys z1 z2 z3 q=>MR z1 z2 z3 q) I4 st4 lD
theorem E8(ix:List Nat)(hN:X.N.Nodup)(hi0:X.N[i0]?=some x0)(hx0:Loc X.env.scope x0)(hi:PI X (.Name x1 p1) iter wi)(hg:∀ cl C fp s H,PG (Zq X (Z8 X [x1,x2] ix) scope cl C fp s H) (.Name x1 p1) (YZ 0))(hi2:∀ cl C fp s H,PI (Zq X (Z8 X [x1,x2] ix) scope cl C fp s H) (.Name x2 p2) iter2 wi2)(hg2:∀ cl C fp s H,PG (Zq X (Z8 X [x1,x2] ix) scope cl C fp s H) (.Name x2 p2) (YZ 1))(he:∀ cl C fp s H,PE (Zq X (Z8 X [x1,x2] ix) scope cl C fp s H) elt te)(hc:X.calm=true:=by rfl)(hkind:scope.kind= .function:=by rfl)(hok:V1 scope X.env.scope.names X.N ix=true:=by rfl)(hsw:swapsWith (.ListComp elt [⟨.Name x1 p1,iter, [],0⟩,⟨.Name x2 p2,iter2, [],0⟩] scope pos) (some (.Name x0 py)) spos.line X.env=pure true:=by rfl)(hf:X.fn x0=true \/ X.env.scope.names.lookup x0=some .local:=by first | exact .inl rfl | exact .inr rfl | assumption)(hs:∀ x,foldedSetIterable iter X.env x=pure x:=by intro _;rfl)(hs2:∀ env x,foldedSetIterable iter2 env x=pure x:=by intro _ _;rfl):
  PS X (.Assign [.Name x0 py] (.ListComp elt [⟨.Name x1 p1,iter, [],0⟩,⟨.Name x2 p2,iter2, [],0⟩] scope pos) spos) (Tg (BW ix wi wi2 te) (YZ i0)):=by
 intro pins s U H D0 I h;exact Gs hsw (JO [x1,x2] ix hi hkind hok hs I h fun cl D C fp it tn J H2 s3 s5 B cw I4 st4 lD=>B.loop2 hc hg hi2 hg2 he hs2 cw (fun s6 H5 ys z1 z2 z3 q=>MQ hN hi0 hx0 hf z1 z2 z3 q) I4 st4 lD)
end
theorem WL(n:Nat)(Pv:Nat->List V->Hp->Prop)(h0:Pv 0 [] H)(hlen:∀ i vs H,Pv i vs H->vs.length < sizeLine)(hgo:∀ i vs H,i < n->Pv i vs H->J.go i H)(hstop:∀ vs H,Pv n vs H->J.stop n H)(hs:∀ i vs H x H' (R:List V->Hp->Prop),i < n->Pv i vs H->J.yld i H x H'->(∀ zs H3,Pv (i + 1) zs H3->R zs H3)->wi2 (s0.set 0 (some x)) H' fun J2 H3=> ∃ W2:Nat->Nat->List V->Hp->Prop,(∃ m2,W2 0 m2 vs H3)/\∀ j m2 zs H4,W2 j m2 zs H4->
   zs.length < sizeLine/\((J2.stop j H4/\R zs H4) \/ (J2.go j H4/\∀ y H5,J2.yld j H4 y H5->te ((s0.set 0 (some x)).set 1 (some y)) H5 fun v H6=> ∃ m2',m2' < m2/\W2 (j + 1) m2' (zs++ [v]) H6)))(hd:∀ vs H p,Pv n vs H->H p=none->Q (.ref p) (upd H p (.lst vs))):Mc J wi2 te s0 Q H:=by
 refine ⟨fun i m vs H=>m=n - i/\i<=n/\Pv i vs H,⟨n,by simp,O7 _,h0⟩,fun i m vs H z=>?_⟩;obtain ⟨rfl,hi,p⟩:=z;refine ⟨hlen i vs H p,?_⟩;rcases Nat.lt_or_ge i n with hlt | hge
 .exact .inr ⟨hgo i vs H hlt p,fun x H' y=>hs i vs H x H' _ hlt p y fun zs H3 p3=>⟨n - (i + 1),by omega,rfl,hlt,p3⟩⟩
 .have e:i=n:=by omega
  subst e;exact .inl ⟨hstop vs H p,fun b hb=>hd vs H b p hb⟩
theorem RC{J2:It}{te:TE}{s1:St}{R:List V->Hp->Prop}(n:Nat)(Pv:Nat->List V->Hp->Prop)(h0:Pv 0 ys H3)(hlen:∀ j zs H,Pv j zs H->zs.length < sizeLine)(hgo:∀ j zs H,j < n->Pv j zs H->J2.go j H)(hstop:∀ zs H,Pv n zs H->J2.stop n H)(hs:∀ j zs H y H' (T:V->Hp->Prop),j < n->Pv j zs H->J2.yld j H y H'->(∀ v H6,Pv (j + 1) (zs++ [v]) H6->T v H6)->te (s1.set 1 (some y)) H' T)(hd:∀ zs H,Pv n zs H->R zs H):
  ∃ W2:Nat->Nat->List V->Hp->Prop,(∃ m2,W2 0 m2 ys H3)/\∀ j m2 zs H4,W2 j m2 zs H4->
   zs.length < sizeLine/\((J2.stop j H4/\R zs H4) \/ (J2.go j H4/\∀ y H5,J2.yld j H4 y H5->te (s1.set 1 (some y)) H5 fun v H6=> ∃ m2',m2' < m2/\W2 (j + 1) m2' (zs++ [v]) H6)):=by
 refine ⟨fun j m zs H=>m=n - j/\j<=n/\Pv j zs H,⟨n,by simp,O7 _,h0⟩,fun j m zs H z=>?_⟩;obtain ⟨rfl,hi,p⟩:=z;refine ⟨hlen j zs H p,?_⟩;rcases Nat.lt_or_ge j n with hlt | hge
 .exact .inr ⟨hgo j zs H hlt p,fun y H5 yl=>hs j zs H y H5 _ hlt p yl fun v H6 p6=>⟨n - (j + 1),by omega,rfl,hlt,p6⟩⟩
 .have e:j=n:=by omega
  subst e;exact .inl ⟨hstop zs H p,hd zs H p⟩
end L2
namespace L2
open PySem PySem.Spec PyProof.Rows
section
def KZ(K:W.Frag):List V->Hp->VK->Prop:=fun xs H Q=> ∃ x T t b,xs= [x, .ty T]/\UL K H x t/\W.kitOne K t (.type T)=some b/\Q (.bl b) H
theorem EU:VB X (.builtin "isinstance") (KZ X.K):=by
 intro pins s U H xs us Q I r h;obtain ⟨x,T,t,b,rfl,ty,e,q⟩:=h;obtain ⟨u,w',rfl,ru,rw'⟩:=vals2 r;cases rw';exact Ny I ru ty e fun tk=>⟨.bl b,H,I.tok _,rfl,q⟩
theorem WV:∀ {ys:List Str}{us:List Value},Vals (ys.map V.str) us->StrsAre us ys
 | [],_,r=>by cases r;exact .nil
 | y::ys,_,r=>by
  cases r with
  | cons h t=>
   obtain ⟨tk,e⟩:=h;subst e;exact .cons _ _ (WV t)
def rJoin(K:W.Frag):V->List V->Hp->VK->Prop:=fun x vs H Q=> ∃ z p ys,x= .str z/\vs= [.ref p]/\SqL K H p (ys.map V.str)/\(ys.map (·.length)).sum + ys.length * z.length<=16777216/\Q (.str (Txt.join z ys)) H
theorem Fi:MtR X "str.join" (rJoin X.K):=by
 intro pins s U H x vs v us Q I rx rv h;obtain ⟨z,p,ys,rfl,rfl,hq,hz,q⟩:=h;obtain ⟨t,rfl⟩:=rx;obtain ⟨u,rfl,ru⟩:=vals1 rv;cases ru;obtain ⟨its,r,pl,hl⟩:=I.list hq;exact join_list pl.isList (by simpa using WV r) hz fun t' k=>⟨.str _,H,I.tok _,⟨_,rfl⟩,q⟩
def Ka:V->List V->Hp->VK->Prop:=fun x vs H Q=> ∃ z y i rest,x= .str z/\vs= [.str y]/\Builtin.Str.occurrences z y 0 z.length 1=i::rest/\Q (.int (i:Nat)) H
theorem Ds:MtR X "str.index" Ka:=by
 intro pins s U H x vs v us Q I rx rv h;obtain ⟨z,y,i,rest,rfl,rfl,ho,q⟩:=h;obtain ⟨t,rfl⟩:=rx;obtain ⟨u,rfl,t',rfl⟩:=vals1 rv;exact SC.index ho ⟨.int _,H,I.tok _,⟨_,rfl⟩,q⟩
def OL:V->Option Int->Option Int->Hp->VK->Prop:=fun x lo hi H Q=> ∃ z,x= .str z/\z.length<=sizeLine/\Q (.str (Txt.slice z lo hi)) H
theorem Uk:SlR X OL:=by
 intro pins s U H x v vl vu lo hi sl Q I rx hs pl pu h;obtain ⟨z,rfl,hz,q⟩:=h;obtain ⟨t,rfl⟩:=rx;refine ⟨"str",_,F.slot_str_getitem.lookup,typeIs_str _ _ _,?_⟩
 have fin:∀ (l u:Option (Int × Tok)),l.map (·.1)=lo->u.map (·.1)=hi->s.heap.IsSlice sl l u none->wpAny (model X.prog X.w) X.A (getItem (.str z t) (.ref sl)) (EP X pins U Q) X.xe s:=fun l u el eu hsl=>by
  subst el;subst eu;exact wpAny_getItem_str_slice hsl rfl (post_val_or_str ⟨O6 (Txt.slice_le z (l.map (·.1)) (u.map (·.1))) hz,fun t' k=>⟨.str _,H,I.tok _,⟨_,rfl⟩,q⟩⟩)
 obtain ⟨o,h1,h2,h3⟩:=hs
 cases pl with
 | none=>
  cases pu with
  | none=>exact fin none none rfl rfl ⟨o,h1,h2,h3⟩
  | int j tj=>exact fin none (some (j,tj)) rfl rfl ⟨o,h1,h2,h3⟩
 | int i ti=>
  cases pu with
  | none=>exact fin (some (i,ti)) none rfl rfl ⟨o,h1,h2,h3⟩
  | int j tj=>exact fin (some (i,ti)) (some (j,tj)) rfl rfl ⟨o,h1,h2,h3⟩
theorem Wy:∀ {bs:List Bool}{us:List Value},Vals (bs.map V.bl) us->∀ (i:Nat) (v:Value),us[i]?=some v->∃ b,bs[i]?=some b/\v= .bool b
 | [],_,r,i,v,e=>by cases r;simp at e
 | b::bs,_,r,i,v,e=>by
  cases r with
  | cons h t=>
   cases i with
   | zero=>
    have e':some _=some v:=e;cases e';exact ⟨b,rfl,h⟩
   | succ j=>exact Wy t j v e
theorem all_range:∀ (bs:List Bool),((List.range bs.length).all fun i=>(bs[i]?).getD true)=bs.all id:=fun bs=>by
 have e:((List.range bs.length).map fun i=>(bs[i]?).getD true)=bs:=List.ext_getElem (by simp) fun i h1 h2=>by simp [h2]
 have z:=List.all_map (l:=List.range bs.length) (f:=fun i=>(bs[i]?).getD true) (p:=id);rw [e] at z;exact z.symm
theorem WP(hc:X.calm=true):VB X (.builtin "all") (fun xs H Q=> ∃ (p:Addr) (bs:List Bool),xs= [.ref p]/\SqL X.K H p (bs.map V.bl)/\Q (.bl (bs.all id)) H):=by
 intro pins s U H xs us Q I r h;obtain ⟨p,bs,rfl,hq,q⟩:=h;obtain ⟨u,rfl,ru⟩:=vals1 r;cases ru;obtain ⟨its,r',pl,hz⟩:=I.list hq
 have hp:p < s.heap.objs.size:=by
  obtain ⟨o,n,e,_⟩:=pl;exact Ow e
 have hlen:its.length=bs.length:=by
  have:=r'.length;rw [Oh] at this;exact this.symm
 refine call_all_walk (wpAny_pyIter_list pl.isList ?_);refine ⟨s.heap.objs.size,_,_,its.toArray.size,_,_,fun i=>(bs[i]?).getD true,rfl,Walks.list (A:=X.A.in1) (I.ok.hd hc) _ p (O9 hp) its.toArray,?_,?_,?_⟩
 .exact ⟨⟨_,O3 _ rfl,rfl,rfl⟩,pl.isList.push _⟩
 .intro i v s' Q' E' hP hQ
  obtain ⟨b,e,rfl⟩:=Wy r' i v (by simpa using hP);have hb:(bs[i]?).getD true=b:=by rw [e];rfl
  exact wpAny_truthy_bool (hb ▸ hQ)
 .intro h' tk hk
  rw [Ov,hlen,all_range];refine ⟨.bl (bs.all id),H,I.kept fun b o e=>hk b o (fun hm=>?_) (Oj _ e),rfl,q⟩;have e':b=s.heap.objs.size:=by simpa using hm
  rw [e'] at e;exact Nat.lt_irrefl _ (Ow e)
theorem Ji:∀ {xs:List V}{us:List Value},xs.length=us.length->(∀ (j:Nat) (x:V) (u:Value),xs[j]?=some x->us[j]?=some u->RelV x u)->Vals xs us
 | [], [],_,_=> .nil
 | [],_::_,h,_=>absurd h (by simp)
 | _::_, [],h,_=>absurd h (by simp)
 | x::xs,u::us,h,hr=> .cons (hr 0 x u rfl rfl) (Ji (by simpa using h) fun j a b e1 e2=>hr (j + 1) a b e1 e2)
theorem WN(hc:X.calm=true):VB X (.type "list") (fun xs H Q=> ∃ a kvs,xs= [.ref a]/\H a=some (.dK kvs)/\∀ l,H l=none->Q (.ref l) (upd H l (.lst (kvs.map fun kv=>kV kv.1)))):=by
 intro pins s U H xs us Q I r h;obtain ⟨a,kvs,rfl,ha,q⟩:=h;obtain ⟨u,rfl,ru⟩:=vals1 r;cases ru;obtain ⟨hz,lo,vs,rv,hd⟩:=EO I.hok ha;obtain ⟨ep,hat⟩:=hd.dictAt;have hlen:=rv.length;refine W.kdl_call (W.kdl_dict (knd:=Z2 X.prog X.w) (kvs:=vs) (ep:=ep) lo) (I.ok.hd hc) hat (by rw [<-hlen];exact hz) fun h' tk acc c hk hl hacc=>?_;refine ⟨.ref s.heap.objs.size,_,I.laid (o:= .lst (kvs.map fun kv=>kV kv.1)) hk (Om _) ⟨by rw [Oh];exact hz,acc.toList,c,?_,by rw [Array.toArray_toList];exact hl⟩,rfl,q _ (I.hok.fresh (Om _))⟩;obtain ⟨hn,hp⟩:=hacc;refine Ji (by simp [hn,hlen]) fun j x u e1 e2=>?_;obtain ⟨k,y,hy,hk'⟩:=hp j u (by rw [<-Array.getElem?_toList];exact e2);rw [On] at e1
 cases hkv:kvs[j]? with
 | none=>rw [hkv] at e1;cases e1
 | some kv=>
  rw [hkv] at e1;cases e1;have hkeys:=rv.keys;have e3:(kvs.map (·.1))[j]?=(vs.map (·.1))[j]?:=by rw [hkeys]
  rw [On,On,hkv,hy] at e3;have e4:kv.1=k:=Oy e3;have hk2:J9 kv.1 u=true:=by rw [e4];exact hk'
  rcases Z4 hk2 with ⟨i,t,e5,e6⟩ | ⟨z,t,e5,e6⟩
  .show RelV (kV kv.1) u
   rw [e5,e6];exact ⟨t,rfl⟩
  .show RelV (kV kv.1) u
   rw [e5,e6];exact ⟨t,rfl⟩
end
end L2
namespace L2
open PySem PySem.Spec PyProof.Rows
section
structure TV(H:Hp)(ea C:Addr)(dx:Option Addr):Prop where
 at_:H ea=some (JM ea C dx)
 dict:∀ d,dx=some d->∃ o,H d=some o
theorem Inv.inst(I:Inv X pins U H s)(c:TV H ea C dx):∃ ox odo,W.InstAt s.heap ea ox C odo:=by
 obtain ⟨⟨ox,e1,e2,e3,e4⟩,_⟩:=(show Zr X.prog X.w H s.heap ea (JM ea C dx) from I.hok ea _ c.at_)
 cases hd:dx with
 | none=>exact ⟨ox,none,e1,e2,e3,by rw [e4,hd];trivial⟩
 | some d=>
  obtain ⟨o,ho⟩:=c.dict d hd;obtain ⟨u,hu⟩:=(I.hok d o ho).ex;exact ⟨ox,some u,e1,e2,e3,by rw [e4,hd];exact hu⟩
theorem WW:∀ {Cs:List Addr}{us:List Value},Vals (Cs.map V.ref) us->us=Cs.map Value.ref
 | [],_,r=>by cases r;rfl
 | _::_,_,r=>by
  cases r with
  | cons h t=>
   have e:_=Value.ref _:=h;rw [e,WW t];rfl
def Wg(K:W.Frag):List V->Hp->VK->Prop:=fun xs H Q=> ∃ (ea C:Addr) (dx:Option Addr) (c:V) (b:Bool),xs= [.ref ea,c]/\TV H ea C dx/\W.ExcC K C/\
 ((∃ (tp:Addr) (Cs:List Addr),c= .ref tp/\H tp=some (.tup (Cs.map V.ref))/\W.kitAny K (.ref C) (Cs.map Value.ref)=some b) \/ (∃ N,c= .ref N/\W.kitOne K (.ref C) (.ref N)=some b) \/ (∃ T,c= .ty T/\W.kitOne K (.ref C) (.type T)=some b))/\Q (.bl b) H
theorem JP:VB X (.builtin "isinstance") (Wg X.K):=by
 intro pins s U H xs us Q I r h;obtain ⟨ea,C,dx,c,b,rfl,hc,hC,hk,q⟩:=h;obtain ⟨u,w',rfl,ru,rw'⟩:=vals2 r;cases ru;obtain ⟨ox,odo,IA⟩:=I.inst hc;have fin:∀ tk,EP X pins U Q (.bool b) {s with toks:=tk}:=fun tk=>⟨.bl b,H,I.tok _,rfl,q⟩;rcases hk with ⟨tp,Cs,rfl,ht,e⟩ | ⟨N,rfl,e⟩ | ⟨T,rfl,e⟩
 .cases rw'
  obtain ⟨_,its,rv,o,h1,h2,h3,n,h4⟩:=(show Zr X.prog X.w H s.heap tp (.tup (Cs.map V.ref)) from I.hok tp _ ht);rw [WW rv] at h4;obtain ⟨oc,od,oda,osl⟩:=o;cases h3;cases h4;exact W.kia_tup (W.kitx_exc hC) I.kIn ⟨ox,odo,IA⟩ h1 e (fun z=>nomatch z) fin
 .cases rw'
  exact W.kia_one (W.kitx_exc hC) I.kIn ⟨ox,odo,IA⟩ e (fun z=>nomatch z) fin
 .cases rw'
  exact W.kia_one (W.kitx_exc hC) I.kIn ⟨ox,odo,IA⟩ e (fun z=>nomatch z) fin
end
section
variable{K:W.Frag}
theorem Fun.okX{st:Stmt}(F:Fun K x qual st f fd)(S:Za N ps (ZJ st))(len:∀ vs H Q E,sp vs H Q E->vs.length=ps.length)(hbody:∀ (cdv:Value) (A:Around) (outer:List Env) (s:Shared) (H:Hp) (vs:List V) (Q:VK) (E:XK),YR k (A.deeper (envOfC qual (ZJ st) s.heap.objs.size f cdv))->sp vs H Q E->
   ∃ t,PSs (Yo (CX1 P w) P w K mg base N qual (ZJ st) f cdv A outer s H E) (Y5 st) t/\t {nx:=fun _ H'=>Q .non H',rt:=Q} (start N vs) H):ZQ P w K mg base (CX1 P w) (k + 1) f fd ps sp:=by
 obtain ⟨oc,od,kV,doc,pm,an,cdv,ct,osl,rfl,lk,hcd⟩:=F.ex;exact Iq lk hcd S len fun A outer s H vs Q E hr hsp=>hbody cdv A outer s H vs Q E hr hsp
theorem Fun.oqX{st:Stmt}(F:Fun K x qual st f fd)(S:Za N ps (ZJ st))(hbody:∀ (cdv:Value) (A:Around) (outer:List Env) (s:Shared) (H:Hp) (vs:List V) (Q:VK) (E:XK),YR k (A.deeper (envOfC qual (ZJ st) s.heap.objs.size f cdv))->sp vs H Q E->
   ∃ t,PSs (Yo (CX1 P w) P w K mg base N qual (ZJ st) f cdv A outer s H E) (Y5 st) t/\t {nx:=fun _ H'=>Q .non H',rt:=Q} (start N vs) H)(len:∀ vs H Q E,sp vs H Q E->vs.length=ps.length:=by intro vs H Q E h;repeat (obtain ⟨e,h⟩:=h;first | (subst e;exact rfl) | skip)):ZQ P w K mg base (CX1 P w) (k + 1) f fd ps sp:=F.okX S len hbody
theorem ZQ.never(F:ZQ P w K mg base CX0 k f fd ps sp):ZQ P w K mg base CX k f fd ps sp:=
 ⟨F.len,fun A outer s H args us vs Q E hr he hb hv hs=>codeAny_mono (F.run A outer s H args us vs Q E hr he hb hv hs) fun r s' q=>by
  cases r with
  | error e=>exact q.elim
  | ok fl=>cases fl <;> exact q⟩
end
end L2
namespace PySem.W
open PySem PySem.Spec PyProof.Rows
def xcIn(K:Frag)(C fI:Addr):Bool:=match K.lookup C with
 | some ⟨.type "type",_, .cls cd,sl⟩=>(match cd.mro,sl.toList with
  | .ref C2::tl, [_,_,_,_,some (.builtin n),_]=>C2==C && (n=="ValueError.__new__" && (!cd.hasDel && (cd.hasDict && (tailIn K L2.vErr tl && (nsOkIn K cd.ns && nsIn K cd.ns "__init__" ==some (some (.ref fI)))))))
  | _,_=>false)
 | _=>false
set_option tactic.hygienic true in
theorem Lh{K:Frag}{h:Heap}{N:Addr}{m:Str->Option Value}{n:Str}{v:Value}(X:K.In h)(G:h.Ns N m)(e:nsIn K N n=some (some v)):m n=some v:=by
 obtain ⟨o,es,ep,ho,hd,_,hf⟩:=G;unfold nsIn at e
 split at e
 case h_2=>cases e
 case h_1 c d es' n' sl q=>
  have z:=X _ _ q;rw [ho] at z;cases z;cases hd
  split at e
  case h_1 en he=>
   cases e;rw [<-hf];unfold nsFind findBy;rw [<-Array.find?_toList,he]
   rfl
  case h_2=>split at e <;> cases e
set_option tactic.hygienic true in
theorem cls_xc{K:Frag}{h:Heap}{C fI:Addr}(X:K.In h)(q:xcIn K C fI=true):
  ∃ tl N nm qn bs sn sub ab col dd k0 k1 k2 k3 k5 mN,h.get? C=some (excClassObj nm qn C N bs tl true sn sub ab col dd k0 k1 k2 k3 k5 "ValueError.__new__")/\h.Ns N mN/\mN "__init__" =some (.ref fI)/\OwnTail h L2.vErr tl:=by
 unfold xcIn at q
 split at q
 case h_2=>cases q
 case h_1 dd cd sl ho=>
  split at q
  case h_2=>cases q
  case h_1 C2 tl k0 k1 k2 k3 n k5 hm hs=>
   rw [O4,O4,O4,O4,O4,O4] at q;obtain ⟨q1,q2,q3,q4,q5,q6,q7⟩:=q;obtain rfl:C2=C:=beq_iff_eq.mp q1;obtain rfl:n="ValueError.__new__" :=beq_iff_eq.mp q2
   cases cd with
   | mk nm bs mro ns qn hd sn sub ab col del=>
    obtain rfl:mro= .ref C2::tl:=hm;obtain rfl:hd=true:=q4
    obtain rfl:del=false:=by cases del with
     | false=>rfl
     | true=>cases q3
    obtain rfl:sl= #[k0,k1,k2,k3,some (.builtin "ValueError.__new__"),k5]:=by
     cases sl with
     | mk l=>exact congrArg Array.mk hs
    have G:h.Ns ns (h.nsMap ns):= .of_isNs (isNs_of_in X q6);exact ⟨tl,ns,nm,qn,bs,sn,sub,ab,col,dd,k0,k1,k2,k3,k5,_,X _ _ ho,G,Lh X G (beq_iff_eq.mp q7),tail_of_in X q5⟩
end PySem.W
namespace PySem
open Sem (wp)
section
variable{prog:Program}{w:World}{A:Around}{E:Value->Shared->Prop}{h:Heap}{g:Array GenState}{d:Drawn}{t:Nat}{os:OsState}
variable{nm q:Str}{C N:Addr}{bs bm bmB:List Value}{hdct:Bool}{sn:List Str}{sub:List Value}{ab:Bool}{col:Option Bool}{dd:Option Addr}{k0 k1 k2 k3 k5:Option Value}{B newId initId:String}
theorem RT(F:ExcBaseFacts B newId initId bmB)(T:OwnTail h bmB bm){mN:Str->Option Value}{rest:List Value}{fI:Addr}{oI:Obj}{Q:Fin->Shared->Prop}(hC:h.get? C=some (excClassObj nm q C N bs bm hdct sn sub ab col dd k0 k1 k2 k3 k5 newId))(hn:h.Ns N mN)(hi:mN "__init__" =some (.ref fI))(hfI:h.get? fI=some oI)(hfc:oI.cls= .type "function")(hrest:rest.length<=sizeLine)(hq:∀ h' e,Heap.MadeExcOf h h' e (.ref C) rest->h.objs.size<=e->
   wpAny (model prog w) A (call (.ref fI) (.ref e::rest)) (fun r s'=>r= .none/\Q (.done (.ret (.ref e))) s') E ⟨h',g,d,t,os⟩):
  wpAny (model prog w) A (Builtin.«type.__call__» ⟨.ref C::rest, []⟩) Q E ⟨h,g,d,t,os⟩:=by
 repeat (first | with_reducible refine wpAny_madeBy_exc hC ?_ | with_reducible refine wpAny_loadPart_at hC ?_ | wp_step)
 refine codeAny_call_builtin_code (Code.quiet_builtin _ F.quiet) (wpAny_check_new_subT F T hC (codeAny_exc_new_subT F T hC ?_ hrest));show wpAny _ _ _ _ _ _
 let ot:Obj:={cls:= .type "tuple",data:= .seq rest.toArray}
 let ox:Obj:={cls:= .ref C,data:= .fields #[.ref h.objs.size, .none, .none, .none, .bool false, .none]}
 have kp:∀ b o,h.get? b=some o->((h.push ot).push ox).get? b=some o:=fun b o z=>Oj _ (Oj _ z);have hget:((h.push ot).push ox).get? (h.objs.size + 1)=some ox:=by heap_get
 have hcC:(Value.ref C::bm).contains (.ref C)=true:=by simp
 have hC1:=kp _ _ hC;unfold isInstance
 repeat (first | with_reducible refine wpAny_loadPart_at hget ?_ | (with_reducible refine wpAny_isSubtype_exc hC1 ?_;rw [hcC]) | wp_step)
 show wpAny _ _ (typeLookup (.ref C) _) _ _ _;refine wpAny_typeLookup_tail hC1 (hn.keeps kp) (T.keeps kp) F.mroIs F.init.lookup ?_;rw [hi];refine wpAny_holding (wpAny_bind ?_);unfold bindSpecial;refine wpAny_bind (wpAny_typeOf (T:="function") ⟨_,kp _ _ hfI,hfc⟩ ?_);rw [if_pos (by decide)];refine wpAny_pure (wpAny_bind (wpAny_mono (hq _ (h.objs.size + 1) ⟨kp,Heap.get?_none_of_le (Nat.le_succ _),h.objs.size,hget,Heap.get?_none_of_le (Om _),Oj _ (Heap.get?_push_at rfl rfl)⟩ (Nat.le_succ _)) (fun r s' hr=>?_) fun _ _ x=>x));obtain ⟨rfl,hQ⟩:=hr
 wp_walk
 exact hQ
theorem x_call(F:ExcBaseFacts B newId initId bmB)(T:OwnTail h bmB bm){mN:Str->Option Value}{rest:List Value}{fI:Addr}{oI:Obj}{Q:Value->Shared->Prop}(hC:h.get? C=some (excClassObj nm q C N bs bm hdct sn sub ab col dd k0 k1 k2 k3 k5 newId))(hn:h.Ns N mN)(hi:mN "__init__" =some (.ref fI))(hfI:h.get? fI=some oI)(hfc:oI.cls= .type "function")(hrest:rest.length<=sizeLine)(hq:∀ h' e,Heap.MadeExcOf h h' e (.ref C) rest->h.objs.size<=e->
   wpAny (model prog w) (A.under (.builtin "type.__call__" ⟨.ref C::rest, []⟩)) (call (.ref fI) (.ref e::rest)) (fun r s'=>r= .none/\Q (.ref e) s') E ⟨h',g,d,t,os⟩):
  wpAny (model prog w) A (call (.ref C) rest) Q E ⟨h,g,d,t,os⟩:=by
 have f1:=tc_lookup;have f2:=tc_bind (.ref C);have hT:(⟨h,g,d,t,os⟩:Shared).TypeIs (.ref C) "type" :=⟨_,hC,rfl⟩;refine wpAny_call (codeAny_of_tree ?_);show wpAny _ _ (callAny (.ref C) _) _ _ _
 repeat (any_goals (first | with_reducible refine wpAny_loadPart_at hC ?_ | assumption | wp_step))
 exact ⟨rfl,codeAny_call_builtin_at (Code.quiet_builtin _ (by decide +kernel)) entry_typeCall (wpAny_check_type_call_sub hC (RT F T hC hn hi hfI hfc hrest fun h' e hm hz=>hq h' e hm hz))⟩
end
end PySem
namespace PySem.W
open PySem PySem.Spec PyProof.Rows PySem.Builtin PySem.Builtin.ObjectAttr
section
variable{K:Frag}{h:Heap}{C fI x:Addr}{s:Shared}{prog:Program}{w:World}{A:Around}{name:Str}{v:Value}{tk:Tok}{R:Result->Shared->Prop}{ox:Obj}{od:Option Obj}
set_option tactic.hygienic true in
theorem RS(X:K.In h)(q:xcIn K C fI=true):∃ cd tl,clsIn K C=some cd/\cd.mro= .ref C::tl/\cd.hasDict=true/\OwnTail h L2.vErr tl:=by
 unfold xcIn at q
 split at q
 case h_2=>cases q
 case h_1 dd cd sl ho=>
  split at q
  case h_2=>cases q
  case h_1 C2 tl k0 k1 k2 k3 n k5 hm hs=>
   rw [O4,O4,O4,O4,O4,O4] at q;obtain ⟨q1,_,_,q4,q5,_,_⟩:=q;obtain rfl:C2=C:=beq_iff_eq.mp q1;exact ⟨cd,tl,by unfold clsIn;rw [ho],hm,q4,tail_of_in X q5⟩
theorem To(T:OwnTail h L2.vErr tl):refuseLoop self "__setattr__" tl=pure ():=by
 induction T with
 | base=>exact PySem.F.store_ValueError.passes self
 | own _ _ _ _ ih=>rw [refuseLoop_ref];exact ih
theorem IX(X:K.In s.heap)(I:InstAt s.heap x ox C od)(q:xcIn K C fI=true)(ob:mroIn K C (.type "object")=some true)(ht:findIn K (.ref C) name=some none)(h:wpAny (model prog w) A.in1 (storeInOwnDict (.ref x) (.ref C) (.str name tk) name v false)
   (fun fin s'=>match fin with | .done f=>R (.ok f) s' | .again c'=>c'.quiet=true/\codeAny (model prog w) A c' R s') (fun e s'=>R (.error e) s') s):
  codeAny (model prog w) A (.call (.builtin "object.__setattr__") ⟨[.ref x, .str name tk,v], []⟩) R s:=by
 have SF:=PySem.F.store_object;obtain ⟨cd,tl,hc,hm,_,T⟩:=RS X q;have sub:Looks (model prog w) s.heap (isInstance (.ref x) (.type "object")) true:=I.type.andThen (looks_mroIn X ob);have mr:Looks (model prog w) s.heap (mroOf (.ref C)) cd.mro:=(looks_clsIn X hc).andThen .now;refine codeAny_call_builtin SF.slot.plain SF.entry (check_slot (i:="object.__setattr__") (owner:="object") (n:="__setattr__") SF.kind SF.split sub (SF.args (.ref x) (.str name tk) v) ?_);rw [osa_eq,refuse_eq,];refine wpAny_bind (wpAny_bind (I.type.here (wpAny_bind (mr.here ?_))));rw [hm,refuseLoop_ref,To T];exact wpAny_pure (wpAny_bind (I.type.here (wpAny_bind ((looks_findIn X ht).here (wpAny_bind (wpAny_pure h))))))
theorem x_store0{E:Value->Shared->Prop}{Q:Unit->Shared->Prop}{oc:Value}{vs:Array Value}{sl:Array (Option Value)}(X:K.In s.heap)(q:xcIn K C fI=true)(ob:mroIn K C (.type "object")=some true)(ht:findIn K (.ref C) name=some none)(hs:findIn K (.ref C) "__setattr__" =some (some (.builtin "object.__setattr__")))(hx:s.heap.get? x=some ⟨.ref C,none, .fields vs,sl⟩)(h:∀ h' tk,h'.Ns1 s.heap.objs.size (fun y=>if y=name then some v else none)->h'.get? x=some ⟨.ref C,some s.heap.objs.size, .fields vs,sl⟩->(∀ b o,b≠x->s.heap.get? b=some o->h'.get? b=some o)->Q () {s with heap:=h',toks:=tk}):
  wpAny (model prog w) A (setAttr (.ref x) name v) Q E s:=by
 have I:InstAt s.heap x ⟨.ref C,none, .fields vs,sl⟩ C none:=⟨hx,rfl,rfl,trivial⟩;refine set_plain X I hs (IX (s:={s with toks:=s.toks + 1}) X I q ob ht ?_);obtain ⟨cd,tl,hc,hm,hd,_⟩:=RS X q;have hx1:(s.heap.push {cls:= .type "dict",data:= .dict #[]}).get? x=some ⟨.ref C,none, .fields vs,sl⟩:=Oj _ hx;have xs:x≠s.heap.objs.size:=O9 (Ow hx);refine wpAny_bind (wpAny_pure (wpAny_bind (wpAny_bind (wpAny_loadPart hx (wpAny_bind (Looks.here (s:={s with toks:=s.toks + 1}) (looks_clsIn X hc) ?_))))));rw [hd];show wpAny _ _ (alloc {cls:= .type "dict",data:= .dict #[]} >>=fun d=>update x (fun o=>{cls:=o.cls,dict:=some d,data:=o.data,slots:=o.slots}) >>=fun _=>dictMade (.ref C) x d) _ _ _;refine wpAny_bind (wpAny_alloc' (wpAny_bind (wpAny_update' hx1 (wpAny_pure ?_))))
 have gd:((s.heap.push {cls:= .type "dict",data:= .dict #[]}).update x fun o=>{cls:=o.cls,dict:=some s.heap.objs.size,data:=o.data,slots:=o.slots}).get? s.heap.objs.size=some {cls:= .type "dict",data:= .dict #[]}:=
  (Heap.get?_update_ne _ _ _ _ xs.symm).trans (Heap.get?_push_at rfl rfl)
 have nd:((s.heap.push {cls:= .type "dict",data:= .dict #[]}).update x fun o=>{cls:=o.cls,dict:=some s.heap.objs.size,data:=o.data,slots:=o.slots}).Ns s.heap.objs.size (fun _=>none):=
  ⟨_,#[],_,gd,rfl,fun e he=>absurd he (by simp),fun _=>rfl⟩
 refine wpAny_bind (wpAny_pure (wpAny_bind (wpAny_nsSet1 (Heap.Ns1.of_empty nd) fun h' hn hs2=>?_)));obtain ⟨oD,es,ep,hoD,hdD,hcD⟩:=hn.count (PySem.Within.cons name v PySem.Within.nil);refine wpAny_bind (wpAny_lookBehind hoD (by rw [hdD];exact pastItsLine_dict (O6 hcD (by rw [PB,List.length_nil,sizeLine_eq];omega))) (wpAny_pure (h _ _ hn ?_ fun b o hb e=>?_)))
 .refine (hs2.2 x xs).trans ?_
  exact Heap.get?_update_self _ hx1 rfl
 .refine (hs2.2 b (O9 (Ow e))).trans ?_
  rw [Heap.get?_update_ne _ _ _ _ hb];exact Oj _ e
theorem x_store1{E:Value->Shared->Prop}{Q:Unit->Shared->Prop}{dx:Addr}{mA:Str->Option Value}{ns:List Str}{vs:Array Value}{sl:Array (Option Value)}(X:K.In s.heap)(q:xcIn K C fI=true)(ob:mroIn K C (.type "object")=some true)(ht:findIn K (.ref C) name=some none)(hs:findIn K (.ref C) "__setattr__" =some (some (.builtin "object.__setattr__")))(hx:s.heap.get? x=some ⟨.ref C,some dx, .fields vs,sl⟩)(hn:s.heap.Ns1 dx mA)(hw:PySem.Within mA ns)(hz:ns.length<=sizeLine)(h:∀ h' tk,h'.Ns1 dx (fun y=>if y=name then some v else mA y)->Heap.SameBut dx s.heap h'->Q () {s with heap:=h',toks:=tk}):
  wpAny (model prog w) A (setAttr (.ref x) name v) Q E s:=by
 obtain ⟨o,es0,ep0,e0,r0⟩:=id hn;have I:InstAt s.heap x ⟨.ref C,some dx, .fields vs,sl⟩ C (some o):=⟨hx,rfl,rfl,e0⟩;refine set_plain X I hs (IX (s:={s with toks:=s.toks + 1}) X I q ob ht ?_);obtain ⟨cd,tl,hc,hm,hd,_⟩:=RS X q;refine wpAny_bind (wpAny_pure (wpAny_bind (wpAny_bind (wpAny_loadPart hx (wpAny_bind (Looks.here (s:={s with toks:=s.toks + 1}) (looks_clsIn X hc) ?_))))));rw [hd];refine wpAny_pure (a:=some dx) (wpAny_bind (wpAny_pure (wpAny_bind (wpAny_nsSet1 (s:={s with toks:=s.toks + 1}) hn fun h' hn2 hs2=>?_))));obtain ⟨oD,es,ep,hoD,hdD,hcD⟩:=hn2.count (PySem.Within.cons name v hw);exact wpAny_bind (wpAny_lookBehind hoD (by rw [hdD];exact pastItsLine_dict (O6 hcD (by rw [PB];omega))) (wpAny_pure (h _ _ hn2 hs2)))
end
end PySem.W
namespace L2
open PySem PySem.Spec PyProof.Rows
def xdO(d:Addr)(fs:List (Str × V)):HO:= .ext fun h=> ∃ mA,h.Ns1 d mA/\(∀ f,JD (fs.lookup f) (mA f))/\PySem.Within mA (fs.map (·.1))
def exI(ea C:Addr)(dx:Option Addr):HO:= .ext fun h=> ∃ vs sl,h.get? ea=some ⟨.ref C,dx, .fields vs,sl⟩/\1 < vs.size/\vs[1]?=some Value.none
structure XCl(K:W.Frag)(C fI:Addr):Prop where
 xc:W.xcIn K C fI=true
 ob:W.mroIn K C (.type "object")=some true
 sa:W.findIn K (.ref C) "__setattr__" =some (some (.builtin "object.__setattr__"))
theorem xdO.ok{P:Program}{w:World}{H:Hp}{h:Heap}(hn:h.Ns1 d mA)(r:∀ f,JD (fs.lookup f) (mA f))(wi:PySem.Within mA (fs.map (·.1))):Zr P w H h d (xdO d fs):=
 ⟨⟨mA,hn,r,wi⟩,let ⟨o,_,_,e,_⟩:=hn;⟨o,e⟩,fun h1 h2 ⟨m,q,r⟩ k=>⟨m,q.at k,r⟩⟩
theorem exI.ok{P:Program}{w:World}{H:Hp}{h:Heap}{vs:Array Value}{sl:Array (Option Value)}(e:h.get? ea=some ⟨.ref C,dx, .fields vs,sl⟩)(z:1 < vs.size)(n:vs[1]?=some Value.none):Zr P w H h ea (exI ea C dx):=
 ⟨⟨vs,sl,e,z,n⟩,⟨_,e⟩,fun h1 h2 ⟨vs,sl,q,r⟩ k=>⟨vs,sl,k _ q,r⟩⟩
section
variable{X:Cx}{pins:List (Addr × Obj)}{U:St}{H:Hp}{s:Shared}{a C fI d:Addr}{f:Str}{y:V}{u:Value}{A:Around}{E:Value->Shared->Prop}{Q:Unit->Shared->Prop}{fs:List (Str × V)}
theorem LT(I:Inv X pins U H s)(e:H a=some (exI a C none))(c:XCl X.K C fI)(n:W.findIn X.K (.ref C) f=some none)(ry:RelV y u)(h:∀ d s',H d=none->d≠a->Inv X pins U (upd (upd H d (xdO d [(f,y)])) a (exI a C (some d))) s'->Q () s'):wpAny (model X.prog X.w) A (setAttr (.ref a) f u) Q E s:=by
 obtain ⟨⟨vs,sl,hx,hz,hn1⟩,_⟩:=(show Zr X.prog X.w H s.heap a (exI a C none) from I.hok a _ e);refine W.x_store0 (oc:= .none) I.kIn c.xc c.ob n c.sa hx fun h' tk hn hx' hk=>?_;have dx:s.heap.objs.size≠a:=fun z=>Nat.lt_irrefl _ (z ▸ Ow hx);have fr:H s.heap.objs.size=none:=I.hok.fresh (Om _);have e1:(h'.update a fun _=>⟨.ref C,none, .fields vs,sl⟩).get? a=some ⟨.ref C,none, .fields vs,sl⟩:=Heap.get?_update_self _ hx' rfl;have e2:∀ b,b≠a->(h'.update a fun _=>⟨.ref C,none, .fields vs,sl⟩).get? b=h'.get? b:=fun b hb=>Heap.get?_update_ne _ _ _ _ hb
 have I1:=I.laid (a:=s.heap.objs.size) (o:=xdO s.heap.objs.size [(f,y)]) (h':=h'.update a fun _=>⟨.ref C,none, .fields vs,sl⟩) (t':=tk) (fun b o q=>by
  by_cases z:b=a
  .subst z;rw [hx] at q;cases q;exact e1
  .rw [e2 b z];exact hk b o z q) (Om _) (xdO.ok (hn.at fun o q=>by rw [e2 _ dx];exact q) (fun g=>by
  show JD (List.lookup g [(f,y)]) (if g=f then some u else none)
  by_cases q:g=f
  .have hb:(g==f)=true:=beq_iff_eq.mpr q
   simp only [List.lookup,hb,if_pos q];exact ry
  .have hb:(g==f)=false:=beq_eq_false_iff_ne.mpr q
   simp only [List.lookup,hb,if_neg q];trivial) (PySem.Within.cons f u PySem.Within.nil))
 refine h _ _ fr dx ?_;refine I1.write (x:=a) (e:=a) (h':=h') (t':=tk) (by rw [ZE (Ne.symm dx),e];exact True.intro) (.inl rfl) (fun b o hb q=>by rw [<-e2 b hb];exact q) ⟨_,hx'⟩ (exI.ok hx' hz hn1)
theorem LS(I:Inv X pins U H s)(e:H a=some (exI a C (some d)))(ed:H d=some (xdO d fs))(c:XCl X.K C fI)(n:W.findIn X.K (.ref C) f=some none)(hl:fs.length < 1000)(ry:RelV y u)(h:∀ s',Inv X pins U (upd H d (xdO d (Zz f y fs))) s'->Q () s'):wpAny (model X.prog X.w) A (setAttr (.ref a) f u) Q E s:=by
 obtain ⟨⟨vs,sl,hx,hz,hn1⟩,_⟩:=(show Zr X.prog X.w H s.heap a (exI a C (some d)) from I.hok a _ e);obtain ⟨⟨mA,hn,r,wi⟩,_⟩:=(show Zr X.prog X.w H s.heap d (xdO d fs) from I.hok d _ ed);refine W.x_store1 I.kIn c.xc c.ob n c.sa hx hn wi (by rw [Oh,sizeLine_eq];omega) fun h' tk hn' sb=>h _ ?_;refine I.write (x:=d) (e:=d) (by rw [ed];exact True.intro) (.inl rfl) (fun b q hb z=>(sb.2 b hb).trans z) (let ⟨o,_,_,e',_⟩:=hn';⟨o,e'⟩) (xdO.ok hn' (fun g=>?_) fun g hg=>?_)
 .show JD ((Zz f y fs).lookup g) (if g=f then some u else mA g)
  rw [Jr]
  by_cases q:g=f
  .rw [if_pos q,if_pos q];exact ry
  .rw [if_neg q,if_neg q];exact r g
 .by_cases q:g=f
  .rw [q];exact (JK f y fs).1
  .refine (JK f y fs).2 g (wi g fun z=>hg ?_)
   show (if g=f then some u else mA g)=none;rw [if_neg q];exact z
def sX0(C:Addr)(ta tv:TE)(f:Str):TS:=fun D U H=>tv U H fun y H1=>ta U H1 fun x H2=>Y6 x fun a=>H2 a=some (exI a C none)/\∀ d,H2 d=none->d≠a->D.nx U (upd (upd H2 d (xdO d [(f,y)])) a (exI a C (some d)))
def sX1(C:Addr)(ta tv:TE)(f:Str):TS:=fun D U H=>tv U H fun y H1=>ta U H1 fun x H2=>Y6 x fun a=> ∃ d fs,H2 a=some (exI a C (some d))/\H2 d=some (xdO d fs)/\fs.length < 1000/\D.nx U (upd H2 d (xdO d (Zz f y fs)))
theorem Le{o value:Expr}{ta tv:TE}{pos pos':Pos}(c:XCl X.K C fI)(n:W.findIn X.K (.ref C) f=some none)(ha:PE X o ta)(hv:PE X value tv)(hs:swapsWith value (some (.Attribute o f pos')) pos.line X.env=pure false:=by rfl):PS X (.Assign [.Attribute o f pos'] value pos) (sX0 C ta tv f):=by
 intro pins s U H D I h;refine plainObj_wpAny_Assign_Attribute (thn (hv pins s U H _ I h) fun u s1 ⟨y,H1,I1,ry,q⟩=>thn (ha pins s1 U H1 _ I1 q) fun ov s2 ⟨x,H2,I2,rx,q2⟩=>?_) hs;replace q2:=Y6.old q2;obtain ⟨a,ex,ea,q2⟩:=q2;subst ex;obtain rfl:ov=Value.ref a:=rx;exact LT I2 ea c n ry fun d s3 hd hda I3=>⟨U,_,I3,q2 d hd hda⟩
theorem Ld{o value:Expr}{ta tv:TE}{pos pos':Pos}(c:XCl X.K C fI)(n:W.findIn X.K (.ref C) f=some none)(ha:PE X o ta)(hv:PE X value tv)(hs:swapsWith value (some (.Attribute o f pos')) pos.line X.env=pure false:=by rfl):PS X (.Assign [.Attribute o f pos'] value pos) (sX1 C ta tv f):=by
 intro pins s U H D I h;refine plainObj_wpAny_Assign_Attribute (thn (hv pins s U H _ I h) fun u s1 ⟨y,H1,I1,ry,q⟩=>thn (ha pins s1 U H1 _ I1 q) fun ov s2 ⟨x,H2,I2,rx,q2⟩=>?_) hs;replace q2:=Y6.old q2;obtain ⟨a,ex,d,fs,ea,ed,hl,q2⟩:=q2;subst ex;obtain rfl:ov=Value.ref a:=rx;exact LS I2 ea ed c n hl ry fun s3 I3=>⟨U,_,I3,q2⟩
def drop(H:Hp)(a:Addr):Hp:=fun b=>if b=a then none else H b
theorem V6(h:b≠a):drop H a b=H b:=if_neg h
theorem U0:drop H a a=none:=if_pos rfl
theorem Inv.drop{φ:Heap->Prop}(I:Inv X pins U H s)(e:H a=some (.ext φ)):Inv X pins U (drop H a) s:=by
 have ne:∀ b o,H b=some o->(∀ ψ,o≠ .ext ψ)->b≠a:=fun b o q n z=>by rw [z,e] at q;exact n _ (Oy q).symm
 have no:∀ b,H b=none->L2.drop H a b=none:=fun b q=>by
  by_cases z:b=a
  .rw [z];exact U0
  .rw [V6 z];exact q
 obtain ⟨ok,os,bare,base,loc,cell,free,freeC,pin,hok,len⟩:=I;refine ⟨ok,os,bare,⟨base.keep,base.slot,fun b o q n hx=>no b (base.free b o q n hx),base.there,fun b xs q=>?_,fun b o u q=>?_,fun b ps q=>?_⟩,loc,cell,no _ free,fun x c q=>no _ (freeC x c q),fun p hp=>let ⟨p1,p2,p3⟩:=pin p hp;⟨p1,no _ p2,p3⟩,fun b o q=>?_,len⟩
 .have z:=base.tups b xs q;rw [V6 (ne b _ z fun _ y=>nomatch y)];exact z
 .have z:=base.frzs b o u q;rw [V6 (ne b _ z fun _ y=>nomatch y)];exact z
 .obtain ⟨more,z⟩:=base.tbls b ps q;exact ⟨more,by rw [V6 (ne b _ z fun _ y=>nomatch y)];exact z⟩
 .by_cases z:b=a
  .rw [z,U0] at q;cases q
  .rw [V6 z] at q
   exact (hok b o q).stay (fun _ _ _ y=>y) (fun c y=>by rw [V6 (ne c _ y fun _ y=>nomatch y)];exact y) fun c xs y=>by rw [V6 (ne c _ y fun _ y=>nomatch y)];exact y
end
end L2
namespace PySem.W
open PySem PySem.Spec PyProof.Rows
theorem exc_get{K:Frag}{D x:Addr}{ox:Obj}{odo:Option Obj}{s:Shared}{prog:Program}{w:World}{A:Around}{name:Str}{v:Value}{ex:Bool}{Q:Value->Shared->Prop}{E:Value->Shared->Prop}(C:ExcC K D)(X:K.In s.heap)(I:InstAt s.heap x ox D odo)(hf:findObj K D odo name=some (.value v))(hh:handedIn v=true)(h:Q v {s with toks:=s.toks + 1}):
  wpAny (model prog w) A (getAttr (.ref x) name ex) Q E s:=by
 obtain ⟨hp,g,d,t,os⟩:=s;have ht:=I.type (M:=model prog w);have l1:=looks_findIn (M:=model prog w) X C.ga;have l2:=looks_findIn (M:=model prog w) X C.gn;have l3:=looks_find (M:=model prog w) X I hf;have sl:=F.attr_ValueError.ga;have bs:=sl.bind (.ref x);simp only [getAttr,getAttrBy];refine wpAny_bind (wpAny_mkText (wpAny_holding (wpAny_bind (ht.at ?_))));refine wpAny_bind (l1.at ?_);simp only [EC,Bool.and_false,Bool.false_eq_true,if_false,getAttrByItsOwn,hookBefore];refine wpAny_bind (l2.at (wpAny_bind (wpAny_attempt (wpAny_holding ?_))));have nh:(ex && onTheHeap (.builtin "BaseException.__getattribute__"))=false:=by cases ex <;> rfl
 simp only [callGetattribute,boundAndCalled,nh,Bool.false_eq_true,if_false];rw [bs];refine wpAny_bind (wpAny_pure (wpAny_call (codeAny_call_builtin sl.plain F.entry_bexc_ga (Wu C X I ?_))));simp only [Builtin.«object.__getattribute__»]
 repeat lk
 show wpAny _ _ (handedOut v) _ _ _;rw [handedOut_of hh];exact wpAny_pure h
end PySem.W
namespace PySem
section
variable{M:Model}{A:Around}{E:Value->Shared->Prop}{env:Env}
variable{nm q:Str}{C N:Addr}{bs bm:List Value}{hdct:Bool}{sn:List Str}{sub:List Value}{ab:Bool}{col:Option Bool}{dd:Option Addr}{k0 k1 k2 k3 k5:Option Value}{newId:String}
theorem TX{s:Shared}{x:Sem Value}{Q:Flow->Shared->Prop}(hbase:bm.contains (.type "BaseException")=true)(hh:A.handled=none)(h:wpAny M A x (fun v s1=> ∃ e dx vs sl,v= .ref e/\s1.heap.get? C=some (excClassObj nm q C N bs bm hdct sn sub ab col dd k0 k1 k2 k3 k5 newId)/\s1.heap.get? e=some ⟨.ref C,dx, .fields vs,sl⟩/\vs[1]?=some Value.none/\E (.ref e) s1) E s):
  wpAny M A (raiseStmt env (some x) none) Q E s:=by
 have hcB:(Value.ref C::bm).contains (.type "BaseException")=true:=by rw [List.contains_cons,hbase,Bool.or_true]
 unfold raiseStmt;refine wpAny_bind (wpAny_mono h (fun v s1 ⟨e,dx,vs,sl,ev,hC,he,hv,hE⟩=>?_) fun _ _ z=>z);subst ev;obtain ⟨hp,g,d,tk,os⟩:=s1
 repeat (first | with_reducible refine wpAny_loadPart_at he ?_ | with_reducible refine wpAny_loadPart_at hC ?_ | (with_reducible refine wpAny_isSubtype_exc hC ?_;rw [hcB]) | wp_step)
 rw [hv];exact wpAny_pure (wpAny_pure (wpAny_raiseNew_none hh hE))
end
end PySem
namespace L2
open PySem PySem.Spec PyProof.Rows
def NT(C:Addr)(f g:Str):Sp:=fun vs H Q _=> ∃ ea a b,vs= [.ref ea,a,b]/\H ea=some (exI ea C none)/\∀ d,H d=none->d≠ea->Q .non (upd (upd (upd H d (xdO d [(f,a)])) ea (exI ea C (some d))) d (xdO d (Zz g b [(f,a)])))
section
variable{X:Cx}{pins:List (Addr × Obj)}{U:St}{H:Hp}{s:Shared}{C fI:Addr}{fd:FuncData}{k:Nat}{f g y z p:Str}{us:List Value}{a b:V}{E:XK}{x:Str}
theorem LW(c:XCl X.K C fI)(hf:W.isFn X.K (.ref fI)=true)(G:ZQ X.prog X.w X.K X.mg X.base CX0 k fI fd [p,y,z] (NT C f g))(hr:YR (k + 1) X.A)(hb:Binds X.K fd [p,y,z] [])(I:Inv X pins U H s)(r:Vals [a,b] us)(hex:X.ex= []){Q:Value->Shared->Prop}(h:∀ ea d s',H d=none->H ea=none->Inv X pins U (upd H d (xdO d (Zz g b [(f,a)]))) s'->Fly X.s₀.heap (upd H d (xdO d (Zz g b [(f,a)]))) s'.heap ea C (some d)->
   (∃ vs sl,s'.heap.get? ea=some ⟨.ref C,some d, .fields vs,sl⟩/\vs[1]?=some Value.none)->Q (.ref ea) s'):
  wpAny (model X.prog X.w) X.A (call (.ref C) us) Q X.xe s:=by
 obtain ⟨tl,N,nm,qn,bs,sn,sub,ab,col,dd,k0,k1,k2,k3,k5,mN,hCo,hN,hni,T⟩:=W.cls_xc I.kIn c.xc;have ft:W.typeIn X.K (.ref fI)=some (.type "function"):=beq_iff_eq.mp hf
 obtain ⟨oI,hl,hfc⟩:∃ oI,X.K.lookup fI=some oI/\oI.cls= .type "function" :=by
  unfold W.typeIn at ft;obtain ⟨oI,e1,e2⟩:=PJ.mp ft;exact ⟨oI,e1,e2⟩
 obtain ⟨u1,u2,rfl,ra,rb⟩:=vals2 r;obtain ⟨hp,gs,dr,tk,os⟩:=s;refine x_call F.excBase_ValueError T hCo hN hni (I.kIn _ _ hl) hfc (by rw [<-r.length,sizeLine_eq];show 2<=_;omega) fun h' e hm hz=>?_;obtain ⟨t,ht,_,_⟩:=hm.there;have I1:=I.laid (a:=e) (o:=exI e C none) (h':=h') (t':=tk) hm.keeps hz (exI.ok ht (by show 1 < 6;decide) rfl);have fe:H e=none:=I.hok.fresh hz
 have hq:NT C f g [.ref e,a,b] (upd H e (exI e C none)) (fun v H2=>v= .non/\∃ d,H d=none/\d≠e/\H2=upd (upd (upd (upd H e (exI e C none)) d (xdO d [(f,a)])) e (exI e C (some d))) d (xdO d (Zz g b [(f,a)]))) (fun _ _ _=>False):=
  ⟨e,a,b,rfl,ZC,fun d hd hde=>⟨rfl,d,by rw [ZE hde] at hd;exact hd,hde,rfl⟩⟩
 have r2:Vals [V.ref e,a,b] [Value.ref e,u1,u2]:= .cons rfl r;refine wpAny_call (codeAny_mono (G.run _ X.stack _ _ ⟨[Value.ref e,u1,u2], []⟩ [Value.ref e,u1,u2] _ _ (fun _ _ _=>False) (hr.make C _ []) (I1.env0.make C _ []) (hb _ [Value.ref e,u1,u2] I1.kIn rfl) r2 hq) fun r s' hq'=>?_)
 cases r with
 | error e'=>exact YM pins U _ _ e' s' I1 hq'
 | ok fl=>
  cases fl with
  | next=>exact False.elim hq'
  | brk=>exact False.elim hq'
  | cont=>exact False.elim hq'
  | ret u=>
   obtain ⟨v,H',I3,rv,ev,d,hd,hde,rfl⟩:=I1.after hq';subst ev;have at_e:upd (upd (upd (upd H e (exI e C none)) d (xdO d [(f,a)])) e (exI e C (some d))) d (xdO d (Zz g b [(f,a)])) e=some (exI e C (some d)):=by rw [ZE (Ne.symm hde),ZC]
   obtain ⟨⟨vs,sl,hx,hsz,hn1⟩,_⟩:=(show Zr X.prog X.w _ s'.heap e (exI e C (some d)) from I3.hok e _ at_e);have I4:=I3.drop at_e
   have eH:L2.drop (upd (upd (upd (upd H e (exI e C none)) d (xdO d [(f,a)])) e (exI e C (some d))) d (xdO d (Zz g b [(f,a)]))) e=upd H d (xdO d (Zz g b [(f,a)])):=by
    funext x
    by_cases z:x=e
    .rw [z,U0,ZE (Ne.symm hde),fe]
    .rw [V6 z]
     by_cases z2:x=d
     .rw [z2,ZC,ZC]
     .rw [ZE z2,ZE z,ZE z2,ZE z,ZE z2]
   rw [eH] at I4;refine ⟨rv,h e d s' hd fe I4 ⟨?_,by rw [ZE (Ne.symm hde)];exact fe,_,vs,hx,rfl,rfl,rfl,hsz, .inl hn1⟩ ⟨vs,sl,hx,hn1⟩⟩
   cases q:X.s₀.heap.get? e with
   | none=>rfl
   | some u=>
    obtain ⟨v,hv⟩:=I.base.there e u q (by rw [hex];simp);rw [hm.new] at hv;cases hv
def En(C:Addr)(f g:Str)(E:XK)(t:TA):TS:=fun _ U H=>t U H fun vs H1=> ∃ a b,vs= [a,b]/\∀ d,H1 d=none->E (.ref C) (some d) (upd H1 d (xdO d (Zz g b [(f,a)])))
theorem Us{e:Expr}{es:List Expr}{t:TA}{np cpos pos:Pos}(hl:BP X E)(hex:X.ex= [])(hc:X.calm=true)(hg:Gl X x)(hm:X.mg x=some (.ref C))(c:XCl X.K C fI)(hk:W.keepIn X.K (.ref C)=true)(hf:W.isFn X.K (.ref fI)=true)(G:ZQ X.prog X.w X.K X.mg X.base CX0 k fI fd [p,y,z] (NT C f g))(hr:YR (k + 1) X.A)(hb:Binds X.K fd [p,y,z] [])(ha:PA X (e::es) t)(hdb:(x==("__debug__" :Str))=false:=by decide)(he:starEach (e::es) X.env=(false,eval e X.env)::starEach es X.env:=by rfl)(hpl:(backTo cpos (starEach es X.env)).any (·.1)=false:=by rfl):
  PS X (.Raise (some (.Call (.Name x np) (e::es) [] cpos)) none pos) (En C f g E t):=by
 intro pins s U H D I h;obtain ⟨tl,N,nm,qn,bs,sn,sub,ab,col,dd,k0,k1,k2,k3,k5,mN,hCo,hN,hni,T⟩:=W.cls_xc I.ok.mod.kin c.xc
 have P:wpAny (model X.prog X.w) X.A (eval (.Call (.Name x np) (e::es) [] cpos) X.env) (fun v s1=> ∃ ea dx vs sl,v= .ref ea/\s1.heap.get? C=some (excClassObj nm qn C N bs tl true sn sub ab col dd k0 k1 k2 k3 k5 "ValueError.__new__")/\s1.heap.get? ea=some ⟨.ref C,dx, .fields vs,sl⟩/\vs[1]?=some Value.none/\X.xe (.ref ea) s1) X.xe s:=by
  refine wpAny_Call_Name_kw (JZ I hg hm ?_ hdb);refine W.callWith_K (h₀:=X.base) I.ok.mod.kin hk (thn (ha cpos pins s U H _ I h) fun us s1 ⟨vs,H1,I1,r,a,b,ev,q⟩=>⟨I1.kIn,?_⟩) he hpl;subst ev;exact LW c hf G hr hb I1 r hex fun ea d s' hd hea I2 F ⟨vs,sl,hx,hv⟩=>⟨ea,_,vs,sl,rfl,I2.bk _ _ hCo,hx,hv,hl pins U _ s' ea C (some d) I2 F (q d hd)⟩
 rw [arm_exec_Raise];refine wpAny_bind (wpAny_standAt (TX (C:=C) (nm:=nm) (q:=qn) (N:=N) (bs:=bs) (bm:=tl) (hdct:=true) (sn:=sn) (sub:=sub) (ab:=ab) (col:=col) (dd:=dd) (k0:=k0) (k1:=k1) (k2:=k2) (k3:=k3) (k5:=k5) (newId:="ValueError.__new__") (T.hasType F.excBase_ValueError.hasBase) (I.ok.hd hc) (wpAny_bind (wpAny_mono P (fun v s3 h3=>wpAny_bind (wpAny_standAt (wpAny_pure h3))) fun _ _ z=>z))))
def IY(K:W.Frag)(ta:TE)(f:Str):TE:=fun U H Q=>ta U H fun x H1=>Y6 x fun a=> ∃ C d fs v,H1 a=some (JM a C (some d))/\H1 d=some (xdO d fs)/\W.ExcC K C/\W.hasDictIn K C=true/\W.findIn K (.ref C) f=some none/\fs.lookup f=some v/\Q v H1
theorem FE{e:Expr}{ta:TE}{pos:Pos}(he:PE X e ta)(hb:attributeBase e f X.env (eval e X.env)=eval e X.env):PE X (.Attribute e f pos) (IY X.K ta f):=by
 intro pins s U H Q I h;refine NP hb (thn (he pins s U H _ I h) fun u s1 ⟨x,H1,I1,rx,q⟩=>?_);replace q:=Y6.old q;obtain ⟨a,ex,C,d,fs,v,ea,ed,xc,hd,ha,l,q⟩:=q;subst ex;obtain rfl:u=Value.ref a:=rx;obtain ⟨⟨ox,e1,e2,e3,e4⟩,_⟩:=(show Zr X.prog X.w H1 s1.heap a (JM a C (some d)) from I1.hok a _ ea);obtain ⟨⟨mA,hn,r,wi⟩,_⟩:=(show Zr X.prog X.w H1 s1.heap d (xdO d fs) from I1.hok d _ ed);obtain ⟨od,ho,hlk⟩:=Wm hn;obtain ⟨u,hu,ru⟩:=JD.some_of (v:=v) (o:=mA f) (by rw [<-l];exact r f);exact W.exc_get xc I1.kIn ⟨e1,e2,e3,by rw [e4];exact ho⟩ (W.findObj_own hd ha rfl (by rw [hlk,hu])) (Wo ru) ⟨v,H1,I1.tok _,ru,q⟩
end
end L2
namespace L2
open PySem PySem.Spec PyProof.Rows
def SI(tp:Bool)(h:Heap)(i l:Addr)(k:Nat)(xs:Array Value):Prop:=match tp with
 | false=>h.IsListIter i l k/\h.IsList l xs
 | true=>h.IsTupleIter i l k/\h.IsTuple l xs
theorem SI.to(z:SI tp h i l k xs)(kp:∀ b o,(b=i \/ b=l)->h.get? b=some o->h'.get? b=some o):SI tp h' i l k xs:=by
 cases tp with
 | false=>exact ⟨let ⟨o,e,r⟩:=z.1;⟨o,kp _ _ (.inl rfl) e,r⟩,let ⟨o,e,r⟩:=z.2;⟨o,kp _ _ (.inr rfl) e,r⟩⟩
 | true=>exact ⟨let ⟨o,e,r⟩:=z.1;⟨o,kp _ _ (.inl rfl) e,r⟩,let ⟨o,e,r⟩:=z.2;⟨o,kp _ _ (.inr rfl) e,r⟩⟩
theorem SI.but(z:SI tp h i l k xs)(e:Heap.ExtBut b h h')(h1:i≠b)(h2:l≠b):SI tp h' i l k xs:=
 z.to fun c o hc q=>e c o (by rcases hc with hc | hc <;> rw [hc] <;> assumption) q
theorem Me{a b:Sem α}{Q:α->Shared->Prop}(hc:c=false)(h:wpAny M A b Q E s):wpAny M A (if c=true then a else b) Q E s:=by
 subst hc
 rwa [if_neg (by decide)]
section
theorem Xc(z:SI tp s.heap i l k xs)(ne:l≠i)(hx:xs[k]?=some x)(hQ:∀ g,SI tp g i l (k + 1) xs->Heap.SameBut i s.heap g->Q x {s with heap:=g}):wpAny (model prog w) A (Builtin.SmallTypes.nextOf (.ref i)) Q E s:=by
 cases tp with
 | false=>exact wpAny_nextOf_list_item z.1 z.2 hx fun g a sb=>hQ g ⟨a,z.2.extBut sb.extBut ne⟩ sb
 | true=>
  obtain ⟨z1,z2⟩:=z;obtain ⟨ob,hob,cob,dob⟩:=id z1;obtain ⟨ot,hot,_,nt,dt⟩:=id z2;have sn:=F.slot_tuple_iterator_next;simp only [Builtin.SmallTypes.nextOf];refine wpAny_bind (wpAny_callSpecial?_slot (name:=Str.ofString "__next__") z1.typeIs sn (wpAny_call_entry sn z1.typeIs F.entry_tuple_iterator_next ?_ (F.args_tuple_iterator_next_1 _)));refine wpAny_bind (m:=field (.ref i) 0) (wpAny_field hob dob (x:= .ref l) rfl (Me (c:=Value.ref l== .none) rfl ?_));refine wpAny_bind (m:=field (.ref i) 1) (wpAny_field hob dob (x:= .int k 0) rfl (wpAny_bind (m:=seqItems? (.ref l)) (wpAny_seqItems hot dt ?_)));simp only [hx,Int.toNat_natCast];refine wpAny_bind (wpAny_setField hob dob (by simp) (wpAny_pure ⟨x,rfl,wpAny_pure (hQ _ ⟨?_,?_⟩ (Heap.SameBut.update ..))⟩))
  .refine ⟨_,Heap.get?_update_self _ hob (Obj.isFreed_of_fields (Obj.data_mapFields dob _)),(Obj.cls_mapFields ..).trans cob,?_⟩
   rw [Obj.data_mapFields dob];simp [rawInt]
  .exact z2.extBut (Heap.SameBut.update ..).extBut ne
theorem Rg(hh:A.handled=none)(z:SI tp s.heap i l k xs)(hx:xs[k]?=none)(hE:∀ g e,Heap.ExtBut i s.heap g->(∃ o,g.get? e=some o/\o.cls= .type "StopIteration")->E (.ref e) {s with heap:=g}):wpAny (model prog w) A (Builtin.SmallTypes.nextOf (.ref i)) Q E s:=by
 cases tp with
 | false=>exact wpAny_nextOf_list_end hh z.1 z.2 hx hE
 | true=>
  obtain ⟨z1,z2⟩:=z;obtain ⟨ob,hob,cob,dob⟩:=id z1;obtain ⟨ot,hot,_,nt,dt⟩:=id z2;have sn:=F.slot_tuple_iterator_next;simp only [Builtin.SmallTypes.nextOf];refine wpAny_bind (wpAny_callSpecial?_slot (name:=Str.ofString "__next__") z1.typeIs sn (wpAny_call_entry sn z1.typeIs F.entry_tuple_iterator_next ?_ (F.args_tuple_iterator_next_1 _)));refine wpAny_bind (m:=field (.ref i) 0) (wpAny_field hob dob (x:= .ref l) rfl (Me (c:=Value.ref l== .none) rfl ?_));refine wpAny_bind (m:=field (.ref i) 1) (wpAny_field hob dob (x:= .int k 0) rfl (wpAny_bind (m:=seqItems? (.ref l)) (wpAny_seqItems hot dt ?_)));simp only [hx,Int.toNat_natCast];refine wpAny_bind (wpAny_rule (wpAny_bind (wpAny_setField hob dob (by simp) ?_)));refine wpAny_bind (m:=newExc (.type "StopIteration") []) ?_;simp only [newExc,newTuple];refine wpAny_bind (wpAny_newObj_type (wpAny_bind (m:=firstArgMember _ _) (wpAny_of_eq (a:= .none) (by simp only [firstArgMember];rfl) (wpAny_newObj_type ?_ (by size_fits)))) (by size_fits));have nh:A.in1.handled=none:=hh;simp only [raiseNew];refine wpAny_bind (wpAny_handled (?_));rw [nh];exact wpAny_bind (wpAny_pure (wpAny_throw (hE _ _ (((Heap.SameBut.update ..).extBut.push _).push _) ⟨_,O3 _ rfl,rfl⟩)))
structure ZS(h:Heap)(z TI TO:Addr)(f0:Value)(t1:Bool)(i1 l1:Addr)(xs:Array Value)(t2:Bool)(i2 l2:Addr)(ys:Array Value)(k:Nat):Prop where
 zip:IsZip h z TI TO f0
 its:IsPair h TI (.ref i1) (.ref i2)
 out:∃ a b,IsPair h TO a b
 one:SI t1 h i1 l1 k xs
 two:SI t2 h i2 l2 k ys
theorem Eh{z TI TO i1 i2 l1 l2:Addr}(D:ZipApart z TI TO i1 i2 l1 l2)(S:ZS s.heap z TI TO .none t1 i1 l1 xs t2 i2 l2 ys k)(hx:xs[k]?=some x)(hy:ys[k]?=some y)(hQ:∀ g,ZS g z TI TO (rawInt s.heap.objs.size) t1 i1 l1 xs t2 i2 l2 ys (k + 1)->IsPair g s.heap.objs.size x y->g.objs.size=s.heap.objs.size + 1->
   (∀ c o,c≠z->c≠TO->c≠i1->c≠i2->s.heap.get? c=some o->g.get? c=some o)->Q (some (.ref s.heap.objs.size)) {s with heap:=g}):wpAny (model prog w) A (pyNext (.ref z)) Q E s:=by
 have hT:s.TypeIs (.ref z) "zip" :=⟨_,S.zip,rfl⟩;obtain ⟨a,b,So⟩:=S.out;simp only [pyNext];refine wpAny_bind (wpAny_attempt (wpAny_callSpecial?_slot (name:=Str.ofString "__next__") hT F.slot_zip_next (wpAny_call_entry F.slot_zip_next hT F.entry_zip_next ?_ (F.args_zip_next_1 _))));refine wpAny_bind (m:=field (.ref z) 2) (wpAny_field S.zip rfl (x:= .bool false) rfl (wpAny_bind (m:=field (.ref z) 3) (wpAny_field S.zip rfl (x:= .ref TI) rfl (wpAny_bind (wpAny_seqItems S.its rfl ?_)))));refine wpAny_bind (m:=Builtin.SmallTypes.ownedTupleIsFree (.ref z)) (wpAny_bind (m:=field (.ref z) 0) (wpAny_field S.zip rfl (x:= .none) rfl (wpAny_pure ?_)));simp only [if_true];refine wpAny_bind (wpAny_rule (wpAny_bind (wpAny_field S.zip rfl (x:= .ref TO) rfl (wpAny_bind (wpAny_setField_rec S.zip (by simp) fun g1 z1 s1=>wpAny_bind ?_)))));replace z1:IsZip g1 z TI TO .ellipsis:=z1;simp only [List.forIn_cons,List.forIn_nil,List.zipIdx_cons,List.zipIdx_nil];refine wpAny_bind (wpAny_bind (wpAny_onRaise (?_:wpAny _ _ (Builtin.SmallTypes.nextOf (.ref i1) >>=_) _ _ _)));refine wpAny_bind (Xc (S.one.but s1.extBut D.i1z D.l1z) D.l1i1 hx fun g2 a2 s2=>wpAny_pure ?_);have o2:IsPair g2 TO a b:=s2.extBut _ _ D.TOi1 (s1.extBut _ _ D.TOz So);refine wpAny_bind (wpAny_seqItems o2 rfl ?_);refine wpAny_bind (wpAny_updateSeq_pair o2 fun g3 o3 s3=>?_);replace o3:IsPair g3 TO x b:=o3;refine wpAny_bind (wpAny_letGo (wpAny_pure (wpAny_bind (wpAny_bind (wpAny_onRaise (?_:wpAny _ _ (Builtin.SmallTypes.nextOf (.ref i2) >>=_) _ _ _))))));have b3:SI t2 g3 i2 l2 k ys:=((S.two.but s1.extBut D.i2z D.l2z).but s2.extBut D.i12.symm D.l2i1).but s3.extBut D.TOi2.symm D.l2TO;refine wpAny_bind (Xc b3 D.l2i2 hy fun g4 b4 s4=>wpAny_pure ?_);have o4:IsPair g4 TO x b:=s4.extBut _ _ D.TOi2 o3;refine wpAny_bind (wpAny_seqItems o4 rfl ?_);refine wpAny_bind (wpAny_updateSeq_pair o4 fun g5 o5 s5=>?_);replace o5:IsPair g5 TO x y:=o5;refine wpAny_bind (wpAny_letGo (wpAny_pure (wpAny_pure (wpAny_bind (wpAny_seqItems o5 rfl (wpAny_bind (wpAny_newTuple ?_)))))));have sz:g5.objs.size=s.heap.objs.size:=by rw [s5.1,s4.1,s3.1,s2.1,s1.1]
 have z5:IsZip g5 z TI TO .ellipsis:=s5.extBut _ _ D.TOz.symm (s4.extBut _ _ D.i2z.symm (s3.extBut _ _ D.TOz.symm (s2.extBut _ _ D.i1z.symm z1)))
 have k5:∀ c o,c≠z->c≠TO->c≠i1->c≠i2->s.heap.get? c=some o->g5.get? c=some o:=fun c o c1 c2 c3 c4 e=>
  s5.extBut _ _ c2 (s4.extBut _ _ c4 (s3.extBut _ _ c2 (s2.extBut _ _ c3 (s1.extBut _ _ c1 e))))
 have a5:SI t1 g5 i1 l1 (k + 1) xs:=((a2.but s3.extBut D.TOi1.symm D.l1TO).but s4.extBut D.i12 D.l1i2).but s5.extBut D.TOi1.symm D.l1TO;have b5:SI t2 g5 i2 l2 (k + 1) ys:=b4.but s5.extBut D.TOi2.symm D.l2TO;have zlt:z < g5.objs.size:=Ow z5;show wpAny _ _ (Builtin.SmallTypes.ownedTupleHandOut (.ref z) (.ref g5.objs.size) >>=_) _ _ _;refine wpAny_bind ?_;simp only [Builtin.SmallTypes.ownedTupleHandOut];have z6:IsZip (g5.push {cls:= .type "tuple",data:= .seq #[x,y]}) z TI TO .ellipsis:=Oj _ z5;refine wpAny_bind (wpAny_setField_rec z6 (by simp) fun g7 z7 s7=>?_);replace z7:IsZip g7 z TI TO (rawInt g5.objs.size):=z7;refine wpAny_setField_rec z7 (by simp) fun g8 z8 s8=>?_;replace z8:IsZip g8 z TI TO (rawInt g5.objs.size):=z8;have up:∀ c o,c≠z->g5.get? c=some o->g8.get? c=some o:=fun c o c1 e=>s8.extBut _ _ c1 (s7.extBut _ _ c1 (Oj _ e));have t8:IsPair g8 g5.objs.size x y:=s8.extBut _ _ (Nat.ne_of_gt zlt) (s7.extBut _ _ (Nat.ne_of_gt zlt) (O3 _ rfl));have sz8:g8.objs.size=g5.objs.size + 1:=by rw [s8.1,s7.1,Heap.size_push]
 rw [sz] at z8 t8 sz8;refine wpAny_pure ⟨_,rfl,wpAny_pure ?_⟩;show Q (some (.ref g5.objs.size)) _;rw [sz];refine hQ g8 ⟨z8,up _ _ D.TIz (k5 _ _ D.TIz D.TITO D.TIi1 D.TIi2 S.its),⟨_,_,up _ _ D.TOz o5⟩,?_,?_⟩ t8 sz8 fun c o c1 c2 c3 c4 e=>up c o c1 (k5 c o c1 c2 c3 c4 e)
 .exact a5.to fun c o hc e=>up c o (hc.elim (fun q=>q ▸ D.i1z) fun q=>q ▸ D.l1z) e
 .exact b5.to fun c o hc e=>up c o (hc.elim (fun q=>q ▸ D.i2z) fun q=>q ▸ D.l2z) e
theorem Iw{z TI TO i1 i2 l1 l2:Addr}(hh:A.handled=none)(D:ZipApart z TI TO i1 i2 l1 l2)(S:ZS s.heap z TI TO .none t1 i1 l1 xs t2 i2 l2 ys k)(hend:xs[k]?=none \/ ys[k]?=none)(hQ:∀ g,(∀ c o,c≠z->c≠TO->c≠i1->c≠i2->s.heap.get? c=some o->g.get? c=some o)->Q none {s with heap:=g}):wpAny (model prog w) A (pyNext (.ref z)) Q E s:=by
 have hT:s.TypeIs (.ref z) "zip" :=⟨_,S.zip,rfl⟩;obtain ⟨a,b,So⟩:=S.out;have stop:∀ (g:Heap) (e:Addr),(∀ c o,c≠z->c≠TO->c≠i1->c≠i2->s.heap.get? c=some o->g.get? c=some o)->(∃ o,g.get? e=some o/\o.cls= .type "StopIteration")->
   wpAny (model prog w) A (do if (<-isInstance (.ref e) (.type "StopIteration")) then pure none else throw (.ref e):Sem (Option Value)) Q E {s with heap:=g}:=fun g e kp ⟨o,ho,hc⟩=>
  wpAny_bind (wpAny_isInstance (T:="StopIteration") (b:=true) ⟨o,ho,hc⟩ isSubtype_stop (wpAny_pure (hQ g kp)))
 simp only [pyNext];refine wpAny_bind (wpAny_attempt (wpAny_callSpecial?_slot (name:=Str.ofString "__next__") hT F.slot_zip_next (wpAny_call_entry F.slot_zip_next hT F.entry_zip_next ?_ (F.args_zip_next_1 _))));refine wpAny_bind (m:=field (.ref z) 2) (wpAny_field S.zip rfl (x:= .bool false) rfl (wpAny_bind (m:=field (.ref z) 3) (wpAny_field S.zip rfl (x:= .ref TI) rfl (wpAny_bind (wpAny_seqItems S.its rfl ?_)))));refine wpAny_bind (m:=Builtin.SmallTypes.ownedTupleIsFree (.ref z)) (wpAny_bind (m:=field (.ref z) 0) (wpAny_field S.zip rfl (x:= .none) rfl (wpAny_pure ?_)));simp only [if_true];refine wpAny_bind (wpAny_rule (wpAny_bind (wpAny_field S.zip rfl (x:= .ref TO) rfl (wpAny_bind (wpAny_setField_rec S.zip (by simp) fun g1 z1 s1=>wpAny_bind ?_)))));replace z1:IsZip g1 z TI TO .ellipsis:=z1;simp only [List.forIn_cons,List.forIn_nil,List.zipIdx_cons,List.zipIdx_nil];refine wpAny_bind (wpAny_bind (wpAny_onRaise (?_:wpAny _ _ (Builtin.SmallTypes.nextOf (.ref i1) >>=_) _ _ _)))
 cases hx:xs[k]? with
 | none=>
  refine wpAny_bind (Rg hh (S.one.but s1.extBut D.i1z D.l1z) hx fun g2 e e2 he=>?_);obtain ⟨oe,hoe,hce⟩:=he;have z2:IsZip g2 z TI TO .ellipsis:=e2 _ _ D.i1z.symm z1;have hez:e≠z:=fun q=>by subst q;rw [z2] at hoe;cases hoe;simp at hce
  refine wpAny_setField_rec z2 (by simp) fun g3 _ s3=>?_;exact stop g3 e (fun c o c1 _ c3 _ q=>s3.extBut _ _ c1 (e2 _ _ c3 (s1.extBut _ _ c1 q))) ⟨oe,s3.extBut _ _ hez hoe,hce⟩
 | some x=>
  have hy:ys[k]?=none:=by rcases hend with q | q;rw [hx] at q;cases q;exact q
  refine wpAny_bind (Xc (S.one.but s1.extBut D.i1z D.l1z) D.l1i1 hx fun g2 a2 s2=>wpAny_pure ?_);have o2:IsPair g2 TO a b:=s2.extBut _ _ D.TOi1 (s1.extBut _ _ D.TOz So);refine wpAny_bind (wpAny_seqItems o2 rfl ?_);refine wpAny_bind (wpAny_updateSeq_pair o2 fun g3 o3 s3=>?_);refine wpAny_bind (wpAny_letGo (wpAny_pure (wpAny_bind (wpAny_bind (wpAny_onRaise (?_:wpAny _ _ (Builtin.SmallTypes.nextOf (.ref i2) >>=_) _ _ _))))));have b3:SI t2 g3 i2 l2 k ys:=((S.two.but s1.extBut D.i2z D.l2z).but s2.extBut D.i12.symm D.l2i1).but s3.extBut D.TOi2.symm D.l2TO;refine wpAny_bind (Rg hh b3 hy fun g4 e e4 he=>?_);obtain ⟨oe,hoe,hce⟩:=he;have z4:IsZip g4 z TI TO .ellipsis:=e4 _ _ D.i2z.symm (s3.extBut _ _ D.TOz.symm (s2.extBut _ _ D.i1z.symm z1));have hez:e≠z:=fun q=>by subst q;rw [z4] at hoe;cases hoe;simp at hce
  refine wpAny_setField_rec z4 (by simp) fun g5 _ s5=>?_;exact stop g5 e (fun c o c1 c2 c3 c4 q=>s5.extBut _ _ c1 (e4 _ _ c4 (s3.extBut _ _ c2 (s2.extBut _ _ c3 (s1.extBut _ _ c1 q))))) ⟨oe,s5.extBut _ _ hez hoe,hce⟩
def Wk(tp:Bool)(h:Heap)(l:Addr)(xs:Array Value):Prop:=match tp with
 | false=>h.IsList l xs
 | true=>h.IsTuple l xs
def VH(tp:Bool)(l:Addr):Obj:={cls:= .type (if tp then "tuple_iterator" else "list_iterator"),data:= .fields #[.ref l, .int 0 0]}
theorem XW(h:Wk tp s.heap l xs)(q:Q (.ref s.heap.objs.size) {s with heap:=s.heap.push (VH tp l)}):wpAny (model prog w) A (pyIter (.ref l)) Q E s:=by
 cases tp with
 | false=>exact wpAny_pyIter_list h q
 | true=>exact wpAny_pyIter_tuple h q
theorem Wk.push(z:Wk tp h l xs)(o:Obj):Wk tp (h.push o) l xs:=by
 cases tp with
 | false=>exact Heap.IsList.push z o
 | true=>exact Heap.IsTuple.push z o
end
abbrev zg1(h:Heap)(t1:Bool)(l1:Addr):Heap:=h.push (VH t1 l1)
abbrev zg2(h:Heap)(t1:Bool)(l1:Addr)(t2:Bool)(l2:Addr):Heap:=(zg1 h t1 l1).push (VH t2 l2)
abbrev zg3(h:Heap)(t1:Bool)(l1:Addr)(t2:Bool)(l2:Addr):Heap:=(zg2 h t1 l1 t2 l2).push {cls:= .type "tuple",data:= .seq #[.ref h.objs.size, .ref (zg1 h t1 l1).objs.size]}
abbrev zg4(h:Heap)(t1:Bool)(l1:Addr)(t2:Bool)(l2:Addr):Heap:=(zg3 h t1 l1 t2 l2).push {cls:= .type "tuple",data:= .seq #[.none, .none]}
abbrev zg5(h:Heap)(t1:Bool)(l1:Addr)(t2:Bool)(l2:Addr):Heap:=(zg4 h t1 l1 t2 l2).push {cls:= .type "zip",data:= .fields #[.none, .bool false, .bool false, .ref (zg2 h t1 l1 t2 l2).objs.size, .ref (zg3 h t1 l1 t2 l2).objs.size]}
theorem RQ(t1 t2:Bool)(l1 l2:Addr)(xs ys:Array Value):
  Meets (Builtin.«zip.__new__» ⟨[.type "zip", .ref l1, .ref l2], []⟩) (fun _ R s=>Wk t1 s.heap l1 xs/\Wk t2 s.heap l2 ys/\
   R (.ok (.ret (.ref (zg4 s.heap t1 l1 t2 l2).objs.size))) {s with heap:=zg5 s.heap t1 l1 t2 l2}):=
 .of_wp fun prog w A R s h=>by
  obtain ⟨hp,g,d,tk,os⟩:=s;obtain ⟨h1,h2,h⟩:=h;have hsub:=sub_zip;have k1:Wk t1 (Shared.heap ⟨hp,g,d,tk,os⟩) l1 xs:=h1;have k2:Wk t2 (Shared.heap ⟨hp.push (VH t1 l1),g,d,tk,os⟩) l2 ys:=Wk.push h2 _
  wp_walk using XW k1,XW k2
  exact ⟨_,rfl,h⟩
end L2
namespace L2
open PySem PySem.Spec PyProof.Rows
def SJ(tp:Bool)(h:Heap)(i l:Addr)(k:Nat):Prop:=match tp with
 | false=>h.IsListIter i l k
 | true=>h.IsTupleIter i l k
theorem SJ.si(z:SJ tp h i l k)(c:Wk tp h l xs):SI tp h i l k xs:=by
 cases tp <;> exact ⟨z,c⟩
theorem SI.sj(z:SI tp h i l k xs):SJ tp h i l k:=by
 cases tp <;> exact z.1
theorem SJ.to(z:SJ tp h i l k)(kp:∀ o,h.get? i=some o->h'.get? i=some o):SJ tp h' i l k:=by
 cases tp with
 | false=>exact let ⟨o,e,r⟩:=z;⟨o,kp _ e,r⟩
 | true=>exact let ⟨o,e,r⟩:=z;⟨o,kp _ e,r⟩
theorem SJ.obj(z:SJ tp h i l k):∃ o,h.get? i=some o/\∀ v,o.data≠ .cell v:=by
 cases tp with
 | false=>obtain ⟨o,e,_,d⟩:=z;exact ⟨o,e,fun v q=>by rw [d] at q;cases q⟩
 | true=>obtain ⟨o,e,_,d⟩:=z;exact ⟨o,e,fun v q=>by rw [d] at q;cases q⟩
theorem SJ.new(tp:Bool)(h:Heap)(l:Addr):SJ tp (h.push (VH tp l)) h.objs.size l 0:=by
 cases tp <;> exact ⟨_,O3 _ rfl,rfl,rfl⟩
structure ZR(h:Heap)(z TI TO:Addr)(t1:Bool)(i1 l1:Addr)(t2:Bool)(i2 l2:Addr)(k:Nat):Prop where
 zip:IsZip h z TI TO .none
 its:IsPair h TI (.ref i1) (.ref i2)
 out:∃ a b,IsPair h TO a b
 one:SJ t1 h i1 l1 k
 two:SJ t2 h i2 l2 k
section
theorem ET(h1:Wk t1 s.heap l1 xs)(h2:Wk t2 s.heap l2 ys)(h:∀ g,ZR g (s.heap.objs.size + 4) (s.heap.objs.size + 2) (s.heap.objs.size + 3) t1 s.heap.objs.size l1 t2 (s.heap.objs.size + 1) l2 0->
   (∀ c o,s.heap.get? c=some o->g.get? c=some o)->Q (.ref (s.heap.objs.size + 4)) {s with heap:=g}):wpAny (model prog w) A (call (.type "zip") [.ref l1, .ref l2]) Q E s:=by
 refine callType_new F.called_zip (by decide) (F.typeCall_zip_2 _ _) (F.newCall_zip_2 _ _) (fun obj=>F.args_object_init_3 obj _ _) F.entry_zip_new (RQ t1 t2 l1 l2 xs ys) ⟨h1,h2,?_⟩;have e1:(zg1 s.heap t1 l1).objs.size=s.heap.objs.size + 1:=Heap.size_push ..;have e2:(zg2 s.heap t1 l1 t2 l2).objs.size=s.heap.objs.size + 2:=by rw [Heap.size_push,e1]
 have e3:(zg3 s.heap t1 l1 t2 l2).objs.size=s.heap.objs.size + 3:=by rw [Heap.size_push,e2]
 have e4:(zg4 s.heap t1 l1 t2 l2).objs.size=s.heap.objs.size + 4:=by rw [Heap.size_push,e3]
 have p5:(zg5 s.heap t1 l1 t2 l2).get? (zg4 s.heap t1 l1 t2 l2).objs.size=some _:=O3 _ rfl;have p4:(zg5 s.heap t1 l1 t2 l2).get? (zg3 s.heap t1 l1 t2 l2).objs.size=some _:=Oj _ (O3 _ rfl);have p3:(zg5 s.heap t1 l1 t2 l2).get? (zg2 s.heap t1 l1 t2 l2).objs.size=some _:=Oj _ (Oj _ (O3 _ rfl));have p2:SJ t2 (zg5 s.heap t1 l1 t2 l2) (zg1 s.heap t1 l1).objs.size l2 0:=(SJ.new t2 (zg1 s.heap t1 l1) l2).to fun o q=>Oj _ (Oj _ (Oj _ q));have p1:SJ t1 (zg5 s.heap t1 l1 t2 l2) s.heap.objs.size l1 0:=(SJ.new t1 s.heap l1).to fun o q=>Oj _ (Oj _ (Oj _ (Oj _ q)));show _/\_;rw [e2,e3,e4] at p5;rw [e1,e2] at p3;rw [e3] at p4;rw [e1] at p2;rw [e4]
 exact ⟨⟨_,p5,rfl⟩,h _ ⟨p5,p3,⟨_,_,p4⟩,p1,p2⟩ fun c o q=>
  Oj _ (Oj _ (Oj _ (Oj _ (Oj _ q))))⟩
end
def Sq(K:W.Frag)(tp:Bool)(H:Hp)(l:Addr)(xs:List V):Prop:=match tp with
 | false=>SqL K H l xs
 | true=>SqT K H l xs
theorem Inv.sq(I:Inv X pins U H s)(h:Sq X.K tp H l xs):∃ its:List Value,Vals xs its/\Wk tp s.heap l its.toArray:=by
 cases tp with
 | false=>
  obtain ⟨its,r,p,_⟩:=I.list h;exact ⟨its,r,p.isList⟩
 | true=>
  obtain ⟨its,r,p,_⟩:=I.tuple h;exact ⟨its,r,p⟩
theorem Inv.sq_inj(I:Inv X pins U H s)(h:Sq X.K tp H l xs)(h':Sq X.K tp H l ys):xs=ys:=by
 cases tp with
 | false=>exact I.list_inj h h'
 | true=>exact I.tuple_inj h h'
theorem Wk.lt(z:Wk tp h l xs):l < h.objs.size:=by
 cases tp with
 | false=>obtain ⟨_,e,_⟩:=z;exact Ow e
 | true=>obtain ⟨_,e,_⟩:=z;exact Ow e
def Itz(K:W.Frag)(t1:Bool)(l1:Addr)(t2:Bool)(l2:Addr):It:=
  ⟨fun i H=> ∃ xs ys x y,Sq K t1 H l1 xs/\Sq K t2 H l2 ys/\xs[i]?=some x/\ys[i]?=some y,
   fun i H v H'=> ∃ p x y,v= .ref p/\H p=none/\H'=upd H p (.tup [x,y])/\(∀ xs,Sq K t1 H l1 xs->xs[i]?=some x)/\∀ ys,Sq K t2 H l2 ys->ys[i]?=some y,
   fun i H=> ∃ xs ys,Sq K t1 H l1 xs/\Sq K t2 H l2 ys/\(xs.length<=i \/ ys.length<=i)⟩
end L2
namespace L2
open PySem PySem.Spec PyProof.Rows
theorem BM:bootBuiltins "zip" =some (.type "zip"):=by decide +kernel
theorem Inv.turnedL{ch:List Addr}(I:Inv X pins U H s)(k:∀ b o,b ∉ ch->s.heap.get? b=some o->h'.get? b=some o)(f:∀ b∈ch,Ve X pins H b):
  Inv X pins U H {s with heap:=h',toks:=t'}:=by
 have ne:∀ b u,H b=some u->b ∉ ch:=fun b u e z=>by rw [(f b z).1] at e;cases e
 have nl:X.env.locals ∉ ch:=fun z=>(f _ z).2.1 rfl;refine I.step (g':=s.gens) (d':=s.drawn) (ch:=ch) (fun b hb=>⟨(f b hb).2.2.2.1,(f b hb).2.1,(f b hb).2.2.2.2.1,(f b hb).2.2.2.2.2⟩) (fun b o _ _ hc e _=>k b o hc e) (fun b o _ _ hc e _=>⟨o.slots,k b o hc e⟩) (fun _ _ _ _ n=>n)
  (fun b o hc e=>⟨o,k b o hc e⟩) (fun _ _ e=>e) (fun _ _ _ e=>e) (fun b ps e=>⟨#[],by rw [e];simp⟩) (fun m hm=>?_) (fun b u e=>?_) I.bare
 .obtain ⟨o,es,ep,ho,r⟩:=hm
  exact ⟨o,es,ep,k _ o nl ho,r⟩
 .refine (I.hok b u e).stay (fun c v hc q=>k c v ?_ q) (fun _ q=>q) fun _ _ q=>q
  rcases hc with z | z
  .rw [z];exact ne b u e
  .exact ne c _ z
theorem Lo{a b c d x:Addr}(h:x∈ [a,b,c,d]):x=a \/ x=b \/ x=c \/ x=d:=by simpa using h
theorem BR{P:Program}{w:World}{K:W.Frag}{elts:List Expr}{x1}{pos:Pos}{z TI TO i1 i2 l1 l2:Addr}{t1 t2:Bool}(D:ZipApart z TI TO i1 i2 l1 l2):
  Turn P w K (.Tuple elts x1 pos) (Itz K t1 l1 t2 l2) [z,TO,i1,i2,TI] z (fun i h=>ZR h z TI TO t1 i1 l1 t2 i2 l2 i) where
 mem:=by simp
 obj:=fun i h st b hb=>by
  have q:b=z \/ b=TO \/ b=i1 \/ b=i2 \/ b=TI:=by simpa using hb
  rcases q with q | q | q | q | q <;> rw [q]
  .exact ⟨_,st.zip,fun v e=>nomatch e⟩
  .obtain ⟨a,b,e⟩:=st.out
   exact ⟨_,e,fun v e=>nomatch e⟩
  .exact st.one.obj
  .exact st.two.obj
  .exact ⟨_,st.its,fun v e=>nomatch e⟩
 keep:=fun i h h' st k=>⟨k z (by simp) _ st.zip,k TI (by simp) _ st.its,let ⟨a,b,e⟩:=st.out;⟨a,b,k TO (by simp) _ e⟩,st.one.to fun o e=>k i1 (by simp) o e,st.two.to fun o e=>k i2 (by simp) o e⟩
 item:=by
  intro X hP hw hK hc i pins s U H E I hf st hg;subst hP hw hK;obtain ⟨xs,ys,x,y,q1,q2,hx,hy⟩:=hg;obtain ⟨its1,r1,w1⟩:=I.sq q1;obtain ⟨its2,r2,w2⟩:=I.sq q2;obtain ⟨u1,hu1,ru1⟩:=r1.get hx;obtain ⟨u2,hu2,ru2⟩:=r2.get hy;refine Eh D ⟨st.zip,st.its,st.out,st.one.si w1,st.two.si w2⟩ (x:=u1) (y:=u2) (by simpa using hu1) (by simpa using hu2) fun g S' hp sz kp=>?_
  have f:∀ b∈ [z,TO,i1,i2],Ve X pins H b:=fun b hb=>hf b (by
   rcases Lo hb with q | q | q | q <;> rw [q] <;> simp)
  have kp':∀ b o,b ∉ [z,TO,i1,i2]->s.heap.get? b=some o->g.get? b=some o:=fun b o hb e=>kp b o (fun q=>hb (by simp [q])) (fun q=>hb (by simp [q])) (fun q=>hb (by simp [q])) (fun q=>hb (by simp [q])) e;have I1:Inv X pins U H {s with heap:=g}:=I.turnedL (t':=s.toks) kp' f;have hn:H s.heap.objs.size=none:=I.hok.fresh (Om _);have zlt:z < s.heap.objs.size:=Ow st.zip;refine ⟨_,rfl,?_⟩;refine wpAny_letOwnedTupleGo_zip (s:={s with heap:=g}) S'.zip fun g2 z2 s2=>?_
  have I2:Inv X pins U H {s with heap:=g2}:=I1.turnedL (s:={s with heap:=g}) (t':=s.toks) (ch:= [z]) (fun b o hb e=>s2.extBut b o (fun q=>hb (by simp [q])) e) fun b hb=>by
   have q:b=z:=by simpa using hb
   rw [q];exact f z (by simp)
  have pg2:IsPair g2 s.heap.objs.size u1 u2:=s2.extBut _ _ (Nat.ne_of_gt zlt) hp;have I3:Inv X pins U (upd H s.heap.objs.size (.tup [x,y])) {s with heap:=g2}:=I2.retrack hn (I.fpOk (Om _) hn) ⟨sl 2, [u1,u2], .cons ru1 (.cons ru2 .nil),⟨_,pg2,rfl,rfl,_,rfl⟩⟩
  have ltf:∀ b∈ [z,TO,i1,i2,TI],b < s.heap.objs.size:=fun b hb=>by
   have q:b=z \/ b=TO \/ b=i1 \/ b=i2 \/ b=TI:=by simpa using hb
   rcases q with q | q | q | q | q <;> rw [q]
   .exact zlt
   .obtain ⟨a,b,e⟩:=st.out
    exact Ow e
   .obtain ⟨o,e,_⟩:=st.one.obj
    exact Ow e
   .obtain ⟨o,e,_⟩:=st.two.obj
    exact Ow e
   .exact Ow st.its
  refine ⟨.ref s.heap.objs.size,_,I3,rfl,⟨_,x,y,rfl,hn,rfl,fun zs h=>by rw [I.sq_inj h q1];exact hx,fun zs h=>by rw [I.sq_inj h q2];exact hy⟩,?_,fun b hb=>?_⟩
  .refine ⟨z2,s2.extBut _ _ D.TIz S'.its,let ⟨a,b,e⟩:=S'.out;⟨a,b,s2.extBut _ _ D.TOz e⟩,S'.one.sj.to fun o e=>s2.extBut _ _ D.i1z e,S'.two.sj.to fun o e=>s2.extBut _ _ D.i2z e⟩
  .rw [ZE (O9 (ltf b hb))]
   exact (hf b hb).1
 done:=by
  intro X hP hw hK hc i pins s U H E I hf st hg;subst hP hw hK;obtain ⟨xs,ys,q1,q2,hend⟩:=hg;obtain ⟨its1,r1,w1⟩:=I.sq q1;obtain ⟨its2,r2,w2⟩:=I.sq q2;have e1:=r1.length;have e2:=r2.length;refine Iw (I.ok.hd hc) D ⟨st.zip,st.its,st.out,st.one.si w1,st.two.si w2⟩ ?_ fun g kp=>⟨rfl,?_⟩
  .rcases hend with q | q
   .exact .inl (by simp;omega)
   .exact .inr (by simp;omega)
  .refine I.turnedL (t':=s.toks) (ch:= [z,TO,i1,i2]) (fun b o hb e=>kp b o (fun q=>hb (by simp [q])) (fun q=>hb (by simp [q])) (fun q=>hb (by simp [q])) (fun q=>hb (by simp [q])) e) fun b hb=>hf b (by
    rcases Lo hb with q | q | q | q <;> rw [q] <;> simp)
 self:=fun _ _ _ _ _ st h=>wpAny_pyIter_zip st.zip h
theorem zap(n l1 l2:Nat)(h1:l1 < n)(h2:l2 < n):ZipApart (n + 4) (n + 2) (n + 3) n (n + 1) l1 l2:=by
 constructor <;> (intro q;have q':(_:Nat)=_:=q;omega)
def OT(K:W.Frag)(ta:TA):TI:=fun U H R=>ta U H fun vs H1=> ∃ a b t1 t2 xs ys,vs= [.ref a, .ref b]/\Sq K t1 H1 a xs/\Sq K t2 H1 b ys/\R (Itz K t1 a t2 b) H1
theorem Kc(hg:Gl X "zip")(hm:X.mg "zip" =none)(ha:PA X [a,b] ta)(hs:starEach [a,b] X.env= [(false,eval a X.env),(false,eval b X.env)]:=by rfl)(hs2:starEach [b] X.env= [(false,eval b X.env)]:=by rfl):PI X (.Tuple elts x1 tpos) (.Call (.Name "zip" p) [a,b] [] pos) (OT X.K ta):=by
 intro pins s U H R I h;refine Call_ (Uw I hg hm BM (PyProof.Rows.callWith_type1 (thn (ha pos pins s U H _ I h) fun us s1 ⟨vs,H1,I1,r1,q1⟩=>?_) (by rw [hs,hs2]) (by rw [hs2];rfl)));obtain ⟨l1,l2,t1,t2,xs,ys,e,q1,q2,q⟩:=q1;subst e;obtain ⟨u,w',rfl,ru,rw'⟩:=vals2 r1;cases ru;cases rw';obtain ⟨its1,rr1,w1⟩:=I1.sq q1;obtain ⟨its2,rr2,w2⟩:=I1.sq q2;have n1:=w1.lt;have n2:=w2.lt;refine ET w1 w2 fun g S kp=>?_;refine wpAny_pyIter_zip (s:={s1 with heap:=g}) S.zip ?_;have D:=zap _ _ _ n1 n2;have I2:Inv X pins U H1 {s1 with heap:=g}:=I1.kept (t':=s1.toks) kp;refine ⟨_, [s1.heap.objs.size + 4,s1.heap.objs.size + 3,s1.heap.objs.size,s1.heap.objs.size + 1,s1.heap.objs.size + 2],_,_,H1,rfl,I2,BR D,S,fun b hb=>?_,q⟩
 have hb':s1.heap.objs.size<=b:=by
  have z:b=s1.heap.objs.size + 4 \/ b=s1.heap.objs.size + 3 \/ b=s1.heap.objs.size \/ b=s1.heap.objs.size + 1 \/ b=s1.heap.objs.size + 2:=by simpa using hb
  rcases z with z | z | z | z | z <;> rw [z] <;> first | exact Om _ | exact Nat.le_add_right _ _
 exact I1.fpOk hb' (I1.hok.fresh hb')
end L2
namespace L2
open PySem PySem.Spec PyProof.Rows
inductive Dat where
 | non | bl (b:Bool) | int (i:Int) | str (x:Str) | tup (ds:List Dat) | lst (ds:List Dat)
mutual
def Dat.beq:Dat->Dat->Bool
 | .non, .non=>true
 | .bl a, .bl b=>a==b
 | .int a, .int b=>a==b
 | .str a, .str b=>a==b
 | .tup a, .tup b=>Dat.beqs a b
 | .lst a, .lst b=>Dat.beqs a b
 | _,_=>false
def Dat.beqs:List Dat->List Dat->Bool
 | [], []=>true
 | a::as,b::bs=>Dat.beq a b && Dat.beqs as bs
 | _,_=>false
end
mutual
theorem Dat.beq_self:∀ a:Dat,a.beq a=true
 | .non=>by unfold Dat.beq;rfl
 | .bl b=>by unfold Dat.beq;exact beq_self_eq_true b
 | .int i=>by unfold Dat.beq;exact beq_self_eq_true i
 | .str x=>by unfold Dat.beq;exact beq_self_eq_true x
 | .tup ds=>by unfold Dat.beq;exact Dat.beqs_self ds
 | .lst ds=>by unfold Dat.beq;exact Dat.beqs_self ds
theorem Dat.beqs_self:∀ a:List Dat,Dat.beqs a a=true
 | []=>by unfold Dat.beqs;rfl
 | a::as=>by unfold Dat.beqs;rw [Dat.beq_self a,Dat.beqs_self as];rfl
end
mutual
def Has(H:Hp):V->Dat->Prop
 | v, .non=>v= .non
 | v, .bl b=>v= .bl b
 | v, .int i=>v= .int i
 | v, .str x=>v= .str x
 | v, .tup ds=> ∃ a xs,v= .ref a/\H a=some (.tup xs)/\HasL H xs ds
 | v, .lst ds=> ∃ a xs,v= .ref a/\H a=some (.lst xs)/\HasL H xs ds
def HasL(H:Hp):List V->List Dat->Prop
 | [], []=>True
 | x::xs,d::ds=>Has H x d/\HasL H xs ds
 | _::_, []=>False
 | [],_::_=>False
end
mutual
theorem Has.mono{H H':Hp}(e:Same H H'):∀ (d:Dat) {v:V},Has H v d->Has H' v d
 | .non,_,h=>by unfold Has at h |-;exact h
 | .bl _,_,h=>by unfold Has at h |-;exact h
 | .int _,_,h=>by unfold Has at h |-;exact h
 | .str _,_,h=>by unfold Has at h |-;exact h
 | .tup ds,_,h=>by
  unfold Has at h |-;obtain ⟨a,xs,h1,h2,h3⟩:=h;exact ⟨a,xs,h1,e _ _ h2,HasL.mono e ds h3⟩
 | .lst ds,_,h=>by
  unfold Has at h |-;obtain ⟨a,xs,h1,h2,h3⟩:=h;exact ⟨a,xs,h1,e _ _ h2,HasL.mono e ds h3⟩
theorem HasL.mono{H H':Hp}(e:Same H H'):∀ (ds:List Dat) {xs:List V},HasL H xs ds->HasL H' xs ds
 | [], [],h=>by unfold HasL;trivial
 | [],_::_,h=>by unfold HasL at h;exact h.elim
 | _::_, [],h=>by unfold HasL at h;exact h.elim
 | d::ds,x::xs,h=>by
  unfold HasL at h |-;exact ⟨Has.mono e d h.1,HasL.mono e ds h.2⟩
end
theorem HasL.length:∀ {ds:List Dat}{xs:List V},HasL H xs ds->xs.length=ds.length
 | [], [],h=>rfl
 | [],_::_,h=>by unfold HasL at h;exact h.elim
 | _::_, [],h=>by unfold HasL at h;exact h.elim
 | d::ds,x::xs,h=>by
  unfold HasL at h;rw [PB,PB,HasL.length h.2]
theorem HasL.get:∀ {ds:List Dat}{xs:List V}{i:Nat}{x:V},HasL H xs ds->xs[i]?=some x->∃ d,ds[i]?=some d/\Has H x d
 | [], [],i,x,h,e=>by simp at e
 | [],_::_,_,_,h,_=>by unfold HasL at h;exact h.elim
 | _::_, [],_,_,h,_=>by unfold HasL at h;exact h.elim
 | d::ds,y::xs,0,x,h,e=>by
  unfold HasL at h;have e':some y=some x:=e;cases e';exact ⟨d,rfl,h.1⟩
 | d::ds,y::xs,i + 1,x,h,e=>by
  unfold HasL at h;exact HasL.get (i:=i) h.2 e
theorem HasL.append:∀ {ds es:List Dat}{xs ys:List V},HasL H xs ds->HasL H ys es->HasL H (xs++ ys) (ds++ es)
 | [],_, [],_,_,h=>h
 | [],_,_::_,_,h,_=>by unfold HasL at h;exact h.elim
 | _::_,_, [],_,h,_=>by unfold HasL at h;exact h.elim
 | d::ds,es,x::xs,ys,h,h'=>by
  unfold HasL at h;show HasL H (x::(xs++ ys)) (d::(ds++ es));unfold HasL;exact ⟨h.1,HasL.append h.2 h'⟩
theorem HasL.one(h:Has H x d):HasL H [x] [d]:=by
 unfold HasL;exact ⟨h,by unfold HasL;trivial⟩
theorem HasL.nil:HasL H [] []:=by unfold HasL;trivial
theorem HasL.cons(h:Has H x d)(t:HasL H xs ds):HasL H (x::xs) (d::ds):=by
 unfold HasL;exact ⟨h,t⟩
mutual
theorem Has.inj{H:Hp}:∀ (d d':Dat) {v:V},Has H v d->Has H v d'->d=d'
 | .non,d',_,h,h'=>by
  unfold Has at h;subst h;cases d' <;> unfold Has at h' <;> first | (obtain ⟨_,_,q,_⟩:=h';cases q;done) | rfl | (cases h';done)
 | .bl _,d',_,h,h'=>by
  unfold Has at h;subst h;cases d' <;> unfold Has at h' <;> first | (obtain ⟨_,_,q,_⟩:=h';cases q;done) | (cases h';done) | (cases h';rfl)
 | .int _,d',_,h,h'=>by
  unfold Has at h;subst h;cases d' <;> unfold Has at h' <;> first | (obtain ⟨_,_,q,_⟩:=h';cases q;done) | (cases h';done) | (cases h';rfl)
 | .str _,d',_,h,h'=>by
  unfold Has at h;subst h;cases d' <;> unfold Has at h' <;> first | (obtain ⟨_,_,q,_⟩:=h';cases q;done) | (cases h';done) | (cases h';rfl)
 | .tup ds,d',_,h,h'=>by
  unfold Has at h;obtain ⟨a,xs,h1,h2,h3⟩:=h;subst h1
  cases d' with
  | tup es=>
   unfold Has at h';obtain ⟨b,ys,e1,e2,e3⟩:=h';cases e1;rw [h2] at e2;cases e2;rw [HasL.inj ds es h3 e3]
  | lst es=>
   unfold Has at h';obtain ⟨b,ys,e1,e2,e3⟩:=h';cases e1;rw [h2] at e2;cases e2
  | _=>unfold Has at h';cases h'
 | .lst ds,d',_,h,h'=>by
  unfold Has at h;obtain ⟨a,xs,h1,h2,h3⟩:=h;subst h1
  cases d' with
  | lst es=>
   unfold Has at h';obtain ⟨b,ys,e1,e2,e3⟩:=h';cases e1;rw [h2] at e2;cases e2;rw [HasL.inj ds es h3 e3]
  | tup es=>
   unfold Has at h';obtain ⟨b,ys,e1,e2,e3⟩:=h';cases e1;rw [h2] at e2;cases e2
  | _=>unfold Has at h';cases h'
theorem HasL.inj{H:Hp}:∀ (ds es:List Dat) {xs:List V},HasL H xs ds->HasL H xs es->ds=es
 | [], [],_,_,_=>rfl
 | [],_::_,xs,h,h'=>by
  cases xs <;> unfold HasL at h h'
  .exact h'.elim
  .exact h.elim
 | _::_, [],xs,h,h'=>by
  cases xs <;> unfold HasL at h h'
  .exact h.elim
  .exact h'.elim
 | d::ds,e::es,xs,h,h'=>by
  cases xs with
  | nil=>unfold HasL at h;exact h.elim
  | cons x xs=>
   unfold HasL at h h';rw [Has.inj d e h.1 h'.1,HasL.inj ds es h.2 h'.2]
end
theorem D4{K:W.Frag}:∀ {d:Dat},Has H v d->UL K H v (.type (match d with | .non=>"NoneType" | .bl _=>"bool" | .int _=>"int" | .str _=>"str" | .tup _=>"tuple" | .lst _=>"list"))
 | .non,h=>by unfold Has at h;subst h;exact .non
 | .bl _,h=>by unfold Has at h;subst h;exact .bl _
 | .int _,h=>by unfold Has at h;subst h;exact .int _
 | .str _,h=>by unfold Has at h;subst h;exact .str _
 | .tup _,h=>by unfold Has at h;obtain ⟨a,xs,rfl,e,_⟩:=h;exact .tup e
 | .lst _,h=>by unfold Has at h;obtain ⟨a,xs,rfl,e,_⟩:=h;exact .lst e
theorem J3{K:PySem.W.Frag}{a:Addr}{xs:List V}{g:TG}{tb:TS}{D:Ends}{U:St}{H:Hp}(Pv:Nat->St->Hp->Prop)(h0:Pv 0 U H)(hl:∀ i U H,i<=xs.length->Pv i U H->SqL K H a xs)(hs:∀ (B:St->Hp->Prop) (R:VK) i x U H,xs[i]?=some x->Pv i U H->g x U H fun σ2 H2=>tb {nx:=Pv (i + 1),rt:=R,bk:=B,ct:=Pv (i + 1)} σ2 H2)(hd:∀ U H,Pv xs.length U H->D.nx U H):
  ∃ W:Nat->Nat->St->Hp->Prop,(∃ m,W 0 m U H)/\∀ i m U H,W i m U H->
   ((Itl K a).stop i H/\D.nx U H) \/ ((Itl K a).go i H/\∃ N:St->Hp->Prop,(∀ U' H',N U' H'->∃ m',m' < m/\W (i + 1) m' U' H')/\∀ x H',(Itl K a).yld i H x H'->g x U H' fun σ2 H2=>tb {D with nx:=N,ct:=N,bk:=D.nx} σ2 H2):=
 EF Pv h0 hl (fun i x U H hx p=>hs _ _ i x U H hx p) hd
theorem Uy{K:PySem.W.Frag}{a:Addr}{xs:List V}{g:TG}{tb:TS}{D:Ends}{U:St}{H:Hp}(Pv:Nat->St->Hp->Prop)(h0:Pv 0 U H)(hl:∀ i U H,i<=xs.length->Pv i U H->SqT K H a xs)(hs:∀ (B:St->Hp->Prop) (R:VK) i x U H,xs[i]?=some x->Pv i U H->g x U H fun σ2 H2=>tb {nx:=Pv (i + 1),rt:=R,bk:=B,ct:=Pv (i + 1)} σ2 H2)(hd:∀ U H,Pv xs.length U H->D.nx U H):
  ∃ W:Nat->Nat->St->Hp->Prop,(∃ m,W 0 m U H)/\∀ i m U H,W i m U H->
   ((Itt K a).stop i H/\D.nx U H) \/ ((Itt K a).go i H/\∃ N:St->Hp->Prop,(∀ U' H',N U' H'->∃ m',m' < m/\W (i + 1) m' U' H')/\∀ x H',(Itt K a).yld i H x H'->g x U H' fun σ2 H2=>tb {D with nx:=N,ct:=N,bk:=D.nx} σ2 H2):=
 ND Pv h0 hl (fun i x U H hx p=>hs _ _ i x U H hx p) hd
theorem Ub{lo:Int}{n:Nat}{g:TG}{tb:TS}{D:Ends}{U:St}{H:Hp}(Pv:Nat->St->Hp->Prop)(h0:Pv 0 U H)(hs:∀ (B:St->Hp->Prop) (R:VK) i U H,i < n->Pv i U H->g (.int (lo + i)) U H fun σ2 H2=>tb {nx:=Pv (i + 1),rt:=R,bk:=B,ct:=Pv (i + 1)} σ2 H2)(hd:∀ U H,Pv n U H->D.nx U H):
  ∃ W:Nat->Nat->St->Hp->Prop,(∃ m,W 0 m U H)/\∀ i m U H,W i m U H->
   ((Itr lo n).stop i H/\D.nx U H) \/ ((Itr lo n).go i H/\∃ N:St->Hp->Prop,(∀ U' H',N U' H'->∃ m',m' < m/\W (i + 1) m' U' H')/\∀ x H',(Itr lo n).yld i H x H'->g x U H' fun σ2 H2=>tb {D with nx:=N,ct:=N,bk:=D.nx} σ2 H2):=
 N8 Pv h0 (fun i U H hi p=>hs _ _ i U H hi p) hd
theorem ZQ.none{P:Program}{w:World}{K:W.Frag}{mg:Str->Option Value}{base:Heap}{CX:CXT}{k:Nat}{f:Addr}{fd:FuncData}{ps:List Str}{sp:Sp}(h:∀ vs H Q E,sp vs H Q E->False):ZQ P w K mg base CX k f fd ps sp:=
 ⟨fun vs H Q E q=>(h _ _ _ _ q).elim,fun A outer s H args us vs Q E _ _ _ _ q=>(h _ _ _ _ q).elim⟩
theorem Zu{N P:List Str}{sc:Scope}(h:sc.kind= .function/\sc.isCoroutine=false/\sc.isGenerator=false/\N.Nodup/\N.take P.length=P/\(∀ x∈P,sc.names.lookup x=some .local \/ sc.names.lookup x=some .cell)/\∀ y∈sc.names,y.2≠ .free:=by decide +kernel):Za N P sc:=
 ⟨h.1,h.2.1,h.2.2.1,h.2.2.2.1,h.2.2.2.2.1,h.2.2.2.2.2.1,h.2.2.2.2.2.2⟩
end L2
namespace K4
open PySem L2
def top(i:Nat):Stmt:=PySem.Challenge.pw_wantway_k07_no_heads.main.body.getD i (.Pass ⟨0,0,0,0⟩)
abbrev Gq:Stmt:=top 30
abbrev Rt:Stmt:=top 31
abbrev Rl:Stmt:=top 32
abbrev U4:Stmt:=top 38
abbrev Mt:Stmt:=inClass U4 0
abbrev Gn:Stmt:=inClass U4 1
abbrev Bk:Stmt:=inClass U4 2
abbrev Rn:Stmt:=inClass U4 3
abbrev Ro:Stmt:=inClass U4 4
abbrev Uo:Stmt:=inClass U4 5
abbrev EW:Stmt:=top 44
abbrev Gr:Stmt:=inClass EW 0
abbrev Ry:Stmt:=inClass EW 1
abbrev Rz:Stmt:=inClass EW 2
abbrev R0:Stmt:=top 45
abbrev Uq:Stmt:=top 46
abbrev Up:Stmt:=top 47
abbrev Bo:Stmt:=top 49
abbrev Rp:Stmt:=top 50
abbrev Gh:Stmt:=top 51
abbrev Bj:Stmt:=top 52
abbrev Rk:Stmt:=top 53
abbrev Rm:Stmt:=top 54
abbrev Bm:Stmt:=top 55
abbrev Rr:Stmt:=top 56
abbrev Ru:Stmt:=top 57
abbrev X4:Stmt:=top 58
abbrev Mq:Stmt:=top 59
abbrev Xh:Stmt:=top 60
abbrev E5:Stmt:=top 61
abbrev Gk:Stmt:=top 62
abbrev E4:Stmt:=top 63
abbrev Tn:Stmt:=top 64
abbrev Gj:Stmt:=top 65
abbrev Mr:Stmt:=top 66
abbrev Bq:Stmt:=top 67
abbrev Ms:Stmt:=top 68
abbrev Xg:Stmt:=top 69
abbrev Bi:Stmt:=top 70
abbrev Bn:Stmt:=top 71
abbrev Rv:Stmt:=top 72
abbrev Rx:Stmt:=top 73
abbrev Br:Stmt:=top 74
abbrev Gi:Stmt:=top 75
abbrev Bl:Stmt:=top 76
abbrev Gp:Stmt:=top 77
abbrev Rw:Stmt:=top 78
abbrev Rq:Stmt:=top 79
abbrev Gm:Stmt:=inClass (top 21) 0
theorem KU:Za ["found","due"] ["found","due"] (ZJ Ms):=Zu
theorem Bc:Za ["stream","many","number"] ["stream","many"] (ZJ Bj):=Zu
end K4
namespace L2
open PySem PySem.Spec PyProof.Rows
theorem Dv(K:W.Frag)(T:String):W.kitOne K (.type T) (.type T)=some true:=by
 unfold W.kitOne;rw [if_pos (by simp)]
theorem OQ{K:W.Frag}:∀ {a b:String},(a,b)∈ [("NoneType","bool"),("NoneType","str"),("NoneType","int"),("NoneType","tuple"),("NoneType","list"),("int","bool"),("int","str"),("int","tuple"),("int","list"),("str","bool"),("str","int"),("str","tuple"),("str","list"),("bool","str"),("bool","tuple"),("bool","list"),("tuple","bool"),("tuple","str"),("tuple","int"),("tuple","list"),("list","bool"),("list","str"),("list","int"),("list","tuple")]->W.kitOne K (.type a) (.type b)=some false:=by
 intro a b h;simp only [O8,Prod.mk.injEq,List.not_mem_nil,or_false] at h;rcases h with ⟨rfl,rfl⟩ | ⟨rfl,rfl⟩ | ⟨rfl,rfl⟩ | ⟨rfl,rfl⟩ | ⟨rfl,rfl⟩ | ⟨rfl,rfl⟩ | ⟨rfl,rfl⟩ | ⟨rfl,rfl⟩ | ⟨rfl,rfl⟩ | ⟨rfl,rfl⟩ | ⟨rfl,rfl⟩ | ⟨rfl,rfl⟩ | ⟨rfl,rfl⟩ | ⟨rfl,rfl⟩ | ⟨rfl,rfl⟩ | ⟨rfl,rfl⟩ | ⟨rfl,rfl⟩ | ⟨rfl,rfl⟩ | ⟨rfl,rfl⟩ | ⟨rfl,rfl⟩ | ⟨rfl,rfl⟩ | ⟨rfl,rfl⟩ | ⟨rfl,rfl⟩ | ⟨rfl,rfl⟩ <;> kernel_rfl
theorem Yh:bootBuiltins "tuple" =some (.type "tuple"):=by decide +kernel
theorem Z9:bootBuiltins "list" =some (.type "list"):=by decide +kernel
theorem U5:bootBuiltins "str" =some (.type "str"):=by decide +kernel
theorem U7:bootBuiltins "int" =some (.type "int"):=by decide +kernel
theorem UK:bootBuiltins "bool" =some (.type "bool"):=by decide +kernel
theorem Jd:bootBuiltins "dict" =some (.type "dict"):=by decide +kernel
theorem Vf:bootBuiltins "isinstance" =some (.builtin "isinstance"):=by decide +kernel
theorem U8:bootBuiltins "all" =some (.builtin "all"):=by decide +kernel
theorem U6:bootBuiltins "max" =some (.builtin "max"):=by decide +kernel
theorem VO(hg:Gl X "isinstance")(hm:X.mg "isinstance" =none)(hg':Gl X x)(hm':X.mg x=none)(hv:bootBuiltins x=some (.type T))(he:PE X e te)(hn:x≠"__name__" :=by decide)(hdb:(x==("__debug__" :Str))=false:=by decide)(hs:starEach [e, .Name x p'] X.env=(false,eval e X.env)::starEach [.Name x p'] X.env:=by rfl):
  PE X (.Call (.Name "isinstance" p) [e, .Name x p'] [] pos) (tCB (KZ X.K) (YI te (YI (tC (.ty T)) Jj))):=
 ZU EU hg hm Vf (pa2 he (My hg' hm' hv rfl hn hdb) hs) (he:=hs)
def tyD:Dat->String
 | .non=>"NoneType" | .bl _=>"bool" | .int _=>"int" | .str _=>"str" | .tup _=>"tuple" | .lst _=>"list"
theorem MM{K:W.Frag}(h:Has H v d):UL K H v (.type (tyD d)):=by
 have q:=D4 (K:=K) h;cases d <;> exact q
def isD(T:String)(d:Dat):Bool:=decide (tyD d=T) || (T=="int" && decide (tyD d="bool"))
theorem VG(K:W.Frag)(d:Dat)(hT:T∈ ["bool","str","int","tuple","list"]):W.kitOne K (.type (tyD d)) (.type T)=some (isD T d):=by
 simp only [O8,List.not_mem_nil,or_false] at hT;rcases hT with rfl | rfl | rfl | rfl | rfl <;> cases d <;> kernel_rfl
mutual
def Dat.dep:Dat->Nat
 | .tup ds=>1 + Dat.deps ds
 | .lst ds=>1 + Dat.deps ds
 | _=>0
def Dat.deps:List Dat->Nat
 | []=>0
 | d::ds=>max d.dep (Dat.deps ds)
end
theorem Dat.deps_get:∀ {ds:List Dat}{i:Nat}{d:Dat},ds[i]?=some d->d.dep<=Dat.deps ds
 | [],i,d,e=>by simp at e
 | a::ds,0,d,e=>by
  have e':some a=some d:=e;cases e';unfold Dat.deps;exact Nat.le_max_left _ _
 | a::ds,i + 1,d,e=>by
  have q:=Dat.deps_get (ds:=ds) (i:=i) e;unfold Dat.deps;exact O6 q (Nat.le_max_right _ _)
mutual
def Dat.wid:Dat->Nat
 | .tup ds=>max ds.length (Dat.wids ds)
 | .lst ds=>max ds.length (Dat.wids ds)
 | _=>0
def Dat.wids:List Dat->Nat
 | []=>0
 | d::ds=>max d.wid (Dat.wids ds)
end
theorem Dat.wids_get:∀ {ds:List Dat}{i:Nat}{d:Dat},ds[i]?=some d->d.wid<=Dat.wids ds
 | [],i,d,e=>by simp at e
 | a::ds,0,d,e=>by
  have e':some a=some d:=e;cases e';unfold Dat.wids;exact Nat.le_max_left _ _
 | a::ds,i + 1,d,e=>by
  have q:=Dat.wids_get (ds:=ds) (i:=i) e;unfold Dat.wids;exact O6 q (Nat.le_max_right _ _)
theorem WR:∀ {as bs:List Dat},as.length=bs.length->((List.range as.length).map fun i=>((as[i]?).getD .non).beq ((bs[i]?).getD .non)).all id=Dat.beqs as bs
 | [], [],_=>by unfold Dat.beqs;rfl
 | [],_::_,h=>by simp at h
 | _::_, [],h=>by simp at h
 | a::as,b::bs,h=>by
  have ih:=WR (as:=as) (bs:=bs) (by simpa using h);rw [PB,List.range_succ_eq_map,O0,List.all_cons,List.map_map];unfold Dat.beqs;rw [<-ih]
  rfl
theorem IS(a b:List Dat):(Dat.tup a).beq (Dat.tup b)=Dat.beqs a b:=by
 conv=>lhs;unfold Dat.beq
theorem IT(a b:List Dat):(Dat.lst a).beq (Dat.lst b)=Dat.beqs a b:=by
 conv=>lhs;unfold Dat.beq
theorem WQ:∀ {as bs:List Dat},as.length≠bs.length->Dat.beqs as bs=false
 | [], [],h=>absurd rfl h
 | [],_::_,_=>by unfold Dat.beqs;rfl
 | _::_, [],_=>by unfold Dat.beqs;rfl
 | a::as,b::bs,h=>by
  unfold Dat.beqs;rw [WQ (as:=as) (bs:=bs) fun z=>h (by rw [PB,PB,z]),Bool.and_false]
theorem Z7{c A B:Prop}[Decidable c](hc:c)(h:A):if c then A else B:=by
 rw [if_pos hc];exact h
theorem Zs{c A B:Prop}[Decidable c](hc: ¬ c)(h:B):if c then A else B:=by
 rw [if_neg hc];exact h
theorem YQ(n:Nat)(hn:n < sizeLine)(Pv:Nat->List V->Hp->Prop)(h0:Pv 0 [] H)(hlen:∀ i vs H,Pv i vs H->vs.length=i)(hgo:∀ i vs H,i < n->Pv i vs H->J.go i H)(hstop:∀ vs H,Pv n vs H->J.stop n H)(hs:∀ i vs H x H' (R:V->Hp->Prop),i < n->Pv i vs H->J.yld i H x H'->(∀ v H3,Pv (i + 1) (vs++ [v]) H3->R v H3)->g x s0 H' fun s2 H2=>te s2 H2 R)(hd:∀ vs H p,Pv n vs H->H p=none->Q (.ref p) (upd H p (.lst vs))):
  W5 J g te s0 Q H:=by
 refine ⟨fun i m vs H=>m=n - i/\i<=n/\Pv i vs H,⟨n,by simp,O7 _,h0⟩,?_⟩;rintro i m vs H ⟨rfl,hi,p⟩;have hl:=hlen i vs H p;refine ⟨by omega,?_⟩
 by_cases hlt:i < n
 .exact .inr ⟨hgo i vs H hlt p,fun x H' y=>hs i vs H x H' _ hlt p y fun v H3 p3=>⟨n - (i + 1),by omega,rfl,hlt,p3⟩⟩
 .have e:i=n:=by omega
  subst e;exact .inl ⟨hstop vs H p,fun a ha=>hd vs H a p ha⟩
theorem ZH(h:H p=none)(o:HO):Same H (upd H p o):=fun b u q=>by rw [ZE (ZG q h)];exact q
@[elab_as_elim] theorem up_in {motive:Hp->Prop}(h:H l=none) (o:HO) (k:∀ H',Same H H'->H' l=some o->motive H'):motive (upd H l o):=k _ (ZH h o) ZC
theorem Vn{α:Type}(f:Nat->α)(i:Nat):(List.range i).map f++ [f i]=(List.range (i + 1)).map f:=by
 rw [List.range_succ,Oq];rfl
structure Blt(mg:Str->Option Value):Prop where
 len:mg "len" =none
 isi:mg "isinstance" =none
 bool:mg "bool" =none
 str:mg "str" =none
 int:mg "int" =none
 tuple:mg "tuple" =none
 list:mg "list" =none
 dict:mg "dict" =none
 all:mg "all" =none
 zip:mg "zip" =none
 max:mg "max" =none
 range:mg "range" =none
 sorted:mg "sorted" =none
end L2
namespace K4
open PySem L2
section
theorem Dp:List.Nodup [("one" :Str),"other"]:=by decide +kernel
theorem D8:GK 2 (Fu K 2 (Jh (YZ 0) (Jh (YZ 1) RE))):=
 K7 (NC (YO (i:=0) (by decide)) (NC (YO (i:=1) (by decide)) K8 (fun _ _ _ _ _ h z=>h _ _ z) (fun x _ _ _ _ h z=>by
  match x,z with
  | [],z=>exact h _ _ z)) (fun _ _ _ _ _ h z=>h _ _ z) (fun x _ _ _ _ h z=>by
  match x,z with
  | [v],z=>exact h _ _ z))
def UD(n:Nat):Sp:=fun vs H Q _=> ∃ x y dx dy,vs= [x,y]/\Has H x dx/\Has H y dy/\dy.dep < n/\dy.wid<=1000/\∀ H',Same H H'->Q (.bl (dx.beq dy)) H'
set_option tactic.hygienic true in
theorem FW(B:Blt mg)(F:Fun K "_law_same" "_law_same" Ms f fd)(G:ZQ P w K mg base CX0 n f fd ["found","due"] (UD n))(bG:Binds K fd ["found","due"] [])(mG:mg "_law_same" =some (.ref f)):
  ZQ P w K mg base CX0 (n + 1) f fd ["found","due"] (UD (n + 1)):=by
 refine F.oq KU fun cdv A outer s H vs Q E hr h=>?_;obtain ⟨x,y,dx,dy,rfl,hx,hy,hd,hw,q⟩:=h;refine ⟨_,ZA (Zg (ZN MD (pv 1) Y0 (ZW _)) (ZF (ZV (Yy MD (pv 0) Y0 (ZW _)))) ZO)
  (ZA (Zg (Yi (VO rfl B.isi rfl B.bool UK (pv 1))) (ZF (ZV (JV (VO rfl B.isi rfl B.bool UK (pv 0)) (Jp (Yy YN (pv 0) (pv 1) (ZW _)))))) ZO)
  (ZA (Zg (Yi (VO rfl B.isi rfl B.str U5 (pv 1))) (ZF (ZV (JV (VO rfl B.isi rfl B.str U5 (pv 0)) (Jp (Yy YN (pv 0) (pv 1) (ZW _)))))) ZO)
  (ZA (Zg (Yi (VO rfl B.isi rfl B.int U7 (pv 1))) (ZF (ZV (JV (VO rfl B.isi rfl B.int U7 (pv 0)) (JV (B2 (VO rfl B.isi rfl B.bool UK (pv 0))) (Jp (Yy YN (pv 0) (pv 1) (ZW _))))))) ZO)
  (ZA (Zg (PW.pt (VX (PW.pt (Vo (Yi (VO rfl B.isi rfl B.tuple Yh (pv 1))) (VE (Yz (Yi (VO rfl B.isi rfl B.tuple Yh (pv 0)))))))
    (VM (PW.pt (Vo (Yi (VO rfl B.isi rfl B.list Z9 (pv 1))) (VE (Yz (Yi (VO rfl B.isi rfl B.list Z9 (pv 0)))))))))) (ZF (ZV Vr)) ZO)
  (ZA (Zg (ZN B7 (ZU ZP rfl B.len PySem.boot_len (pa1 (pv 0))) (ZU ZP rfl B.len PySem.boot_len (pa1 (pv 1))) (ZW _)) (ZF (ZV Vr)) ZO)
  (ZF (ZV (ZU (WP rfl) rfl B.all U8 (pa1 (Y4 ["one","other"] [] (Kc rfl B.zip (pa2 (pv 0) (pv 1))) D8
    (fun cl C fp s H=>Yr (n:=2) rfl (Zf (ZL 0 Dp rfl (Or.inl rfl) (Or.inr rfl)) (Zf (ZL 1 Dp rfl (Or.inl rfl) (Or.inr rfl)) YX)))
    (fun cl C fp s H=>Zy G hr rfl mG F.kp bG .nil YM (pa2 (pv 0) (pv 1))))))))))))),?_⟩
 show let a:=_;let b:=_;let c:=ZK (Zv _ b _) a;let d:=_;let e:=ZK (Zv _ d _) c;let f:=_;let g:=ZK (Zv _ f _) e;let h:=_;let i:=ZK (Zv _ h _) g;let j:=_;let k:=ZK (Zv _ j _) i;let l:=_;ZK (Zv _ l _) k _ _ _
 intros
 have tY:=MM (K:=K) hy;have tX:=MM (K:=K) hx;have fin:∀ k,k=dx.beq dy->Q (.bl k) H:=fun k e=>by rw [e];exact q H (Same.refl _)
 refine ⟨rfl,_,rfl,?_⟩;refine Yc (fun c=>?_) (fun c=>?_)
 .have ey:y= .non:=of_decide_eq_true c
  have ed:dy= .non:=Has.inj dy .non hy (by unfold Has;exact ey);subst ed;refine ⟨rfl,fin _ ?_⟩;cases dx <;> unfold Has at hx
  .rw [hx];rfl
  .rw [hx];rfl
  .rw [hx];rfl
  .rw [hx];rfl
  .obtain ⟨a,xs,rfl,_⟩:=hx;rfl
  .obtain ⟨a,xs,rfl,_⟩:=hx;rfl
 have ny:dy≠ .non:=fun z=>by
  subst z;unfold Has at hy;exact c (decide_eq_true hy)
 refine ⟨_,_,_,_,rfl,tY,VG K dy (by simp),_,rfl,?_⟩;refine Yc (fun c1=>?_) (fun c1=>?_)
 .cases dy <;> simp [isD,tyD] at c1
  rename_i b
  have ey:y= .bl b:=by unfold Has at hy;exact hy
  subst ey;refine ⟨_,_,_,_,rfl,tX,VG K dx (by simp),_,rfl,?_⟩;refine Yc (fun c2=>?_) (fun c2=>?_)
  .cases dx <;> simp [isD,tyD] at c2
   rename_i a
   have ex:x= .bl a:=by unfold Has at hx;exact hx
   subst ex;refine ⟨rfl,fin _ ?_⟩;rw [MT];unfold Dat.beq;rfl
  .refine fin _ ?_
   cases dx <;> first | (simp [isD,tyD] at c2;done) | (unfold Dat.beq;rfl)
 refine ⟨_,_,_,_,rfl,tY,VG K dy (by simp),_,rfl,?_⟩;refine Yc (fun c2=>?_) (fun c2=>?_)
 .cases dy <;> simp [isD,tyD] at c2
  rename_i b
  have ey:y= .str b:=by unfold Has at hy;exact hy
  subst ey;refine ⟨_,_,_,_,rfl,tX,VG K dx (by simp),_,rfl,?_⟩;refine Yc (fun c3=>?_) (fun c3=>?_)
  .cases dx <;> simp [isD,tyD] at c3
   rename_i a
   have ex:x= .str a:=by unfold Has at hx;exact hx
   subst ex;refine ⟨rfl,fin _ ?_⟩;rw [G9];unfold Dat.beq;rfl
  .refine fin _ ?_
   cases dx <;> first | (simp [isD,tyD] at c3;done) | (unfold Dat.beq;rfl)
 refine ⟨_,_,_,_,rfl,tY,VG K dy (by simp),_,rfl,?_⟩;refine Yc (fun c3=>?_) (fun c3=>?_)
 .cases dy <;> simp [isD,tyD] at c3 c1
  rename_i b
  have ey:y= .int b:=by unfold Has at hy;exact hy
  subst ey;refine ⟨_,_,_,_,rfl,tX,VG K dx (by simp),_,rfl,?_⟩;refine Yc (fun c4=>?_) (fun c4=>?_)
  .refine ⟨_,_,_,_,rfl,tX,VG K dx (by simp),_,rfl,_,rfl,?_⟩
   refine Yc (fun c5=>?_) (fun c5=>?_)
   .cases dx <;> simp [isD,tyD] at c4 c5
    rename_i a
    have ex:x= .int a:=by unfold Has at hx;exact hx
    subst ex;refine ⟨rfl,fin _ ?_⟩;rw [TD];unfold Dat.beq;rfl
   .refine fin _ ?_
    cases dx <;> first | (simp [isD,tyD] at c4 c5;done) | (unfold Dat.beq;rfl)
  .refine fin _ ?_
   cases dx <;> first | (simp [isD,tyD] at c4;done) | (unfold Dat.beq;rfl)
 cases dy with
 | non=>exact absurd rfl ny
 | bl b=>simp [isD,tyD] at c1
 | int b=>simp [isD,tyD] at c3
 | str b=>simp [isD,tyD] at c2
 | tup es=>
  have hlt:Dat.deps es < n:=by unfold Dat.dep at hd;omega
  have hw1:es.length<=1000:=by unfold Dat.wid at hw;exact O6 (Nat.le_max_left _ _) hw
  have hw2:Dat.wids es<=1000:=by unfold Dat.wid at hw;exact O6 (Nat.le_max_right _ _) hw
  refine ⟨_,_,_,_,rfl,tY,VG K _ (by simp),_,rfl,?_⟩;refine Z7 rfl ?_;refine ⟨_,_,_,_,rfl,tX,VG K dx (by simp),_,rfl,?_⟩;refine Yc (fun c4=>?_) (fun c4=>?_)
  .refine Z7 rfl (fin _ ?_)
   cases dx <;> first | (simp [isD,tyD] at c4;done) | (unfold Dat.beq;rfl)
  refine ⟨_,_,_,_,rfl,tY,VG K _ (by simp),_,rfl,?_⟩;refine Zs (by simp [isD,tyD]) (Zs (by simp) ?_);cases dx <;> simp [isD,tyD] at c4
  rename_i ds
  unfold Has at hx hy;obtain ⟨a,xs,rfl,ha,hxs⟩:=hx;obtain ⟨b,ys,rfl,hb,hys⟩:=hy;have l1:=hxs.length;have l2:=hys.length;refine ⟨a,xs,rfl, .inr (SqT.of ha),b,ys,rfl, .inr (SqT.of hb),rfl,_,rfl,?_⟩;refine Yc (fun c5=>?_) (fun c5=>?_)
  .refine fin _ ?_
   have ne:xs.length≠ys.length:=fun z=>by rw [z] at c5;simp at c5
   unfold Dat.beq;rw [WQ (by rw [<-l1,<-l2];exact ne)]
  have el:xs.length=ys.length:=by
   apply Classical.byContradiction;intro z;refine c5 ?_;have z': ¬ V.int (xs.length:Nat)=V.int (ys.length:Nat):=fun w=>by injection w with w;exact z (by omega)
   rw [decide_eq_false z'];rfl
  have hsz:xs.length < sizeLine:=ZI (by omega);refine ⟨a,b,true,true,xs,ys,rfl,SqT.of ha,SqT.of hb,?_⟩;refine YQ xs.length hsz (fun i vs H'=>Same H H'/\vs=(List.range i).map fun j=>V.bl (((ds[j]?).getD .non).beq ((es[j]?).getD .non))) ⟨Same.refl _,rfl⟩ (fun i vs H' z=>by rw [z.2];simp) ?_ ?_ ?_ ?_
  .intro i vs H' hi z
   exact ⟨xs,ys,xs[i],ys[i],SqT.of (z.1 _ _ ha),SqT.of (z.1 _ _ hb),by simp [hi],by simp [<-el,hi]⟩
  .intro vs H' z
   exact ⟨xs,ys,SqT.of (z.1 _ _ ha),SqT.of (z.1 _ _ hb), .inl (Om _)⟩
  .intro i vs H' x H'' R hi z yl hR
   obtain ⟨p,x1,y1,rfl,hp,rfl,g1,g2⟩:=yl;have e1:=g1 xs (SqT.of (z.1 _ _ ha));have e2:=g2 ys (SqT.of (z.1 _ _ hb));obtain ⟨d1,hd1,hh1⟩:=hxs.get e1;obtain ⟨d2,hd2,hh2⟩:=hys.get e2;have s1:=z.1.trans (ZH hp (.tup [x1,y1]));refine ⟨[x1,y1],SqT.of ZC,rfl,?_⟩;refine ⟨x1,y1,d1,d2,rfl,hh1.mono s1,hh2.mono s1,Nat.lt_of_le_of_lt (Dat.deps_get hd2) hlt,O6 (Dat.wids_get hd2) hw2,fun H3 s3=>hR _ _ ⟨s1.trans s3,?_⟩⟩;rw [z.2,<-Vn,hd1,hd2]
   rfl
  .intro vs H' p z hp
   refine ⟨p,(List.range xs.length).map fun j=>((ds[j]?).getD .non).beq ((es[j]?).getD .non),rfl,SqL.of (by rw [ZC,z.2,List.map_map];rfl),?_⟩
   have e:((List.range xs.length).map fun j=>((ds[j]?).getD .non).beq ((es[j]?).getD .non)).all id=(Dat.tup ds).beq (Dat.tup es):=by
    rw [IS,<-WR (by rw [<-l1,<-l2];exact el),l1]
   rw [e];exact q _ (z.1.trans (ZH hp _))
 | lst es=>
  have hlt:Dat.deps es < n:=by unfold Dat.dep at hd;omega
  have hw1:es.length<=1000:=by unfold Dat.wid at hw;exact O6 (Nat.le_max_left _ _) hw
  have hw2:Dat.wids es<=1000:=by unfold Dat.wid at hw;exact O6 (Nat.le_max_right _ _) hw
  refine ⟨_,_,_,_,rfl,tY,VG K _ (by simp),_,rfl,?_⟩;refine Zs (by simp [isD,tyD]) (Zs (by simp) ?_);refine ⟨_,_,_,_,rfl,tY,VG K _ (by simp),_,rfl,?_⟩;refine Z7 rfl ?_;refine ⟨_,_,_,_,rfl,tX,VG K dx (by simp),_,rfl,?_⟩;refine Yc (fun c4=>?_) (fun c4=>?_)
  .refine fin _ ?_
   cases dx <;> first | (simp [isD,tyD] at c4;done) | (unfold Dat.beq;rfl)
  cases dx <;> simp [isD,tyD] at c4
  rename_i ds
  unfold Has at hx hy;obtain ⟨a,xs,rfl,ha,hxs⟩:=hx;obtain ⟨b,ys,rfl,hb,hys⟩:=hy;have l1:=hxs.length;have l2:=hys.length;refine ⟨a,xs,rfl, .inl (SqL.of ha),b,ys,rfl, .inl (SqL.of hb),rfl,_,rfl,?_⟩;refine Yc (fun c5=>?_) (fun c5=>?_)
  .refine fin _ ?_
   have ne:xs.length≠ys.length:=fun z=>by rw [z] at c5;simp at c5
   unfold Dat.beq;rw [WQ (by rw [<-l1,<-l2];exact ne)]
  have el:xs.length=ys.length:=by
   apply Classical.byContradiction;intro z;refine c5 ?_;have z': ¬ V.int (xs.length:Nat)=V.int (ys.length:Nat):=fun w=>by injection w with w;exact z (by omega)
   rw [decide_eq_false z'];rfl
  have hsz:xs.length < sizeLine:=ZI (by omega);refine ⟨a,b,false,false,xs,ys,rfl,SqL.of ha,SqL.of hb,?_⟩;refine YQ xs.length hsz (fun i vs H'=>Same H H'/\vs=(List.range i).map fun j=>V.bl (((ds[j]?).getD .non).beq ((es[j]?).getD .non))) ⟨Same.refl _,rfl⟩ (fun i vs H' z=>by rw [z.2];simp) ?_ ?_ ?_ ?_
  .intro i vs H' hi z
   exact ⟨xs,ys,xs[i],ys[i],SqL.of (z.1 _ _ ha),SqL.of (z.1 _ _ hb),by simp [hi],by simp [<-el,hi]⟩
  .intro vs H' z
   exact ⟨xs,ys,SqL.of (z.1 _ _ ha),SqL.of (z.1 _ _ hb), .inl (Om _)⟩
  .intro i vs H' x H'' R hi z yl hR
   obtain ⟨p,x1,y1,rfl,hp,rfl,g1,g2⟩:=yl;have e1:=g1 xs (SqL.of (z.1 _ _ ha));have e2:=g2 ys (SqL.of (z.1 _ _ hb));obtain ⟨d1,hd1,hh1⟩:=hxs.get e1;obtain ⟨d2,hd2,hh2⟩:=hys.get e2;have s1:=z.1.trans (ZH hp (.tup [x1,y1]));refine ⟨[x1,y1],SqT.of ZC,rfl,?_⟩;refine ⟨x1,y1,d1,d2,rfl,hh1.mono s1,hh2.mono s1,Nat.lt_of_le_of_lt (Dat.deps_get hd2) hlt,O6 (Dat.wids_get hd2) hw2,fun H3 s3=>hR _ _ ⟨s1.trans s3,?_⟩⟩;rw [z.2,<-Vn,hd1,hd2]
   rfl
  .intro vs H' p z hp
   refine ⟨p,(List.range xs.length).map fun j=>((ds[j]?).getD .non).beq ((es[j]?).getD .non),rfl,SqL.of (by rw [ZC,z.2,List.map_map];rfl),?_⟩
   have e:((List.range xs.length).map fun j=>((ds[j]?).getD .non).beq ((es[j]?).getD .non)).all id=(Dat.lst ds).beq (Dat.lst es):=by
    rw [IT,<-WR (by rw [<-l1,<-l2];exact el),l1]
   rw [e];exact q _ (z.1.trans (ZH hp _))
theorem Na:ZQ P w K mg base CX0 0 f fd ["found","due"] (UD 0):=by
 have no:∀ vs H Q E,¬ UD 0 vs H Q E:=fun vs H Q E h=>by
  obtain ⟨x,y,dx,dy,_,_,_,h1,_⟩:=h;omega
 exact ⟨fun vs H Q E h=>absurd h (no vs H Q E),fun A outer s H args us vs Q E _ _ _ _ h=>absurd h (no vs H Q E)⟩
theorem Mp(B:Blt mg)(F:Fun K "_law_same" "_law_same" Ms f fd)(bG:Binds K fd ["found","due"] [])(mG:mg "_law_same" =some (.ref f)):∀ n:Nat,ZQ P w K mg base CX0 n f fd ["found","due"] (UD n)
 | 0=>Na
 | n + 1=>FW B F (Mp B F bG mG n) bG mG
end
end K4
namespace L2
open PySem
inductive W where
 | non | tag (x:Str) | pair (a b:W)
def W.dat:W->Dat
 | .non=> .non
 | .tag x=> .str x
 | .pair a b=> .tup [a.dat,b.dat]
theorem D5(h:Has H v (W.pair a b).dat):∃ p x y,v= .ref p/\H p=some (.tup [x,y])/\Has H x a.dat/\Has H y b.dat:=by
 unfold W.dat Has at h;obtain ⟨p,xs,rfl,hp,hl⟩:=h
 match xs,hl with
 | [x,y],hl=>
  unfold HasL at hl;obtain ⟨h1,h2⟩:=hl;unfold HasL at h2;exact ⟨p,x,y,rfl,hp,h1,h2.1⟩
 | [],hl=>unfold HasL at hl;exact hl.elim
 | [x],hl=>unfold HasL at hl;obtain ⟨_,h2⟩:=hl;unfold HasL at h2;exact h2.elim
 | _::_::_::_,hl=>
  unfold HasL at hl;obtain ⟨_,h2⟩:=hl;unfold HasL at h2;obtain ⟨_,h3⟩:=h2;unfold HasL at h3;exact h3.elim
theorem Xn:Has H .non W.non.dat:=by unfold W.dat Has;rfl
def W.dep:W->Nat
 | .non=>0
 | .tag _=>0
 | .pair a b=>1 + max a.dep b.dep
theorem Jz(h:Has H v (.lst ds)):∃ a xs,v= .ref a/\H a=some (.lst xs)/\HasL H xs ds:=by unfold Has at h;exact h
theorem YG(h:H a=some (.lst xs))(t:HasL H xs ds):Has H (.ref a) (.lst ds):=by unfold Has;exact ⟨a,xs,rfl,h,t⟩
def Zo(H:Hp)(p:Addr):Prop:= ∃ (a:Int) (b:Bool) (c d:Int),H p=some (.lst [.int a, .bl b, .int c, .int d])
def But(p:Addr)(H H':Hp):Prop:= ∀ b,b≠p->H' b=H b
theorem But.trans(a:But p H H1)(b:But p H1 H2):But p H H2:=fun c h=>(b c h).trans (a c h)
theorem But.upd{p:Addr}{H:Hp}(o:HO):But p H (upd H p o):=fun _ h=>ZE h
end L2
namespace K4
open PySem L2
theorem KW:Za ["script","k"] ["script","k"] (ZJ Bo):=Zu
theorem Gg:Za ["cell","k","number"] ["cell","k"] (ZJ Rp):=Zu
theorem Bf:Za ["cell"] ["cell"] (ZJ Gh):=Zu
section
variable{K:W.Frag}
def BY(K:W.Frag):Sp:=fun vs H Q _=> ∃ (a:Addr) (ns:List Int) (k:Int),vs= [.ref a, .int k]/\SqL K H a (ns.map V.int)/\0<=k/\∀ c:Int,Q (.int c) H
theorem Fb(B:Blt mg)(F:Fun K "_law_cell" "_law_cell" Bo f fd):ZQ P w K mg base CX0 (n + 1) f fd ["script","k"] (BY K):=by
 refine F.oq KW fun cdv A outer s H vs Q E hr h=>?_;obtain ⟨a,ns,k,rfl,hq,h0,q⟩:=h;refine ⟨_,ZA (Zg (ZN Wj (pv 1) (ZU ZP rfl B.len PySem.boot_len (pa1 (pv 0))) (ZW _)) (ZF (ZV (ZT Zh (pv 0) (pv 1) (fun _ _=>rfl)))) ZO) (ZF (ZV ZD)),?_⟩;show let a:=_;let b:=_;ZK (Zv _ b _) a _ _ _
 intros
 refine ⟨a,_,rfl, .inl hq,_,rfl,?_⟩;refine Yc (fun c=>?_) (fun c=>?_)
 .have c':k < ((ns.map V.int).length:Nat):=of_decide_eq_true c
  rw [Oh] at c';have hk:k.toNat < ns.length:=by omega
  have ek:k=((k.toNat:Nat):Int):=by omega
  have e:atI (ns.map V.int) ((k.toNat:Nat):Int)=some (.int ns[k.toNat]):=YA (by rw [On,Oi hk];rfl);rw [<-ek] at e;exact ⟨_,_,hq,e,q _⟩
 .exact q _
def GE:Sp:=fun vs H Q _=> ∃ (c k:Int),vs= [.int c, .int k]/\∀ r:Int,0<=r->r < 2147483563->Q (.int r) H
theorem T5(F:Fun K "_law_mixed" "_law_mixed" Rp f fd):ZQ P w K mg base CX0 (n + 1) f fd ["cell","k"] GE:=by
 refine F.oq Gg fun cdv A outer s H vs Q E hr h=>?_;obtain ⟨c,k,rfl,q⟩:=h;refine ⟨_,ZA (ZM 2 Gg.nd (ZX Vs (ZX YC (ZX YC (ZX Y7 (ZX Vs (pv 0) ZD) ZD) (ZX Y7 ZD (pv 1))) ZD) ZD))
  (ZA (ZM 2 Gg.nd (ZX Vs (ZX YC (ZX YC (ZX Y7 (pv 2) (pv 2)) (ZX Y7 ZD (pv 1))) ZD) ZD))
  (ZF (ZV (ZX Vs (ZX Y7 (pv 2) (ZX YC (pv 2) ZD)) ZD)))),?_⟩
 show let a:=_;let b:=ZK _ a;ZK _ b _ _ _
 intros
 have m1:=Int.emod_nonneg c (show (2147483647:Int)≠0 by decide);have m2:=Int.emod_lt_of_pos c (show (0:Int) < 2147483647 by decide);refine ⟨(by show (0:Int) < _;decide), .inl ⟨by omega,by omega⟩, .inl ⟨by decide,by decide⟩,(by show (0:Int) < _;decide),?_⟩;generalize hx:(c % 2147483647 * 48271 + 69621 * k + 7919) % 2147483629=x;have x1:0<=x:=by rw [<-hx];exact Int.emod_nonneg _ (by decide)
 have x2:x < 2147483629:=by rw [<-hx];exact Int.emod_lt_of_pos _ (by decide)
 refine ⟨.inl ⟨by omega,by omega⟩, .inl ⟨by decide,by decide⟩,(by show (0:Int) < _;decide),?_⟩;generalize hy:(x * x + 31 * k + 5) % 2147483587=y;have y1:0<=y:=by rw [<-hy];exact Int.emod_nonneg _ (by decide)
 have y2:y < 2147483587:=by rw [<-hy];exact Int.emod_lt_of_pos _ (by decide)
 refine ⟨.inl ⟨by omega,by omega⟩,(by show (0:Int) < _;decide),?_⟩;exact q _ (Int.emod_nonneg _ (by decide)) (Int.emod_lt_of_pos _ (by decide))
def Xu:Sp:=fun vs H Q _=> ∃ (c:Int),vs= [.int c]/\∀ p H',H p=none->But p H H'->Zo H' p->Q (.ref p) H'
theorem Wl(F:Fun K "_law_stream" "_law_stream" Gh f fd):ZQ P w K mg base CX0 (n + 1) f fd ["cell"] Xu:=by
 refine F.oq Bf fun cdv A outer s H vs Q E hr h=>?_;obtain ⟨c,rfl,q⟩:=h;refine ⟨_,ZF (ZV (Zp (pa4 (pv 0) (Lg (Yy Ij (pv 0) (ZX B6 ZD ZD) (ZW _)) (Jp (Yy UV (pv 0) (Mw W7 (ZX B6 ZD ZD)) (ZW _)))) ZD (ZX Vs (pv 0) ZD)))),?_⟩;have cp:L4 10 18:=⟨by decide,by decide,by decide⟩;refine ⟨cp,_,rfl,?_⟩;refine Yc (fun _=>?_) (fun _=>?_)
 .refine ⟨(by show (0:Int) < _;decide),sl 4,fun p hp=>?_⟩
  exact q p _ hp (But.upd _) ⟨_,_,_,_,ZC⟩
 .refine ⟨cp,_,rfl,?_⟩
  refine ⟨(by show (0:Int) < _;decide),sl 4,fun p hp=>?_⟩;exact q p _ hp (But.upd _) ⟨_,_,_,_,ZC⟩
def Yl:Sp:=fun vs H Q _=> ∃ (p:Addr) (many:Int),vs= [.ref p, .int many]/\Zo H p/\0 < many/\many < 1073741824/\∀ (r:Int) (H':Hp),0<=r->r < many->But p H H'->Zo H' p->Q (.int r) H'
theorem FT(F:Fun K "_law_take" "_law_take" Bj f fd)(G:ZQ P w K mg base CX0 n g gd ["cell","k"] GE)(bG:Binds K gd ["cell","k"] [])(kG:W.keepIn K (.ref g)=true)(mG:mg "_law_mixed" =some (.ref g)):
  ZQ P w K mg base CX0 (n + 1) f fd ["stream","many"] Yl:=by
 refine F.oq Bc fun cdv A outer s H vs Q E hr h=>?_;obtain ⟨p,many,rfl,⟨a,b,c,d,hp⟩,m0,m1,q⟩:=h;refine ⟨_,ZA (Zg (Yi (ZT Zh (pv 0) ZD))
   (ZA (ZM 2 Bc.nd (ZX Vs (ZT Zh (pv 0) ZD) (pv 1)))
   (ZA (V9 (ZX Mz (ZT Zh (pv 0) ZD) (pv 1)) (Gw (pv 0) ZD set_list))
   (ZA (V9 (JV (Yy B7 (ZT Zh (pv 0) ZD) ZD (ZW _)) (Jp (Yy B7 (ZT Zh (pv 0) ZD) (Mw W7 ZD) (ZW _)))) (Gw (pv 0) ZD set_list))
   (ZF (ZV (pv 2)))))) ZO)
  (ZA (V9 (ZX YC (ZT Zh (pv 0) ZD) ZD) (Gw (pv 0) ZD set_list))
  (ZF (ZV (ZX Vs (ZX Mz (Zy G hr rfl mG kG bG .nil YM (pa2 (ZT Zh (pv 0) ZD) (ZT Zh (pv 0) ZD))) ZD) (pv 1))))),?_⟩
 show let a:=_;let b:=ZK _ a;let c:=_;let d:=ZK _ c;let e:=ZK _ d;let f:=ZK _ e;ZK (Zv _ f _) b _ _ _
 intros
 refine ⟨_,_,SqL.of hp,rfl,_,rfl,?_⟩;refine Yc (fun hb=>?_) (fun hb=>?_)
 .refine ⟨_,_,SqL.of hp,rfl,m0,?_⟩
  refine ⟨_,_,SqL.of hp,rfl,⟨m0,m1⟩,p,_,0,0,rfl,rfl,hp,rfl,?_⟩;have h1:upd H p (.lst [.int (a / many), .bl b, .int c, .int d]) p=some (.lst [.int (a / many), .bl b, .int c, .int d]):=ZC;refine ⟨_,_,SqL.of h1,rfl,rfl,_,rfl,?_⟩;have r0:=Int.emod_nonneg a (show many≠0 by omega);have r1:=Int.emod_lt_of_pos a m0;refine Yc (fun _=>?_) (fun _=>?_)
  .refine ⟨_,_,SqL.of h1,rfl,_,rfl,rfl,p,_,1,1,rfl,rfl,h1,rfl,?_⟩
   exact q _ _ r0 r1 ((But.upd _).trans (But.upd _)) ⟨_,_,_,_,ZC⟩
  .refine ⟨p,_,1,1,rfl,rfl,h1,rfl,?_⟩
   exact q _ _ r0 r1 ((But.upd _).trans (But.upd _)) ⟨_,_,_,_,ZC⟩
 .refine ⟨_,_,SqL.of hp,rfl,p,_,2,2,rfl,rfl,hp,rfl,?_⟩
  have h1:upd H p (.lst [.int a, .bl b, .int (c + 1), .int d]) p=some (.lst [.int a, .bl b, .int (c + 1), .int d]):=ZC;refine ⟨_,_,SqL.of h1,rfl,_,_,SqL.of h1,rfl,_,_,rfl,fun r r0 r1=>?_⟩;refine ⟨⟨by decide,by decide⟩,m0,?_⟩;exact q _ _ (Int.emod_nonneg _ (by omega)) (Int.emod_lt_of_pos _ m0) (But.upd _) ⟨_,_,_,_,ZC⟩
end
end K4
namespace L2
open PySem
def alpha(o:Nat):Str:=⟨((List.range 26).map (o + ·)).toArray⟩
def one(c:Nat):Str:=⟨#[c]⟩
def txt(cs:List Nat):Str:=⟨cs.toArray⟩
theorem U9(o:Nat):(alpha o).length=26:=by show ((List.range 26).map (o + ·)).toArray.size=26;simp
theorem RP(o:Nat)(j:Int)(h0:0<=j)(h1:j < 26):atI (alpha o).cps.toList j=some (o + j.toNat):=by
 obtain ⟨n,rfl⟩:∃ n:Nat,j=n:=⟨j.toNat,by omega⟩;refine YA ?_;show (((List.range 26).map (o + ·)).toArray.toList)[n]?=_;rw [List.toList_toArray,On,List.getElem?_range (by omega)]
 rfl
theorem Kl(ho:o=97 \/ o=65)(h:o<=c/\c < o + 26):∃ i rest,Builtin.Str.occurrences (alpha o) (one c) 0 (alpha o).length 1=i::rest:=by
 have all:∀ j < 26,(Builtin.Str.occurrences (alpha 97) (one (97 + j)) 0 26 1).isEmpty=false/\(Builtin.Str.occurrences (alpha 65) (one (65 + j)) 0 26 1).isEmpty=false:=by decide +kernel
 rw [U9]
 have key:(Builtin.Str.occurrences (alpha o) (one c) 0 26 1).isEmpty=false:=by
  have a:=all (c - o) (by omega);rcases ho with rfl | rfl
  .have e:97 + (c - 97)=c:=by omega
   rw [e] at a;exact a.1
  .have e:65 + (c - 65)=c:=by omega
   rw [e] at a;exact a.2
 cases q:Builtin.Str.occurrences (alpha o) (one c) 0 26 1 with
 | nil=>rw [q] at key;cases key
 | cons i r=>exact ⟨i,r,rfl⟩
theorem NG{cs:List Nat}(h:cs.length=8):∃ a b c d e f g i,cs= [a,b,c,d,e,f,g,i]:=by
 match cs,h with
 | [a,b,c,d,e,f,g,i],_=>exact ⟨a,b,c,d,e,f,g,i,rfl⟩
theorem Lp(h:cs.length=8):Txt.join (Str.ofString "") (cs.map one)=txt cs:=by
 obtain ⟨a,b,c,d,e,f,g,i,rfl⟩:=NG h
 rfl
theorem TH(h:cs.length=8)(j:Nat)(hj:j<=8):Txt.slice (txt cs) none (some (j:Int))=txt (cs.take j):=by
 obtain ⟨a,b,c,d,e,f,g,i,rfl⟩:=NG h
 match j,hj with
 | 0,_ | 1,_ | 2,_ | 3,_ | 4,_ | 5,_ | 6,_ | 7,_ | 8,_=>rfl
theorem EQ(h:cs.length=8)(j:Nat)(hj:j<=8):Txt.slice (txt cs) (some (j:Int)) none=txt (cs.drop j):=by
 obtain ⟨a,b,c,d,e,f,g,i,rfl⟩:=NG h
 match j,hj with
 | 0,_ | 1,_ | 2,_ | 3,_ | 4,_ | 5,_ | 6,_ | 7,_ | 8,_=>
  unfold Txt.slice;rw [show (txt [a,b,c,d,e,f,g,i]).length=8 from rfl]
  first
   | (rw [if_pos (by decide +kernel)];rfl)
   | (rw [if_neg (by decide +kernel)];rfl)
theorem W9(a b:List Nat):txt a++ txt b=txt (a++ b):=by
 show (⟨a.toArray++ b.toArray⟩:Str)=⟨(a++ b).toArray⟩;simp
theorem Ek(h:txt a=txt b):a=b:=by
 have q:a.toArray=b.toArray:=congrArg Str.cps h;simpa using q
theorem W8(a:List Nat):(txt a).length=a.length:=by show a.toArray.size=a.length;simp
def wd(o:Nat)(cs:List Nat)(at' way i k:Nat):List Nat:=
 if way=0 then cs.take at'++ [o + (i + 5 * k) % 26]++ cs.drop (at' + 1)
 else if way=1 then [o + (i + 5 * k) % 26]++ cs.take ((3 * k + at') % 8)
 else if way=2 then cs.take (k % 8 + 1)
 else cs.take (8 - k % 8)
theorem LG(h8:cs.length=8)(ha:at' < 8)(hm:way < 2/\l < 24 \/ l < 8)(hkl:k < l):wd o cs at' way i k≠wd o cs at' way i l:=by
 intro e;have d:(i + 5 * k) % 26≠(i + 5 * l) % 26 \/ l ≥ 26:=by omega
 unfold wd at e
 by_cases w0:way=0
 .rw [if_pos w0,if_pos w0] at e
  have q:=congrArg (fun x:List Nat=>x[at']?) e;have lt:(cs.take at').length=at':=by rw [Ou];omega
  have g:∀ x:Nat,(cs.take at'++ [x]++ cs.drop (at' + 1))[at']?=some x:=fun x=>by
   rw [List.append_assoc,List.getElem?_append_right (by omega),lt];simp
  have q':=(g _).symm.trans (q.trans (g _));simp at q';omega
 rw [if_neg w0,if_neg w0] at e
 by_cases w1:way=1
 .rw [if_pos w1,if_pos w1] at e
  simp at e;omega
 rw [if_neg w1,if_neg w1] at e;have l8:l < 8:=by omega
 by_cases w2:way=2
 .rw [if_pos w2,if_pos w2] at e
  have q:=congrArg List.length e;rw [Ou,Ou] at q;omega
 rw [if_neg w2,if_neg w2] at e;have q:=congrArg List.length e;rw [Ou,Ou] at q;omega
theorem Iz(h8:cs.length=8)(ha:at' < 8):1<=(wd o cs at' way i k).length/\(wd o cs at' way i k).length<=8:=by
 unfold wd
 split
 .simp only [Os,Ou,List.length_drop,List.length_singleton];omega
 split
 .simp only [Os,Ou,List.length_singleton];omega
 split
 .rw [Ou];omega
 .rw [Ou];omega
theorem LH(hc:∀ c∈cs,o<=c/\c < o + 26):∀ c∈wd o cs at' way i k,o<=c/\c < o + 26:=by
 have z:o<=o + (i + 5 * k) % 26/\o + (i + 5 * k) % 26 < o + 26:=by omega
 intro c h;unfold wd at h
 split at h
 .simp only [O2,Ox] at h
  rcases h with (h | h) | h
  .exact hc c (PK h)
  .rw [h];exact z
  .exact hc c (List.mem_of_mem_drop h)
 split at h
 .simp only [O2,Ox] at h
  rcases h with h | h
  .rw [h];exact z
  .exact hc c (PK h)
 split at h
 .exact hc c (PK h)
 .exact hc c (PK h)
structure Wds(o:Nat)(ys:List Str):Prop where
 nd:ys.Nodup
 len:∀ y∈ys,1<=y.length/\y.length<=8
 abc:∀ y∈ys,∀ c∈y.cps.toList,o<=c/\c < o + 26
theorem Iy(h8:cs.length=8)(ha:at' < 8)(hm:way < 2/\m<=24 \/ m<=8)(hc:∀ c∈cs,o<=c/\c < o + 26):Wds o ((List.range m).map fun k=>txt (wd o cs at' way i k)):=by
 refine ⟨?_,fun y hy=>?_,fun y hy c hc'=>?_⟩
 .show List.Pairwise _ _
  rw [List.pairwise_map];refine List.Pairwise.imp_of_mem ?_ (List.pairwise_lt_range (n:=m));intro a b ha' hb hab e;exact LG (i:=i) h8 ha (by have:=List.mem_range.mp hb;omega) hab (Ek e)
 .obtain ⟨k,_,rfl⟩:=O1.mp hy
  rw [W8];exact Iz h8 ha
 .obtain ⟨k,_,rfl⟩:=O1.mp hy
  exact LH hc c (by simpa [txt] using hc')
def SameB(p:Addr)(H H':Hp):Prop:= ∀ b o,b≠p->H b=some o->H' b=some o
theorem SameB.refl(p:Addr)(H:Hp):SameB p H H:=fun _ _ _ h=>h
theorem SameB.trans(a:SameB p H H1)(b:SameB p H1 H2):SameB p H H2:=fun c o n h=>b c o n (a c o n h)
theorem But.sb(a:But p H H'):SameB p H H':=fun b o n h=>(a b n).trans h
theorem Same.sb(a:Same H H'):SameB p H H':=fun b o _ h=>a b o h
theorem SameB.free(a:SameB p H H')(n:r≠p)(h:H' r=none):H r=none:=by
 cases e:H r with
 | none=>rfl
 | some o=>rw [a r o n e] at h;cases h
theorem SameB.put(a:SameB p H H')(h:H r=none):SameB p H (upd H' r o):=fun b u n e=>by
 rw [ZE (ZG e h)];exact a b u n e
theorem Zo.ne(s:Zo H p)(h:H r=none):r≠p:=fun e=>by
 obtain ⟨a,b,c,d,q⟩:=s;rw [<-e,h] at q;cases q
theorem Zo.keep(s:Zo H p)(e:H' p=H p):Zo H' p:=by
 obtain ⟨a,b,c,d,q⟩:=s;exact ⟨a,b,c,d,e.trans q⟩
theorem Tl(a b:Str):(a++ b).length=a.length + b.length:=by
 show (a.cps++ b.cps).size=a.cps.size + b.cps.size;simp
theorem LC(h:cs.length=8)(lo hi:Option Int):(Txt.slice (txt cs) lo hi).length<=8:=by
 have q:=Txt.slice_le (txt cs) lo hi;rw [W8,h] at q;exact q
theorem Lf{at' way i k:Nat}(h:way < 4):atI [V.str (txt (cs.take at'++ [o + (i + 5 * k) % 26]++ cs.drop (at' + 1))),V.str (txt ([o + (i + 5 * k) % 26]++ cs.take ((3 * k + at') % 8))),V.str (txt (cs.take (k % 8 + 1))),V.str (txt (cs.take (8 - k % 8)))] (way:Int)=some (V.str (txt (wd o cs at' way i k))):=by
 match way,h with
 | 0,_ | 1,_ | 2,_ | 3,_=>rfl
end L2
namespace K4
open PySem L2
theorem V3:Za ["stream","many","letters","ways","k","base","at","way","words","sign","some"] ["stream","many","letters","ways"] (ZJ Rk):=Zu
theorem Kq:List.Nodup [("k" :Str),"letters","stream"]:=by decide +kernel
section
def XZ:Sp:=fun vs H Q _=> ∃ (p:Addr) (many:Nat) (o:Nat) (ways:Nat),vs= [.ref p, .int many, .str (alpha o), .int ways]/\Zo H p/\(o=97 \/ o=65)/\0 < ways/\(ways<=2/\many<=24 \/ ways<=4/\many<=8)/\
 ∀ (r:Addr) (ys:List Str) (H':Hp),SameB p H H'->Zo H' p->H r=none->r≠p->H' r=some (.lst (ys.map V.str))->ys.length=many->Wds o ys->Q (.ref r) H'
theorem B9(B:Blt mg)(F:Fun K "_law_words" "_law_words" Rk f fd)(G:ZQ P w K mg base CX0 n g gd ["stream","many"] Yl)(bG:Binds K gd ["stream","many"] [])(kG:W.keepIn K (.ref g)=true)(mG:mg "_law_take" =some (.ref g)):
  ZQ P w K mg base CX0 (n + 1) f fd ["stream","many","letters","ways"] XZ:=by
 refine F.oq V3 fun cdv A outer s H vs Q E hr h=>?_;obtain ⟨p,many,o,ways,rfl,hs,ho,hw,hm,q⟩:=h;refine ⟨_,ZA (ZM 5 V3.nd (JI PySem.F.plainAttrs_str PySem.F.slot_str_join PySem.F.type_str_join Fi ZY (pa1 (Y4 ["k"] [2,0] (VN rfl B.range (pa1 ZD)) (YO (i:=0) (by decide))
   (fun cl C fp s H=>ZL 0 Kq rfl (Or.inl rfl) (Or.inr rfl)) (fun cl C fp s H=>ZT (r:=E7) WE (pv 1) (Zy G hr rfl mG kG bG .nil YM (pa2 (pv 2) ZD)) (fun _ _=>rfl))))))
  (ZA (ZM 6 V3.nd (Zy G hr rfl mG kG bG .nil YM (pa2 (pv 0) ZD)))
  (ZA (ZM 7 V3.nd (Zy G hr rfl mG kG bG .nil YM (pa2 (pv 0) (pv 3))))
  (ZA (ZM 8 V3.nd (Zp YK))
  (ZA (Yb PassesOwn.never rfl (VN rfl B.range (pa1 (pv 1))) (ZL 4 V3.nd)
   (ZA (ZM 9 V3.nd (ZT WE (pv 2) (ZX Vs (ZX YC (JI PySem.F.plainAttrs_str PySem.F.slot_str_index PySem.F.type_str_index Ds (pv 2) (pa1 (ZT WE (pv 5) (pv 6) (fun _ _=>rfl)))) (ZX Y7 ZD (pv 4))) ZD) (fun _ _=>rfl)))
   (ZA (ZM 10 V3.nd (Zp (pa4 (ZX Vv (ZX Vv (Z3 Uk (pv 5) YW (YE (pv 6))) (pv 9)) (Z3 Uk (pv 5) (YE (ZX YC (pv 6) ZD)) YW)) (ZX Vv (pv 9) (Z3 Uk (pv 5) YW (YE (ZX Vs (ZX YC (ZX Y7 ZD (pv 4)) (pv 6)) ZD)))) (Z3 Uk (pv 5) YW (YE (ZX YC (ZX Vs (pv 4) ZD) ZD))) (Z3 Uk (pv 5) YW (YE (ZX Va ZD (ZX Vs (pv 4) ZD)))))))
   (ZF (Ye (JI PySem.F.plainAttrs_list PySem.F.slot_list_append PySem.F.type_list_append Yp (pv 8) (pa1 (ZT Zh (pv 10) (pv 7) (fun _ _=>rfl)))))))))
  (ZF (ZV (pv 8))))))),?_⟩
 show let a:=_;let b:=_;let c:=ZK _ b;let d:=ZK _ c;let e:=ZK (Vg _ _ d) a;let f:=ZK _ e;let g:=ZK _ f;let h:=ZK _ g;ZK _ h _ _ _
 intros
 have em:((many:Nat):Int).toNat=many:=Int.toNat_natCast _;refine ⟨rfl,8,rfl,by decide,by decide,?_⟩;refine YQ 8 (ZI (by decide)) (fun i vs H'=>SameB p H H'/\Zo H' p/\∃ cs:List Nat,vs=cs.map (fun c=>V.str (one c))/\cs.length=i/\∀ c∈cs,o<=c/\c < o + 26) ⟨SameB.refl _ _,hs, [],rfl,rfl,fun c h=>nomatch h⟩
  (fun i vs H' z=>by obtain ⟨_,_,cs,e,l,_⟩:=z;rw [e,Oh,l]) (fun i vs H' hi z=>hi) (fun vs H' z=>Om _) ?_ ?_
 .intro i vs H' x H'' R hi z yl hR
  obtain ⟨rfl,rfl⟩:=yl;obtain ⟨z1,z2,cs,rfl,zl,zc⟩:=z;refine ⟨p,26,rfl,z2,by decide,by decide,fun r H3 r0 r1 b s3=>?_⟩;refine ⟨alpha o,r,o + r.toNat,rfl,rfl,by rw [U9];decide,RP o r r0 r1,hR _ _ ⟨z1.trans b.sb,s3,cs++ [o + r.toNat],by rw [Oq];rfl,by rw [Os,zl];rfl,fun c hc=>?_⟩⟩;rcases O2.mp hc with h | h
  .exact zc c h
  .rw [Ox.mp h];omega
 intro vs H1 pl z hpl;obtain ⟨z1,z2,cs,rfl,z8,zc⟩:=z;have npl:pl≠p:=z2.ne hpl;have e1:cs.map (fun c=>V.str (one c))=(cs.map one).map V.str:=by rw [List.map_map];rfl
 refine ⟨_,pl,cs.map one,rfl,rfl,SqL.of (by rw [ZC,e1]),?_,?_⟩
 .obtain ⟨a,b,c,d,e,f,g,i,rfl⟩:=NG z8
  show (8:Nat) + 8 * 0<=16777216
  decide
 rw [Lp z8];have s1:Zo (upd H1 pl (.lst (cs.map fun c=>V.str (one c)))) p:=z2.keep (ZE (Ne.symm npl));have b1:SameB p H (upd H1 pl (.lst (cs.map fun c=>V.str (one c)))):=z1.trans (ZH hpl _).sb;generalize upd H1 pl (.lst (cs.map fun c=>V.str (one c)))=H2 at s1 b1;refine ⟨p,8,rfl,s1,by decide,by decide,fun at' H3 a0 a1 b3 s3=>?_⟩;refine ⟨p,ways,rfl,s3,by omega,by omega,fun way H4 w0 w1 b4 s4=>?_⟩;refine ⟨sl 0,fun wl hwl=>?_⟩;have b5:SameB p H H4:=(b1.trans b3.sb).trans b4.sb;have nwl:wl≠p:=s4.ne hwl;have fwl:H wl=none:=b5.free nwl hwl;obtain ⟨at1,rfl⟩:∃ n:Nat,at'=n:=⟨at'.toNat,by omega⟩;obtain ⟨way1,rfl⟩:∃ n:Nat,way=n:=⟨way.toNat,by omega⟩;have hat:at1 < 8:=by omega
 obtain ⟨c0,hc0⟩:∃ c0,cs[at1]?=some c0:=⟨cs[at1],Oi (by omega)⟩;obtain ⟨i0,rest,hocc⟩:=Kl ho (zc c0 (Oo hc0));refine ⟨many,rfl,by omega,by omega,?_⟩
 let I:Nat->St->Hp->Prop:=fun i U H'=>SameB p H H'/\Zo H' p/\H' wl=some (.lst (((List.range i).map fun k=>txt (wd o cs at1 way1 i0 k)).map V.str))/\
  ∃ z1 z2 z3,U= [some (.ref p),some (.int many),some (.str (alpha o)),some (.int ways),z1,some (.str (txt cs)),some (.int at1),some (.int way1),some (.ref wl),z2,z3]
 refine Ub (n:=((many:Nat):Int).toNat) I ?_ ?_ ?_
 .exact ⟨b5.put fwl,s4.keep (ZE (Ne.symm nwl)),ZC,_,_,_,rfl⟩
 .rintro BB RR i U H' hi ⟨y1,y2,y3,z1,z2,z3,rfl⟩
  rw [em] at hi;have tl:(txt cs).length<=sizeLine:=by rw [W8,z8];decide
  have hidx:(0:Int)<=((i0:Int) + 5 * (0 + (i:Int))) % 26/\((i0:Int) + 5 * (0 + (i:Int))) % 26 < 26:=by omega
  have e26:(((i0:Int) + 5 * (0 + (i:Int))) % 26).toNat=(i0 + 5 * i) % 26:=by omega
  refine ⟨rfl,txt cs,at1,c0,rfl,rfl,tl,YA (by simpa [txt] using hc0),_,_,i0,rest,rfl,rfl,hocc, .inl ⟨by decide,by decide⟩,(by show (0:Int) < _;decide),?_⟩;refine ⟨alpha o,_,_,rfl,rfl,by rw [U9];decide,RP o _ hidx.1 hidx.2,?_⟩;rw [e26];have sg:(⟨#[o + (i0 + 5 * i) % 26]⟩:Str)=txt [o + (i0 + 5 * i) % 26]:=rfl;rw [sg]
  have eA:Txt.slice (txt cs) none (some (at1:Int))++ txt [o + (i0 + 5 * i) % 26]++ Txt.slice (txt cs) (some ((at1:Int) + 1)) none=txt (cs.take at1++ [o + (i0 + 5 * i) % 26]++ cs.drop (at1 + 1)):=by
   have z:((at1:Int) + 1)=((at1 + 1:Nat):Int):=by omega
   rw [z,TH z8 at1 (by omega),EQ z8 (at1 + 1) (by omega),W9,W9]
  have eB:txt [o + (i0 + 5 * i) % 26]++ Txt.slice (txt cs) none (some ((3 * (0 + (i:Int)) + (at1:Int)) % 8))=txt ([o + (i0 + 5 * i) % 26]++ cs.take ((3 * i + at1) % 8)):=by
   have z:(3 * (0 + (i:Int)) + (at1:Int)) % 8=(((3 * i + at1) % 8:Nat):Int):=by omega
   rw [z,TH z8 _ (by omega),W9]
  have eC:Txt.slice (txt cs) none (some ((0 + (i:Int)) % 8 + 1))=txt (cs.take (i % 8 + 1)):=by
   have z:(0 + (i:Int)) % 8 + 1=((i % 8 + 1:Nat):Int):=by omega
   rw [z,TH z8 _ (by omega)]
  have eD:Txt.slice (txt cs) none (some (8 - (0 + (i:Int)) % 8))=txt (cs.take (8 - i % 8)):=by
   have z:8 - (0 + (i:Int)) % 8=((8 - i % 8:Nat):Int):=by omega
   rw [z,TH z8 _ (by omega)]
  have small:∀ m:Nat,m<=100->m<=sizeLine:=fun m h=>PF (ZI (by omega));have k1:∀ lo hi,(Txt.slice (txt cs) lo hi).length<=8:=fun lo hi=>LC z8 lo hi;have x1:(txt [o + (i0 + 5 * i) % 26]).length=1:=rfl;refine ⟨_,rfl,txt cs,rfl,tl,_,_,rfl,rfl,small _ (by have:=k1 none (some (at1:Int));omega),_,rfl,txt cs,rfl,tl,_,_,rfl,rfl,small _ (by have:=k1 none (some (at1:Int));have:=k1 (some ((at1:Int) + 1)) none;rw [Tl];omega),?_⟩;refine ⟨.inl ⟨by decide,by decide⟩,(by show (0:Int) < _;decide),_,rfl,txt cs,rfl,tl,_,_,rfl,rfl,small _ (by have:=k1 none (some ((3 * (0 + (i:Int)) + (at1:Int)) % 8));omega),?_⟩;refine ⟨(by show (0:Int) < _;decide),_,rfl,txt cs,rfl,tl,?_⟩;refine ⟨(by show (0:Int) < _;decide),_,rfl,txt cs,rfl,tl,sl 4,fun t ht=>?_⟩;rw [eA,eB,eC,eD];have nt:t≠p:=y2.ne ht;have ntw:wl≠t:=ZG y3 ht;refine ⟨.inl ⟨rfl,_,SqL.of ((ZE ntw).trans y3)⟩,_,_,SqL.of ZC,Lf (by omega),wl,_,_,rfl,rfl,(ZE ntw).trans y3,?_,?_⟩
  .rw [Oh,Oh,List.length_range]
   exact ZI (by omega)
  .have ft:H t=none:=y1.free nt ht
   refine ⟨(y1.put ft).put fwl,y2.keep ((ZE (Ne.symm nwl)).trans (ZE (Ne.symm nt))),?_,_,_,_,rfl⟩;rw [ZC,<-Vn,Oq]
   rfl
 .rintro U H' ⟨y1,y2,y3,z1,z2,z3,rfl⟩
  rw [em] at y3;refine q wl _ H' y1 y2 fwl nwl y3 (by simp) (Iy z8 hat ?_ zc);omega
end
end K4
namespace L2
open PySem PySem.Spec PyProof.Rows SeqAt
mutual
def Dat.pq:Dat->Dat->Bool
 | .non, .non=>true
 | .bl a, .bl b=>a==b
 | .bl a, .int b=>(if a then 1 else 0)==b
 | .int a, .bl b=>a==(if b then 1 else 0)
 | .int a, .int b=>a==b
 | .str a, .str b=>a==b
 | .tup a, .tup b=>Dat.pqs a b
 | .lst a, .lst b=>Dat.pqs a b
 | _,_=>false
def Dat.pqs:List Dat->List Dat->Bool
 | [], []=>true
 | a::as,b::bs=>Dat.pq a b && Dat.pqs as bs
 | _,_=>false
end
mutual
theorem Dat.pq_self:∀ a:Dat,a.pq a=true
 | .non=>by unfold Dat.pq;rfl
 | .bl b=>by unfold Dat.pq;exact beq_self_eq_true b
 | .int i=>by unfold Dat.pq;exact beq_self_eq_true i
 | .str x=>by unfold Dat.pq;exact beq_self_eq_true x
 | .tup ds=>by unfold Dat.pq;exact Dat.pqs_self ds
 | .lst ds=>by unfold Dat.pq;exact Dat.pqs_self ds
theorem Dat.pqs_self:∀ a:List Dat,Dat.pqs a a=true
 | []=>by unfold Dat.pqs;rfl
 | a::as=>by unfold Dat.pqs;rw [Dat.pq_self a,Dat.pqs_self as];rfl
end
theorem Xk:∀ (as bs:List Dat),((List.range (min as.length bs.length)).all (fun i=>((as[i]?).getD .non).pq ((bs[i]?).getD .non)) && as.length==bs.length)=Dat.pqs as bs
 | [], []=>by unfold Dat.pqs;rfl
 | [],_::_=>by unfold Dat.pqs;simp
 | _::_, []=>by unfold Dat.pqs;simp
 | a::as,b::bs=>by
  have ih:=Xk as bs;have e:min (a::as).length (b::bs).length=min as.length bs.length + 1:=by simp only [PB];omega
  rw [e,List.range_succ_eq_map,List.all_cons,List.all_map];unfold Dat.pqs;rw [<-ih];have e2:((a::as).length==(b::bs).length)=(as.length==bs.length):=by simp
  rw [e2,Bool.and_assoc]
  rfl
theorem E9(h:as.length=bs.length):(List.range as.length).all (fun i=>((as[i]?).getD .non).pq ((bs[i]?).getD .non))=Dat.pqs as bs:=by
 rw [<-Xk as bs,h];simp
theorem Kb(h:as.length≠bs.length):Dat.pqs as bs=false:=by
 rw [<-Xk as bs];simp [h]
theorem JQ{s:Shared}(ok:HOk P w H s.heap)(h:H a=some (.tup xs)):∃ its:List Value,Vals xs its/\s.heap.IsTuple a its.toArray:=by
 obtain ⟨_,its,r,p⟩:=(show Zr P w H s.heap a (.tup xs) from ok a _ h);exact ⟨its,r,p.is⟩
theorem JX{s:Shared}(ok:HOk P w H s.heap)(h:H a=some (.lst xs)):∃ its:List Value,Vals xs its/\s.heap.IsList a its.toArray:=by
 obtain ⟨_,its,n,r,p⟩:=(show Zr P w H s.heap a (.lst xs) from ok a _ h);exact ⟨its,r,_,p,rfl,n,rfl⟩
structure Cmp(A:Around)(s:Shared)(u v:Value)(b:Bool):Prop where
 eq:EqAt A s u v b
 rc:RcAt A s u v b
 ne:RcNeAt A s u v (!b)
theorem Uc(ok:HOk P w H s.heap):∀ (n:Nat) (d1 d2:Dat) (A:Around) {x y:V}{u v:Value},d1.dep<=n->Has H x d1->Has H y d2->RelV x u->RelV y v->YR (n + 1) A->Cmp A s u v (d1.pq d2)
 | n,d1,d2,A,x,y,u,v,hn,hx,hy,ru,rv,hr=>by
  have hu:=hr.units0
  cases d1 with
  | non=>
   unfold Has at hx;subst hx;cases ru
   cases d2 with
   | non=>unfold Has at hy;subst hy;cases rv;unfold Dat.pq;exact ⟨.same _, .none_none, .none_none⟩
   | bl b=>unfold Has at hy;subst hy;cases rv;unfold Dat.pq;exact ⟨.none_bool _, .none_bool _, .none_bool _⟩
   | int b=>unfold Has at hy;subst hy;obtain ⟨t',rfl⟩:=rv;unfold Dat.pq;exact ⟨.none_int _ _, .none_int _ _, .none_int _ _⟩
   | str b=>unfold Has at hy;subst hy;obtain ⟨t',rfl⟩:=rv;unfold Dat.pq;exact ⟨.none_str _ _, .none_str _ _, .none_str _ _⟩
   | tup es=>unfold Has at hy;obtain ⟨p,ys,rfl,hp,_⟩:=hy;cases rv;obtain ⟨its,r,pt⟩:=JQ ok hp;unfold Dat.pq;exact ⟨.none_tuple pt hu, .none_tuple pt hu, .none_tuple pt hu⟩
   | lst es=>unfold Has at hy;obtain ⟨p,ys,rfl,hp,_⟩:=hy;cases rv;obtain ⟨its,r,pt⟩:=JX ok hp;unfold Dat.pq;exact ⟨.none_list pt hu, .none_list pt hu, .none_list pt hu⟩
  | bl a=>
   unfold Has at hx;subst hx;cases ru
   cases d2 with
   | non=>unfold Has at hy;subst hy;cases rv;unfold Dat.pq;exact ⟨.bool_none _, .bool_none _, .bool_none _⟩
   | bl b=>unfold Has at hy;subst hy;cases rv;unfold Dat.pq;exact ⟨.bool_bool _ _, .bool_bool _ _, .bool_bool _ _⟩
   | int b=>unfold Has at hy;subst hy;obtain ⟨t',rfl⟩:=rv;unfold Dat.pq;exact ⟨.bool_int _ _ _, .bool_int _ _ _, .bool_int _ _ _⟩
   | str b=>unfold Has at hy;subst hy;obtain ⟨t',rfl⟩:=rv;unfold Dat.pq;exact ⟨.bool_str _ _ _, .bool_str _ _ _, .bool_str _ _ _⟩
   | tup es=>unfold Has at hy;obtain ⟨p,ys,rfl,hp,_⟩:=hy;cases rv;obtain ⟨its,r,pt⟩:=JQ ok hp;unfold Dat.pq;exact ⟨.bool_tuple _ pt hu, .bool_tuple _ pt hu, .bool_tuple _ pt hu⟩
   | lst es=>unfold Has at hy;obtain ⟨p,ys,rfl,hp,_⟩:=hy;cases rv;obtain ⟨its,r,pt⟩:=JX ok hp;unfold Dat.pq;exact ⟨.bool_list _ pt hu, .bool_list _ pt hu, .bool_list _ pt hu⟩
  | int a=>
   unfold Has at hx;subst hx;obtain ⟨t,rfl⟩:=ru
   cases d2 with
   | non=>unfold Has at hy;subst hy;cases rv;unfold Dat.pq;exact ⟨.int_none _ _, .int_none _ _, .int_none _ _⟩
   | bl b=>unfold Has at hy;subst hy;cases rv;unfold Dat.pq;exact ⟨.int_bool _ _ _, .int_bool _ _ _, .int_bool _ _ _⟩
   | int b=>unfold Has at hy;subst hy;obtain ⟨t',rfl⟩:=rv;unfold Dat.pq;exact ⟨.int_int _ _ _ _, .int_int _ _ _ _, .int_int _ _ _ _⟩
   | str b=>unfold Has at hy;subst hy;obtain ⟨t',rfl⟩:=rv;unfold Dat.pq;exact ⟨.int_str _ _ _ _, .int_str _ _ _ _, .int_str _ _ _ _⟩
   | tup es=>unfold Has at hy;obtain ⟨p,ys,rfl,hp,_⟩:=hy;cases rv;obtain ⟨its,r,pt⟩:=JQ ok hp;unfold Dat.pq;exact ⟨.int_tuple _ _ pt hu, .int_tuple _ _ pt hu, .int_tuple _ _ pt hu⟩
   | lst es=>unfold Has at hy;obtain ⟨p,ys,rfl,hp,_⟩:=hy;cases rv;obtain ⟨its,r,pt⟩:=JX ok hp;unfold Dat.pq;exact ⟨.int_list _ _ pt hu, .int_list _ _ pt hu, .int_list _ _ pt hu⟩
  | str a=>
   unfold Has at hx;subst hx;obtain ⟨t,rfl⟩:=ru
   cases d2 with
   | non=>unfold Has at hy;subst hy;cases rv;unfold Dat.pq;exact ⟨.str_none _ _, .str_none _ _, .str_none _ _⟩
   | bl b=>unfold Has at hy;subst hy;cases rv;unfold Dat.pq;exact ⟨.str_bool _ _ _, .str_bool _ _ _, .str_bool _ _ _⟩
   | int b=>unfold Has at hy;subst hy;obtain ⟨t',rfl⟩:=rv;unfold Dat.pq;exact ⟨.str_int _ _ _ _, .str_int _ _ _ _, .str_int _ _ _ _⟩
   | str b=>unfold Has at hy;subst hy;obtain ⟨t',rfl⟩:=rv;unfold Dat.pq;exact ⟨.str_str _ _ _ _, .str_str _ _ _ _, .str_str _ _ _ _⟩
   | tup es=>unfold Has at hy;obtain ⟨p,ys,rfl,hp,_⟩:=hy;cases rv;obtain ⟨its,r,pt⟩:=JQ ok hp;unfold Dat.pq;exact ⟨.str_tuple _ _ pt hu, .str_tuple _ _ pt hu, .str_tuple _ _ pt hu⟩
   | lst es=>unfold Has at hy;obtain ⟨p,ys,rfl,hp,_⟩:=hy;cases rv;obtain ⟨its,r,pt⟩:=JX ok hp;unfold Dat.pq;exact ⟨.str_list _ _ pt hu, .str_list _ _ pt hu, .str_list _ _ pt hu⟩
  | tup ds=>
   unfold Has at hx;obtain ⟨p,xs,rfl,hp,hxs⟩:=hx;cases ru;obtain ⟨its,r,pt⟩:=JQ ok hp
   cases d2 with
   | non=>unfold Has at hy;subst hy;cases rv;unfold Dat.pq;exact ⟨.tuple_none pt hu, .tuple_none pt hu, .tuple_none pt hu⟩
   | bl b=>unfold Has at hy;subst hy;cases rv;unfold Dat.pq;exact ⟨.tuple_bool _ pt hu, .tuple_bool _ pt hu, .tuple_bool _ pt hu⟩
   | int b=>unfold Has at hy;subst hy;obtain ⟨t',rfl⟩:=rv;unfold Dat.pq;exact ⟨.tuple_int _ _ pt hu, .tuple_int _ _ pt hu, .tuple_int _ _ pt hu⟩
   | str b=>unfold Has at hy;subst hy;obtain ⟨t',rfl⟩:=rv;unfold Dat.pq;exact ⟨.tuple_str _ _ pt hu, .tuple_str _ _ pt hu, .tuple_str _ _ pt hu⟩
   | lst es=>unfold Has at hy;obtain ⟨q,ys,rfl,hq,_⟩:=hy;cases rv;obtain ⟨its2,r2,pt2⟩:=JX ok hq;unfold Dat.pq;exact ⟨.tuple_list pt pt2 hu, .tuple_list pt pt2 hu, .tuple_list pt pt2 hu⟩
   | tup es=>
    unfold Has at hy;obtain ⟨p2,ys,rfl,hp2,hys⟩:=hy;cases rv;obtain ⟨its2,r2,pt2⟩:=JQ ok hp2;have l1:=hxs.length;have l2:=hys.length;have l3:=r.length;have l4:=r2.length;have dd:Dat.deps ds + 1<=n:=by unfold Dat.dep at hn;omega
    obtain ⟨m,rfl⟩:∃ m,n=m + 1:=⟨n - 1,by omega⟩
    have it:∀ j (h1:j < its.toArray.size) (h2:j < its2.toArray.size),EqAt A.in1 s its.toArray[j] its2.toArray[j] ((fun i=>((ds[i]?).getD .non).pq ((es[i]?).getD .non)) j):=by
     intro j h1 h2;rw [Ov] at h1 h2;have j1:j < xs.length:=by omega
     have j2:j < ys.length:=by omega
     obtain ⟨d,hd,hh⟩:=hxs.get (Oi j1);obtain ⟨d',hd',hh'⟩:=hys.get (Oi j2);obtain ⟨u1,hu1,ru1⟩:=r.get (Oi j1);obtain ⟨u2,hu2,ru2⟩:=r2.get (Oi j2);have i1:its.toArray[j]=u1:=by have z:=(Ol.mp hu1).2;simpa using z
     have i2:its2.toArray[j]=u2:=by have z:=(Ol.mp hu2).2;simpa using z
     dsimp only;rw [i1,i2,hd,hd'];have c1:=Dat.deps_get hd;exact (Uc ok m d d' A.in1 (by omega) hh hh' ru1 ru2 hr.in1).eq
    have k1:its.toArray.size=ds.length:=by rw [Ov];omega
    have k2:its2.toArray.size=es.length:=by rw [Ov];omega
    have q:=RcAt.tuples (A:=A) pt pt2 hu it;have qn:=RcNeAt.tuples (A:=A) pt pt2 hu it;rw [k1,k2,Xk] at q qn;have e0:(Dat.tup ds).pq (Dat.tup es)=Dat.pqs ds es:=by conv=>lhs;unfold Dat.pq
    rw [e0];refine ⟨?_,q,qn⟩
    by_cases e:p=p2
    .subst e
     rw [hp] at hp2;cases hp2;rw [HasL.inj ds es hxs hys,Dat.pqs_self];exact EqAt.same _
    .exact EqAt.of_refs e q
  | lst ds=>
   unfold Has at hx;obtain ⟨p,xs,rfl,hp,hxs⟩:=hx;cases ru;obtain ⟨its,r,pt⟩:=JX ok hp
   cases d2 with
   | non=>unfold Has at hy;subst hy;cases rv;unfold Dat.pq;exact ⟨.list_none pt hu, .list_none pt hu, .list_none pt hu⟩
   | bl b=>unfold Has at hy;subst hy;cases rv;unfold Dat.pq;exact ⟨.list_bool _ pt hu, .list_bool _ pt hu, .list_bool _ pt hu⟩
   | int b=>unfold Has at hy;subst hy;obtain ⟨t',rfl⟩:=rv;unfold Dat.pq;exact ⟨.list_int _ _ pt hu, .list_int _ _ pt hu, .list_int _ _ pt hu⟩
   | str b=>unfold Has at hy;subst hy;obtain ⟨t',rfl⟩:=rv;unfold Dat.pq;exact ⟨.list_str _ _ pt hu, .list_str _ _ pt hu, .list_str _ _ pt hu⟩
   | tup es=>unfold Has at hy;obtain ⟨q,ys,rfl,hq,_⟩:=hy;cases rv;obtain ⟨its2,r2,pt2⟩:=JQ ok hq;unfold Dat.pq;exact ⟨.list_tuple pt pt2 hu, .list_tuple pt pt2 hu, .list_tuple pt pt2 hu⟩
   | lst es=>
    unfold Has at hy;obtain ⟨p2,ys,rfl,hp2,hys⟩:=hy;cases rv;obtain ⟨its2,r2,pt2⟩:=JX ok hp2;have l1:=hxs.length;have l2:=hys.length;have l3:=r.length;have l4:=r2.length;have dd:Dat.deps ds + 1<=n:=by unfold Dat.dep at hn;omega
    obtain ⟨m,rfl⟩:∃ m,n=m + 1:=⟨n - 1,by omega⟩
    have it:∀ j (h1:j < its.toArray.size) (h2:j < its2.toArray.size),EqAt A.in1 s its.toArray[j] its2.toArray[j] ((fun i=>((ds[i]?).getD .non).pq ((es[i]?).getD .non)) j):=by
     intro j h1 h2;rw [Ov] at h1 h2;have j1:j < xs.length:=by omega
     have j2:j < ys.length:=by omega
     obtain ⟨d,hd,hh⟩:=hxs.get (Oi j1);obtain ⟨d',hd',hh'⟩:=hys.get (Oi j2);obtain ⟨u1,hu1,ru1⟩:=r.get (Oi j1);obtain ⟨u2,hu2,ru2⟩:=r2.get (Oi j2);have i1:its.toArray[j]=u1:=by have z:=(Ol.mp hu1).2;simpa using z
     have i2:its2.toArray[j]=u2:=by have z:=(Ol.mp hu2).2;simpa using z
     dsimp only;rw [i1,i2,hd,hd'];have c1:=Dat.deps_get hd;exact (Uc ok m d d' A.in1 (by omega) hh hh' ru1 ru2 hr.in1).eq
    have k1:its.toArray.size=ds.length:=by rw [Ov];omega
    have k2:its2.toArray.size=es.length:=by rw [Ov];omega
    have e0:(Dat.lst ds).pq (Dat.lst es)=Dat.pqs ds es:=by conv=>lhs;unfold Dat.pq
    rw [e0]
    have qq:RcAt A s (.ref p) (.ref p2) (Dat.pqs ds es)/\RcNeAt A s (.ref p) (.ref p2) (!Dat.pqs ds es):=by
     by_cases e:ds.length=es.length
     .have q:=RcAt.lists (A:=A) pt pt2 (by omega) hu it
      have qn:=RcNeAt.lists (A:=A) pt pt2 (by omega) hu it;rw [k1,E9 e] at q qn;exact ⟨q,qn⟩
     .have z:(its.toArray.size !=its2.toArray.size)=true:=by rw [k1,k2];simp [e]
      rw [Kb e];exact ⟨RcAt.lists_lengths (A:=A) pt pt2 z hu,RcNeAt.lists_lengths (A:=A) pt pt2 z hu⟩
    refine ⟨?_,qq.1,qq.2⟩
    by_cases e:p=p2
    .subst e
     rw [hp] at hp2;cases hp2;rw [HasL.inj ds es hxs hys,Dat.pqs_self];exact EqAt.same _
    .exact EqAt.of_refs e qq.1
 termination_by n=>n
section
def OP(k:Nat):R2:=fun x y H Q=> ∃ d e,Has H x d/\Has H y e/\d.dep<=k/\Q (.bl (d.pq e)) H
def ON(k:Nat):R2:=fun x y H Q=> ∃ d e,Has H x d/\Has H y e/\d.dep<=k/\Q (.bl (!d.pq e)) H
theorem X8(hr:YR (k + 1) X.A):OpR X (compareOp .Eq) (OP k):=by
 intro pins s U H x y v u Q I rx ry h;obtain ⟨d,e,hd,he,hk,q⟩:=h;exact (Uc I.hok k d e X.A hk hd he rx ry hr).rc _ _ _ _ ⟨.bl _,H,I,rfl,q⟩
theorem MC(hr:YR (k + 1) X.A):OpR X (compareOp .NotEq) (ON k):=by
 intro pins s U H x y v u Q I rx ry h;obtain ⟨d,e,hd,he,hk,q⟩:=h;exact (Uc I.hok k d e X.A hk hd he rx ry hr).ne _ _ _ _ ⟨.bl _,H,I,rfl,q⟩
end
end L2
namespace L2
open PySem PySem.Spec PyProof.Rows
mutual
def Dat.st:Dat->Bool
 | .str _=>true
 | .tup ds=>Dat.sts ds
 | _=>false
def Dat.sts:List Dat->Bool
 | []=>true
 | d::ds=>d.st && Dat.sts ds
end
theorem Dat.sts_get:∀ {ds:List Dat}{i:Nat}{d:Dat},Dat.sts ds=true->ds[i]?=some d->d.st=true
 | [],i,d,_,e=>by simp at e
 | a::ds,0,d,h,e=>by
  have e':some a=some d:=e;cases e';unfold Dat.sts at h;exact (Bool.and_eq_true_iff.mp h).1
 | a::ds,i + 1,d,h,e=>by
  unfold Dat.sts at h;exact Dat.sts_get (i:=i) (Bool.and_eq_true_iff.mp h).2 e
mutual
theorem Ie:∀ (a b:Dat),a.st=true->b.st=true->a.pq b=a.beq b
 | .str _,b,_,k=>by cases b <;> first | (unfold Dat.pq Dat.beq;rfl) | (unfold Dat.st at k;cases k)
 | .tup ds,b,h,k=>by
  unfold Dat.st at h
  cases b with
  | tup es=>unfold Dat.st at k;unfold Dat.pq Dat.beq;exact Mj ds es h k
  | str _=>unfold Dat.pq Dat.beq;rfl
  | _=>unfold Dat.st at k;cases k
 | .non,_,h,_ | .bl _,_,h,_ | .int _,_,h,_ | .lst _,_,h,_=>by unfold Dat.st at h;cases h
theorem Mj:∀ (a b:List Dat),Dat.sts a=true->Dat.sts b=true->Dat.pqs a b=Dat.beqs a b
 | [],b,_,_=>by cases b <;> (unfold Dat.pqs Dat.beqs;rfl)
 | _::_, [],_,_=>by unfold Dat.pqs Dat.beqs;rfl
 | a::as,b::bs,h,k=>by
  unfold Dat.sts at h k;rw [O4] at h k;unfold Dat.pqs Dat.beqs;rw [Ie a b h.1 k.1,Mj as bs h.2 k.2]
end
def OO(K:W.Frag):R2:=fun x y H Q=> ∃ (p:Addr) (xs:List V) (ds:List Dat) (d:Dat),y= .ref p/\SqL K H p xs/\HasL H xs ds/\Has H x d/\Dat.sts ds=true/\d.st=true/\Dat.deps ds<=4/\Q (.bl (ds.any fun e=>e.beq d)) H
theorem XN:∀ {xs:List V}{us:List Value}{ds:List Dat}(e:Value->Bool),Vals xs us->HasL H xs ds->(∀ (i:Nat) (u:Value) (c:Dat),us[i]?=some u->ds[i]?=some c->e u=c.beq d)->us.any e=ds.any fun c=>c.beq d
 | [],_,ds,e,r,h,_=>by
  cases r
  cases ds with
  | nil=>rfl
  | cons _ _=>unfold HasL at h;exact h.elim
 | x::xs,_,ds,e,r,h,hz=>by
  cases r with
  | cons r1 r2=>
   cases ds with
   | nil=>unfold HasL at h;exact h.elim
   | cons c ds=>
    unfold HasL at h;rw [List.any_cons,List.any_cons,hz 0 _ c rfl rfl,XN e r2 h.2 fun i u c' e1 e2=>hz (i + 1) u c' e1 e2]
theorem Ni(hr:YR (k + 6) X.A):OpR X (compareOp .In) (OO X.K):=by
 intro pins s U H x y v u Q I rx ry h;obtain ⟨p,xs,ds,d,rfl,hq,hl,hd,st1,st2,dp,q⟩:=h;cases ry;obtain ⟨its,r,pl,hz⟩:=I.list hq;have hr5:YR 5 X.A.in1:=(hr.mono (by omega:6<=k + 6)).in1
 let e:Value->Bool:=fun u=> @decide (∃ (i:Nat) (c:Dat),its[i]?=some u/\ds[i]?=some c/\c.beq d=true) (Classical.propDecidable _)
 have key:∀ (i:Nat) (u:Value) (c:Dat),its[i]?=some u->ds[i]?=some c->∀ (x1:V),RelV x1 u->Has H x1 c->SeqAt.EqAt X.A.in1 s u v (c.beq d):=fun i u c e1 e2 x1 r1 h1=>by
  have:=Dat.deps_get e2;rw [<-Ie c d (Dat.sts_get st1 e2) st2];exact (Uc I.hok 4 c d X.A.in1 (by omega) h1 hd r1 rx hr5).eq
 have one:∀ (i:Nat) (u:Value) (c:Dat),its[i]?=some u->ds[i]?=some c->e u=c.beq d:=fun i u c e1 e2=>by
  have hi:i < its.length:=(Ol.mp e1).1;have l:=r.length;obtain ⟨u1,hu1,ru1⟩:=r.get (Oi (show i < xs.length by omega));rw [e1] at hu1;cases hu1;obtain ⟨c1,hc1,hh1⟩:=hl.get (Oi (show i < xs.length by omega));rw [e2] at hc1;cases hc1
  by_cases b:c.beq d=true
  .rw [b]
   exact @decide_eq_true _ (Classical.propDecidable _) ⟨i,c,e1,e2,b⟩
  .have b':c.beq d=false:=by simpa using b
   rw [b'];refine @decide_eq_false _ (Classical.propDecidable _) ?_;rintro ⟨j,c',f1,f2,f3⟩;have hj:j < its.length:=(Ol.mp f1).1;obtain ⟨u2,hu2,ru2⟩:=r.get (Oi (show j < xs.length by omega));rw [f1] at hu2;cases hu2;obtain ⟨c2,hc2,hh2⟩:=hl.get (Oi (show j < xs.length by omega));rw [f2] at hc2;cases hc2;have ev:=RelV.inj ru1 ru2;rw [ev] at hh1;rw [Has.inj c c' hh1 hh2,f3] at b';cases b'
 refine SeqAt.in_listAt e pl.isList (fun w hw=>?_) ⟨.bl _,H,I,rfl,?_⟩
 .obtain ⟨i,hi,ei⟩:=List.mem_iff_getElem.mp (show w∈its by simpa using hw)
  have l:=r.length;obtain ⟨u1,hu1,ru1⟩:=r.get (Oi (show i < xs.length by omega));have e1:its[i]?=some w:=by rw [Oi hi,ei]
  rw [e1] at hu1;cases hu1;obtain ⟨c1,hc1,hh1⟩:=hl.get (Oi (show i < xs.length by omega));rw [one i w c1 e1 hc1];exact key i w c1 e1 hc1 _ ru1 hh1
 .rw [show its.toArray.any e=its.any e by simp,XN e r hl one]
  exact q
inductive Shp where
 | tags (ts:List Str)
 | pair (a b:Str)
def Shp.dat:Shp->Dat
 | .tags ts=> .tup [.str "tags", .tup (ts.map Dat.str)]
 | .pair a b=> .tup [.str "pair", .str a, .str b]
theorem Ti:∀ ts:List Str,Dat.sts (ts.map Dat.str)=true
 | []=>by unfold Dat.sts;rfl
 | t::ts=>by rw [O0];unfold Dat.sts;rw [Ti ts];unfold Dat.st;rfl
theorem Wc:∀ ts:List Str,Dat.deps (ts.map Dat.str)=0
 | []=>by unfold Dat.deps;rfl
 | t::ts=>by rw [O0];unfold Dat.deps;rw [Wc ts];unfold Dat.dep;rfl
theorem Shp.st:∀ s:Shp,s.dat.st=true
 | .tags ts=>by simp [Shp.dat,Dat.st,Dat.sts,Ti]
 | .pair a b=>by simp [Shp.dat,Dat.st,Dat.sts]
theorem Shp.dep:∀ s:Shp,s.dat.dep<=2
 | .tags ts=>by simp [Shp.dat,Dat.dep,Dat.deps,Wc]
 | .pair a b=>by simp [Shp.dat,Dat.dep,Dat.deps]
theorem Xz:∀ ss:List Shp,Dat.sts (ss.map Shp.dat)=true
 | []=>by unfold Dat.sts;rfl
 | t::ts=>by rw [O0];unfold Dat.sts;rw [Xz ts,Shp.st];rfl
theorem We:∀ ss:List Shp,Dat.deps (ss.map Shp.dat)<=2
 | []=>by unfold Dat.deps;decide
 | t::ts=>by rw [O0];unfold Dat.deps;exact Nat.max_le.mpr ⟨Shp.dep t,We ts⟩
theorem Zt(s:Zo H p)(h:H a=some (.tup xs)):a≠p:=fun e=>by
 obtain ⟨_,_,_,_,q⟩:=s;rw [<-e,h] at q;cases q
mutual
theorem K5{H H':Hp}{p:Addr}(b:SameB p H H')(s:Zo H p):∀ (d:Dat) {v:V},d.st=true->Has H v d->Has H' v d
 | .str _,_,_,h=>by unfold Has at h |-;exact h
 | .tup ds,_,t,h=>by
  unfold Has at h |-;obtain ⟨a,xs,h1,h2,h3⟩:=h;unfold Dat.st at t;exact ⟨a,xs,h1,b _ _ (Zt s h2) h2,WG b s ds t h3⟩
 | .non,_,t,_=>by unfold Dat.st at t;cases t
 | .bl _,_,t,_=>by unfold Dat.st at t;cases t
 | .int _,_,t,_=>by unfold Dat.st at t;cases t
 | .lst _,_,t,_=>by unfold Dat.st at t;cases t
theorem WG{H H':Hp}{p:Addr}(b:SameB p H H')(s:Zo H p):∀ (ds:List Dat) {xs:List V},Dat.sts ds=true->HasL H xs ds->HasL H' xs ds
 | [], [],_,h=>HasL.nil
 | [],_::_,_,h=>by unfold HasL at h;exact h.elim
 | _::_, [],_,h=>by unfold HasL at h;exact h.elim
 | d::ds,x::xs,t,h=>by
  unfold HasL at h;unfold Dat.sts at t;have t':=Bool.and_eq_true_iff.mp t;exact HasL.cons (K5 b s d t'.1 h.1) (WG b s ds t'.2 h.2)
end
theorem Fp{ss:List Shp}(b:SameB p H H')(s:Zo H p)(h:HasL H xs (ss.map Shp.dat)):HasL H' xs (ss.map Shp.dat):=WG b s _ (Xz ss) h
def Nums(H:Hp)(d:Addr)(ys:List Str)(lo hi:Nat):Prop:= ∃ kvs,H d=some (.dK kvs)/\kvs.length<=ys.length/\∀ y∈ys,∃ n:Nat,Zl kvs (Sum.inr y)=some (.int n)/\lo<=n/\n<=hi
end L2
namespace K4
open PySem L2
theorem Ex:Za ["stream","many"] ["stream","many"] (ZJ Rm):=Zu
theorem Gf:Za ["stream","names","counts","depths","taken","top","one","other","deep"] ["stream","names","counts","depths","taken","top"] (ZJ Bm):=Zu
theorem Ui:(Str.ofString "abcdefghijklmnopqrstuvwxyz")=alpha 97:=by decide +kernel
theorem Wp:(Str.ofString "ABCDEFGHIJKLMNOPQRSTUVWXYZ")=alpha 65:=by decide +kernel
section
variable{K:W.Frag}
def JR:Sp:=fun vs H Q _=> ∃ (p:Addr) (many:Nat),vs= [.ref p, .int many]/\Zo H p/\many<=8/\
 ∀ (r:Addr) (ys:List Str) (H':Hp),SameB p H H'->Zo H' p->H r=none->r≠p->H' r=some (.lst (ys.map V.str))->ys.length=many->Wds 97 ys->Q (.ref r) H'
theorem DI(F:Fun K "_law_small" "_law_small" Rm f fd)(G:ZQ P w K mg base CX0 n g gd ["stream","many","letters","ways"] XZ)(bG:Binds K gd ["stream","many","letters","ways"] [])(kG:W.keepIn K (.ref g)=true)(mG:mg "_law_words" =some (.ref g)):
  ZQ P w K mg base CX0 (n + 1) f fd ["stream","many"] JR:=by
 refine F.oq Ex fun cdv A outer s H vs Q E hr h=>?_;obtain ⟨p,many,rfl,hs,hm,q⟩:=h;refine ⟨_,ZF (ZV (Zy G hr rfl mG kG bG .nil YM (pa4 (pv 0) (pv 1) ZY ZD))),?_⟩;refine ⟨p,many,97,4,?_,hs, .inl rfl,by decide, .inr ⟨by decide,hm⟩,q⟩;rw [<-Ui];rfl
def Rc(K:W.Frag):Sp:=fun vs H Q _=> ∃ (p nm cn dp tk:Addr) (top:Nat) (ys:List Str) (ss:List Shp),vs= [.ref p, .ref nm, .ref cn, .ref dp, .ref tk, .int top]/\Zo H p/\H nm=some (.lst (ys.map V.str))/\0 < ys.length/\ys.length<=8/\
 Nums H cn ys 0 1000/\Nums H dp ys 0 1000/\Has H (.ref tk) (.lst (ss.map Shp.dat))/\nm≠p/\cn≠p/\dp≠p/\tk≠p/\
 ∀ (v:V) (H':Hp),SameB p H H'->Zo H' p->(v= .non \/ ∃ (a b:Str) (r:Addr) (ca cb da db:Nat),a∈ys/\b∈ys/\v= .ref r/\H r=none/\H' r=some (.tup [.str "pair", .str a, .str b])/\
  (∀ kvs,H cn=some (.dK kvs)->Zl kvs (Sum.inr a)=some (.int ca)/\Zl kvs (Sum.inr b)=some (.int cb))/\(∀ kvs,H dp=some (.dK kvs)->Zl kvs (Sum.inr a)=some (.int da)/\Zl kvs (Sum.inr b)=some (.int db))/\
  1 + max da db<=2/\1 + ca * cb<=top/\Shp.pair a b ∉ ss)->Q v H'
theorem FY(B:Blt mg)(F:Fun K "_law_pair" "_law_pair" Bm f fd)(G:ZQ P w K mg base CX0 (n + 6) g gd ["stream","many"] Yl)(bG:Binds K gd ["stream","many"] [])(kG:W.keepIn K (.ref g)=true)(mG:mg "_law_take" =some (.ref g)):
  ZQ P w K mg base CX0 (n + 6 + 1) f fd ["stream","names","counts","depths","taken","top"] (Rc K):=by
 refine F.oq Gf fun cdv A outer s H vs Q E hr h=>?_;obtain ⟨p,nm,cn,dp,tk,top,ys,ss,rfl,hs,hn,y0,y8,hc,hd,ht,n1,n2,n3,n4,q⟩:=h;have hu:=Y3 hr;refine ⟨_,ZA (ZM 6 Gf.nd (ZT Zh (pv 1) (Zy G hr rfl mG kG bG .nil YM (pa2 (pv 0) (ZU ZP rfl B.len PySem.boot_len (pa1 (pv 1))))) (fun _ _=>rfl)))
  (ZA (ZM 7 Gf.nd (ZT Zh (pv 1) (Zy G hr rfl mG kG bG .nil YM (pa2 (pv 0) (ZU ZP rfl B.len PySem.boot_len (pa1 (pv 1))))) (fun _ _=>rfl)))
  (ZA (ZM 8 Gf.nd (ZX YC ZD (ZU (U2 rfl) rfl B.max U6 (pa2 (Zd hu (pv 3) (pv 6) (fun _ _=>rfl)) (Zd hu (pv 3) (pv 7) (fun _ _=>rfl))))))
  (ZA (Zg (PW.pt (VX (ZN Vt (pv 8) ZD (ZW _)) (VX (ZN Vt (ZX YC ZD (ZX Y7 (Zd hu (pv 2) (pv 6) (fun _ _=>rfl)) (Zd hu (pv 2) (pv 7) (fun _ _=>rfl)))) (pv 5) (ZW _))
    (VM (ZN (Ni hr) (Zi (pa3 ZY (pv 6) (pv 7))) (pv 4) rfl))))) (ZF (ZV Y0)) ZO)
  (ZF (ZV (Zi (pa3 ZY (pv 6) (pv 7)))))))),?_⟩
 show let a:=_;let b:=_;let c:=ZK (Zv _ b _) a;let d:=ZK _ c;let e:=ZK _ d;ZK _ e _ _ _
 intros
 have ln:(ys.map V.str).length=ys.length:=Oh _
 have at_of:∀ r:Int,0<=r->r < ((ys.map V.str).length:Nat)->∃ a,a∈ys/\atI (ys.map V.str) r=some (.str a):=fun r r0 r1=>by
  obtain ⟨m,rfl⟩:∃ m:Nat,r=m:=⟨r.toNat,by omega⟩;have hm:m < ys.length:=by omega
  exact ⟨ys[m],List.getElem_mem hm,YA (by rw [On,Oi hm];rfl)⟩
 refine ⟨nm,_,rfl, .inl (SqL.of hn),p,_,rfl,hs,by omega,by omega,fun r1 H1 r10 r11 b1 s1=>?_⟩;obtain ⟨a,ha,ea⟩:=at_of r1 r10 r11;have hn1:H1 nm=some (.lst (ys.map V.str)):=(b1 nm n1).trans hn;refine ⟨_,_,SqL.of hn1,ea,?_⟩;refine ⟨nm,_,rfl, .inl (SqL.of hn1),p,_,rfl,s1,by omega,by omega,fun r2 H2 r20 r21 b2 s2=>?_⟩;obtain ⟨b,hb,eb⟩:=at_of r2 r20 r21;have hn2:H2 nm=some (.lst (ys.map V.str)):=(b2 nm n1).trans hn1;refine ⟨_,_,SqL.of hn2,eb,?_⟩;have bb:SameB p H H2:=b1.sb.trans b2.sb;obtain ⟨kc,hkc,_,fc⟩:=hc;obtain ⟨kd,hkd,_,fd'⟩:=hd;obtain ⟨ca,hca,_,ca1⟩:=fc a ha;obtain ⟨cb,hcb,_,cb1⟩:=fc b hb;obtain ⟨da,hda,_,da1⟩:=fd' a ha;obtain ⟨db,hdb,_,db1⟩:=fd' b hb;have kc2:=bb _ _ n2 hkc;have kd2:=bb _ _ n3 hkd;have gda:YD H2 dp (.str a) (some (.int da)):=by rw [<-hda];exact YD.k (k:=Sum.inr a) kd2
 have gdb:YD H2 dp (.str b) (some (.int db)):=by rw [<-hdb];exact YD.k (k:=Sum.inr b) kd2
 have gca:YD H2 cn (.str a) (some (.int ca)):=by rw [<-hca];exact YD.k (k:=Sum.inr a) kc2
 have gcb:YD H2 cn (.str b) (some (.int cb)):=by rw [<-hcb];exact YD.k (k:=Sum.inr b) kc2
 refine ⟨_,gda,_,gdb,_,_,rfl,?_⟩;have none_ok:Q .non H2:=q _ _ bb s2 (.inl rfl);refine ⟨_,rfl,?_⟩;refine Yc (fun c1=>Z7 rfl none_ok) (fun c1=>?_);refine ⟨_,gca,_,gcb, .inl ⟨by omega,by omega⟩,_,rfl,?_⟩;refine Yc (fun c2=>Z7 rfl none_ok) (fun c2=>?_);refine ⟨sl 3,fun t ht'=>?_⟩;have st:=ZH ht' (.tup [.str "pair", .str a, .str b]);have nt:t≠p:=s2.ne ht'
 have ht2:Has H2 (.ref tk) (.lst (ss.map Shp.dat)):=by
  obtain ⟨_,xs,er,hx,hl⟩:=Jz ht;cases er;exact YG (bb _ _ n4 hx) (Fp bb hs hl)
 obtain ⟨_,xs,er,hx,hl⟩:=Jz (ht2.mono st);cases er
 have hd3:Has (upd H2 t (.tup [.str "pair", .str a, .str b])) (.ref t) (Shp.pair a b).dat:=by
  unfold Shp.dat Has;refine ⟨t,_,rfl,ZC,HasL.cons ?_ (HasL.cons ?_ (HasL.cons ?_ HasL.nil))⟩ <;> (unfold Has;rfl)
 refine ⟨tk,xs,_,(Shp.pair a b).dat,rfl,SqL.of hx,hl,hd3,Xz ss,Shp.st _,by have:=We ss;omega,_,rfl,?_⟩;refine Yc (fun c3=>?_) (fun c3=>?_)
 .exact q _ _ (bb.trans st.sb) (s2.keep (ZE (Ne.symm nt))) (.inl rfl)
 .refine ⟨sl 3,fun t2 ht2'=>?_⟩
  have st2:=ZH ht2' (.tup [.str "pair", .str a, .str b]);have s3:Zo (upd H2 t (.tup [.str "pair", .str a, .str b])) p:=s2.keep (ZE (Ne.symm nt));have nt2:t2≠p:=s3.ne ht2';refine q _ _ ((bb.trans st.sb).trans st2.sb) (s3.keep (ZE (Ne.symm nt2))) (.inr ⟨a,b,t2,ca,cb,da,db,ha,hb,rfl,((bb.trans st.sb).free nt2 ht2'),ZC,?_,?_,?_,?_,?_⟩)
  .intro kvs e
   rw [hkc] at e;cases e;exact ⟨hca,hcb⟩
  .intro kvs e
   rw [hkd] at e;cases e;exact ⟨hda,hdb⟩
  .have c1': ¬ ((2:Int) < 1 + (if (db:Int) > da then (db:Int) else da)):=fun z=>c1 (decide_eq_true z)
   split at c1' <;> omega
  .have c2': ¬ ((top:Int) < 1 + (ca:Int) * cb):=fun z=>c2 (decide_eq_true z)
   have e:((ca * cb:Nat):Int)=(ca:Int) * cb:=by push_cast;rfl
   omega
  .intro hm
   exact c3 (List.any_eq_true.mpr ⟨_,O1.mpr ⟨_,hm,rfl⟩,Dat.beq_self _⟩)
end
end K4
namespace L2
open PySem
def TK(H H':Hp):Prop:= ∀ b xs,H b=some (.tup xs)->H' b=some (.tup xs)
theorem SameB.tk(a:SameB p H H')(s:Zo H p):TK H H':=fun b xs h=>a b _ (Zt s h) h
theorem Xr(h:H a=some u)(hu:∀ xs,u≠ .tup xs):TK H (upd H a o):=fun b xs e=>by
 rw [ZE (YY e h fun z=>hu xs z.symm)];exact e
mutual
theorem YU{H H':Hp}(b:TK H H'):∀ (d:Dat) {v:V},d.st=true->Has H v d->Has H' v d
 | .str _,_,_,h=>by unfold Has at h |-;exact h
 | .tup ds,_,t,h=>by
  unfold Has at h |-;obtain ⟨a,xs,h1,h2,h3⟩:=h;unfold Dat.st at t;exact ⟨a,xs,h1,b _ _ h2,Zj b ds t h3⟩
 | .non,_,t,_=>by unfold Dat.st at t;cases t
 | .bl _,_,t,_=>by unfold Dat.st at t;cases t
 | .int _,_,t,_=>by unfold Dat.st at t;cases t
 | .lst _,_,t,_=>by unfold Dat.st at t;cases t
theorem Zj{H H':Hp}(b:TK H H'):∀ (ds:List Dat) {xs:List V},Dat.sts ds=true->HasL H xs ds->HasL H' xs ds
 | [], [],_,h=>HasL.nil
 | [],_::_,_,h=>by unfold HasL at h;exact h.elim
 | _::_, [],_,h=>by unfold HasL at h;exact h.elim
 | d::ds,x::xs,t,h=>by
  unfold HasL at h;unfold Dat.sts at t;have t':=Bool.and_eq_true_iff.mp t;exact HasL.cons (YU b d t'.1 h.1) (Zj b ds t'.2 h.2)
end
def Yf(k:Str × Shp):Dat:= .tup [.str k.1,k.2.dat]
theorem YB:∀ ks:List (Str × Shp),Dat.sts (ks.map Yf)=true
 | []=>by unfold Dat.sts;rfl
 | k::ks=>by
  rw [O0];unfold Dat.sts;rw [YB ks];have e:=Shp.st k.2;simp [Yf,Dat.st,Dat.sts,e]
def KK1(top:Nat)(c d:Str->Nat)(ahead:List Str)(y:Str):Shp->Prop
 | .tags ts=>1<=ts.length/\ts.length<=4/\c y=1 + ts.length/\d y=0/\ts.Nodup
 | .pair a b=>a∈ahead/\b∈ahead/\c y=1 + c a * c b/\c y<=top/\d y=1 + max (d a) (d b)/\d y<=2
def KK(top:Nat)(c d:Str->Nat)(ks:List (Str × Shp)):Prop:= ∀ (i:Nat) (y:Str) (s:Shp),ks[i]?=some (y,s)->KK1 top c d ((ks.take i).map (·.1)) y s
theorem KK1.of(h:KK1 top c d ahead y s)(ec:∀ z,z∈ahead \/ z=y->c' z=c z)(ed:∀ z,z∈ahead \/ z=y->d' z=d z):KK1 top c' d' ahead y s:=by
 cases s with
 | tags ts=>
  obtain ⟨h1,h2,h3,h4,h5⟩:=h;exact ⟨h1,h2,(ec y (.inr rfl)).trans h3,(ed y (.inr rfl)).trans h4,h5⟩
 | pair a b=>
  obtain ⟨h1,h2,h3,h4,h5,h6⟩:=h;refine ⟨h1,h2,?_,?_,?_,?_⟩
  .rw [ec y (.inr rfl),ec a (.inl h1),ec b (.inl h2)];exact h3
  .rw [ec y (.inr rfl)];exact h4
  .rw [ed y (.inr rfl),ed a (.inl h1),ed b (.inl h2)];exact h5
  .rw [ed y (.inr rfl)];exact h6
theorem KK.snoc(h:KK top c d ks)(nd:(ks.map (·.1)++ [y]).Nodup)(h1:KK1 top (fun z=>if z=y then n else c z) (fun z=>if z=y then m else d z) (ks.map (·.1)) y s):KK top (fun z=>if z=y then n else c z) (fun z=>if z=y then m else d z) (ks++ [(y,s)]):=by
 have ny:∀ z∈ks.map (·.1),z≠y:=fun z hz e=>by
  have q:=List.nodup_append.mp nd;exact q.2.2 z hz y (by simp) e
 intro i y' s' e
 by_cases hi:i < ks.length
 .rw [List.getElem?_append_left hi] at e
  rw [List.take_append_of_le_length (PF hi)];have hm:y'∈ks.map (·.1):=O1.mpr ⟨(y',s'),Oo e,rfl⟩
  have inn:∀ z,z∈(ks.take i).map (·.1) \/ z=y'->z≠y:=fun z hz=>by
   rcases hz with hz | hz
   .obtain ⟨k,hk,rfl⟩:=O1.mp hz
    exact ny _ (O1.mpr ⟨k,PK hk,rfl⟩)
   .rw [hz];exact ny _ hm
  exact (h i y' s' e).of (fun z hz=>if_neg (inn z hz)) (fun z hz=>if_neg (inn z hz))
 .have hl:i=ks.length:=by
   have:=(Ol.mp e).1;rw [Os,List.length_singleton] at this;omega
  subst hl;rw [List.getElem?_append_right (Om _),Nat.sub_self] at e;have e':some (y,s)=some (y',s'):=e;cases e';rw [List.take_left];exact h1
structure KJ(H:Hp)(p nm tg cn dp kl:Addr)(top:Nat)(ys tgs:List Str)(i:Nat)(kc kd:List (Key × V))(ks:List (Str × Shp))(c d:Str->Nat)(xs:List V)(H':Hp):Prop where
 sb:SameB p H H'
 st:Zo H' p
 nms:H' nm=some (.lst (ys.map V.str))
 tgS:H' tg=some (.lst (tgs.map V.str))
 cns:H' cn=some (.dK kc)
 dps:H' dp=some (.dK kd)
 kls:H' kl=some (.lst xs)
 lc:kc.length<=i
 ld:kd.length<=i
 vc:∀ y∈ys.take i,Zl kc (Sum.inr y)=some (.int (c y))/\c y<=1000
 vd:∀ y∈ys.take i,Zl kd (Sum.inr y)=some (.int (d y))/\d y<=1000
 nk:ks.map (·.1)=ys.take i
 kk:KK top c d ks
 hs:HasL H' xs (ks.map Yf)
 tq:∀ (i':Nat) (y:Str) (ts:List Str),ks[i']?=some (y, .tags ts)->∃ r,r < 4/\ts=(tgs.drop (4 * i')).take (1 + r)
 pq:∀ (i1 i2:Nat) (y1 y2 a b:Str),ks[i1]?=some (y1, .pair a b)->ks[i2]?=some (y2, .pair a b)->i1=i2
structure KG(ks:List (Str × Shp)):Prop where
 nm:Wds 97 (ks.map (·.1))
 tg:∃ tgs,Wds 65 tgs/\∀ (i':Nat) (y:Str) (ts:List Str),ks[i']?=some (y, .tags ts)->∃ r,r < 4/\ts=(tgs.drop (4 * i')).take (1 + r)
 pr:∀ (i1 i2:Nat) (y1 y2 a b:Str),ks[i1]?=some (y1, .pair a b)->ks[i2]?=some (y2, .pair a b)->i1=i2
theorem KG.tags(g:KG ks)(h:(y,Shp.tags ts)∈ks):Wds 65 ts:=by
 obtain ⟨tgs,w,q⟩:=g.tg;obtain ⟨i,hi,e⟩:=List.mem_iff_getElem.mp h;obtain ⟨r,_,rfl⟩:=q i y ts (by rw [Oi hi,e]);have sub:∀ z,z∈(tgs.drop (4 * i)).take (1 + r)->z∈tgs:=fun z hz=>List.mem_of_mem_drop (PK hz);exact ⟨w.nd.sublist ((List.take_sublist _ _).trans (List.drop_sublist _ _)),fun z hz=>w.len z (sub z hz),fun z hz=>w.abc z (sub z hz)⟩
structure KA(H:Hp)(p nm tg cn dp kl:Addr):Prop where
 fn:H nm=none
 ft:H tg=none
 fc:H cn=none
 fd:H dp=none
 fk:H kl=none
 nmp:nm≠p
 tgp:tg≠p
 cnp:cn≠p
 dpp:dp≠p
 klp:kl≠p
 cd:cn≠dp
 nkl:nm≠kl
 tkl:tg≠kl
theorem take_snoc{α:Type}{l:List α}{a:α}(h:l[i]?=some a):l.take (i + 1)=l.take i++ [a]:=by
 have hi:=(Ol.mp h).1;rw [List.take_succ_eq_append_getElem hi,(Ol.mp h).2]
theorem KJ.step(j:KJ H p nm tg cn dp kl top ys tgs i kc kd ks c d xs H1)(a:KA H p nm tg cn dp kl)(nd:ys.Nodup)(hy:ys[i]?=some y)(hv:Has H1 v s.dat)(hn:n<=1000)(hm:m<=1000)(k1:KK1 top (fun z=>if z=y then n else c z) (fun z=>if z=y then m else d z) (ks.map (·.1)) y s)(g1:∀ ts,s= .tags ts->∃ r,r < 4/\ts=(tgs.drop (4 * i)).take (1 + r))(g2:∀ a b,s= .pair a b->s ∉ ks.map (·.2))(ht:upd (upd H1 cn (.dK (putK kc (Sum.inr y) (.int n)))) dp (.dK (putK kd (Sum.inr y) (.int m))) t=none):
  KJ H p nm tg cn dp kl top ys tgs (i + 1) (putK kc (Sum.inr y) (.int n)) (putK kd (Sum.inr y) (.int m)) (ks++ [(y,s)]) (fun z=>if z=y then n else c z) (fun z=>if z=y then m else d z) (xs++ [.ref t])
   (upd (upd (upd (upd H1 cn (.dK (putK kc (Sum.inr y) (.int n)))) dp (.dK (putK kd (Sum.inr y) (.int m)))) t (.tup [.str y,v])) kl (.lst (xs++ [.ref t]))):=by
 have tc:t≠cn:=fun e=>by rw [e,ZE a.cd,ZC] at ht;cases ht
 have td:t≠dp:=fun e=>by rw [e,ZC] at ht;cases ht
 have h1t:H1 t=none:=by rw [ZE td,ZE tc] at ht;exact ht
 have ne1:∀ b o,H1 b=some o->b≠t:=fun b o e=>ZG e h1t;have kc1:kl≠cn:=YY j.kls j.cns (fun z=>nomatch z);have kd1:kl≠dp:=YY j.kls j.dps (fun z=>nomatch z);have klt:=ne1 _ _ j.kls
 have at_:∀ b,b≠cn->b≠dp->b≠t->b≠kl->(upd (upd (upd (upd H1 cn (.dK (putK kc (Sum.inr y) (.int n)))) dp (.dK (putK kd (Sum.inr y) (.int m)))) t (.tup [.str y,v])) kl (.lst (xs++ [.ref t]))) b=H1 b:=fun b b1 b2 b3 b4=>by
  rw [ZE b4,ZE b3,ZE b2,ZE b1]
 have tk:TK H1 (upd (upd (upd (upd H1 cn (.dK (putK kc (Sum.inr y) (.int n)))) dp (.dK (putK kd (Sum.inr y) (.int m)))) t (.tup [.str y,v])) kl (.lst (xs++ [.ref t]))):=fun b zs e=>
  (at_ b (YY e j.cns (fun z=>nomatch z)) (YY e j.dps (fun z=>nomatch z)) (ne1 _ _ e) (YY e j.kls (fun z=>nomatch z))).trans e
 have nm1:nm≠cn:=YY j.nms j.cns (fun z=>nomatch z);have nm2:nm≠dp:=YY j.nms j.dps (fun z=>nomatch z);have tg1:tg≠cn:=YY j.tgS j.cns (fun z=>nomatch z);have tg2:tg≠dp:=YY j.tgS j.dps (fun z=>nomatch z);have tp:t≠p:=j.st.ne h1t
 have yn:∀ z∈ys.take i,z≠y:=fun z hz e=>by
  have q:(ys.take i++ [y]).Nodup:=by rw [<-take_snoc hy];exact nd.sublist (List.take_sublist _ _)
  exact (List.nodup_append.mp q).2.2 z hz y (by simp) e
 have lk:ks.length=i:=by
  have z1:=congrArg List.length j.nk;have z2:=(Ol.mp hy).1;rw [Oh,Ou] at z1;omega
 have new:∀ (i':Nat) (y':Str) (s':Shp),(ks++ [(y,s)])[i']?=some (y',s')->ks[i']?=some (y',s') \/ (i'=i/\s'=s):=fun i' y' s' e=>by
  by_cases hi:i' < ks.length
  .rw [List.getElem?_append_left hi] at e;exact .inl e
  .have hl:i'=ks.length:=by
    have z:=(Ol.mp e).1;rw [Os,List.length_singleton] at z;omega
   subst hl;rw [List.getElem?_append_right (Om _),Nat.sub_self] at e;have e':some (y,s)=some (y',s'):=e;cases e';exact .inr ⟨lk,rfl⟩
 refine ⟨fun b o hb e=>?_,?_,?_,?_,?_,?_,ZC,?_,?_,?_,?_,?_,?_,?_,fun i' y' ts e=>?_,fun i1 i2 y1 y2 a' b' e1 e2=>?_⟩
 .have e1:=j.sb b o hb e
  exact (at_ b (ZG e a.fc) (ZG e a.fd) (ne1 _ _ e1) (ZG e a.fk)).trans e1
 .exact j.st.keep (at_ p (Ne.symm a.cnp) (Ne.symm a.dpp) (Ne.symm tp) (Ne.symm a.klp))
 .exact (at_ nm nm1 nm2 (ne1 _ _ j.nms) a.nkl).trans j.nms
 .exact (at_ tg tg1 tg2 (ne1 _ _ j.tgS) a.tkl).trans j.tgS
 .rw [ZE (Ne.symm kc1),ZE (Ne.symm tc),ZE a.cd,ZC]
 .rw [ZE (Ne.symm kd1),ZE (Ne.symm td),ZC]
 .have:=YL kc (Sum.inr y) (.int n);have:=j.lc;omega
 .have:=YL kd (Sum.inr y) (.int m);have:=j.ld;omega
 .intro z hz
  rw [take_snoc hy] at hz;rw [VC];rcases O2.mp hz with h | h
  .have e: ¬ (Sum.inr z:Key)=Sum.inr y:=fun q=>yn z h (by injection q)
   show (if (Sum.inr z:Key)=Sum.inr y then _ else _)=some (V.int ((if z=y then n else c z:Nat):Int))/\(if z=y then n else c z)<=1000;rw [if_neg e,if_neg (yn z h)];exact j.vc z h
  .rw [Ox.mp h]
   show (if (Sum.inr y:Key)=Sum.inr y then _ else _)=some (V.int ((if y=y then n else c y:Nat):Int))/\(if y=y then n else c y)<=1000;rw [if_pos rfl,if_pos rfl];exact ⟨rfl,hn⟩
 .intro z hz
  rw [take_snoc hy] at hz;rw [VC];rcases O2.mp hz with h | h
  .have e: ¬ (Sum.inr z:Key)=Sum.inr y:=fun q=>yn z h (by injection q)
   show (if (Sum.inr z:Key)=Sum.inr y then _ else _)=some (V.int ((if z=y then m else d z:Nat):Int))/\(if z=y then m else d z)<=1000;rw [if_neg e,if_neg (yn z h)];exact j.vd z h
  .rw [Ox.mp h]
   show (if (Sum.inr y:Key)=Sum.inr y then _ else _)=some (V.int ((if y=y then m else d y:Nat):Int))/\(if y=y then m else d y)<=1000;rw [if_pos rfl,if_pos rfl];exact ⟨rfl,hm⟩
 .rw [Oq,j.nk,take_snoc hy];rfl
 .exact j.kk.snoc (by rw [j.nk,<-take_snoc hy];exact nd.sublist (List.take_sublist _ _)) k1
 .rw [Oq]
  refine HasL.append (Zj tk _ (YB ks) j.hs) (HasL.one ?_);show Has _ (.ref t) (Yf (y,s));unfold Yf Has;refine ⟨t, [.str y,v],rfl,?_,HasL.cons (by unfold Has;rfl) (HasL.cons (YU tk _ (Shp.st s) hv) HasL.nil)⟩;rw [ZE (Ne.symm klt),ZC]
 .rcases new i' y' _ e with h | ⟨rfl,h⟩
  .exact j.tq i' y' ts h
  .exact g1 ts h.symm
 .have mem:∀ (i':Nat) (y':Str) (s':Shp),ks[i']?=some (y',s')->s'∈ks.map (·.2):=fun i' y' s' e=>O1.mpr ⟨(y',s'),Oo e,rfl⟩
  rcases new i1 y1 _ e1 with h1 | ⟨h1,h1'⟩
  .rcases new i2 y2 _ e2 with h2 | ⟨h2,h2'⟩
   .exact j.pq i1 i2 y1 y2 a' b' h1 h2
   .exact absurd (h2' ▸ mem i1 y1 _ h1) (g2 a' b' h2'.symm)
  .rcases new i2 y2 _ e2 with h2 | ⟨h2,h2'⟩
   .exact absurd (h1' ▸ mem i2 y2 _ h2) (g2 a' b' h1'.symm)
   .rw [h1,h2]
theorem RO(h:u D (U.set k (some v)) H):ZK (Tg (tC v) (YZ k)) u D U H:=h
theorem Vz(xs:List V)(k:Nat)(h:k<=xs.length):JN xs none (some (k:Int))=xs.take k:=by
 unfold JN;rw [HT.sIx_none,HT.sIx_nat,List.drop_zero,Nat.sub_zero,Nat.min_eq_left h]
theorem IL(xs:List V)(a b:Nat)(h1:a<=b)(h:b<=xs.length):JN xs (some (a:Int)) (some (b:Int))=(xs.drop a).take (b - a):=by
 unfold JN;rw [HT.sIx_nat,HT.sIx_nat,Nat.min_eq_left h,Nat.min_eq_left (O6 h1 h)]
theorem Tj:∀ ts:List Str,HasL H (ts.map V.str) (ts.map Dat.str)
 | []=>HasL.nil
 | t::ts=>HasL.cons (by unfold Has;rfl) (Tj ts)
theorem Vy(h:Has H x (Yf (y,s))):∃ a v,x= .ref a/\H a=some (.tup [.str y,v])/\Has H v s.dat:=by
 unfold Yf Has at h;obtain ⟨a,xs,rfl,ha,hl⟩:=h
 match xs,hl with
 | [u,v],hl=>
  unfold HasL at hl;obtain ⟨h1,h2⟩:=hl;unfold HasL at h2;unfold Has at h1;subst h1;exact ⟨a,v,rfl,ha,h2.1⟩
 | [],hl=>unfold HasL at hl;exact hl.elim
 | [x],hl=>unfold HasL at hl;obtain ⟨_,h2⟩:=hl;unfold HasL at h2;exact h2.elim
 | _::_::_::_,hl=>unfold HasL at hl;obtain ⟨_,h2⟩:=hl;unfold HasL at h2;obtain ⟨_,h3⟩:=h2;unfold HasL at h3;exact h3.elim
theorem YS(Cond:St->Hp->Prop)(key:∀ s1 H1,Cond s1 H1->u D s1 H1)(main:∀ N:St->Hp->Prop,(∀ s1 H1,Cond s1 H1->N s1 H1)->t {D with nx:=N} U H):ZK t u D U H:=main _ key
theorem KJ.sameB(j:KJ H p nm tg cn dp kl top ys tgs i kc kd ks c d xs H1)(a:KA H p nm tg cn dp kl)(b:SameB p H1 H2)(s:Zo H2 p):KJ H p nm tg cn dp kl top ys tgs i kc kd ks c d xs H2:=
 ⟨j.sb.trans b,s,b _ _ a.nmp j.nms,b _ _ a.tgp j.tgS,b _ _ a.cnp j.cns,b _ _ a.dpp j.dps,b _ _ a.klp j.kls,j.lc,j.ld,j.vc,j.vd,j.nk,j.kk,Zj (b.tk j.st) _ (YB ks) j.hs,j.tq,j.pq⟩
end L2
namespace K4
open PySem L2
theorem VS:Za ["stream","most","top","names","tags","counts","depths","kinds","k","shape"] ["stream","most","top"] (ZJ Rr):=Zu
theorem Fh:List.Nodup [("kind" :Str)]:=by decide +kernel
section
def Ns(H:Hp)(cn:Addr)(ks:List (Str × Shp))(c:Str->Nat):Prop:= ∃ kc,H cn=some (.dK kc)/\∀ y∈ks.map (·.1),Zl kc (Sum.inr y)=some (.int (c y:Nat))
def GJ:Sp:=fun vs H Q _=> ∃ (p:Addr) (most top:Nat),vs= [.ref p, .int most, .int top]/\Zo H p/\0 < most/\most<=6/\top<=1000/\
 ∀ (r kl cn:Addr) (ks:List (Str × Shp)) (c d:Str->Nat) (xs:List V) (H':Hp),SameB p H H'->Zo H' p->H r=none->r≠p->H' r=some (.tup [.ref kl, .ref cn])->H kl=none->kl≠p->H' kl=some (.lst xs)->HasL H' xs (ks.map Yf)->
  KK top c d ks->(ks.map (·.1)).Nodup->0 < ks.length->ks.length<=6->KG ks->H cn=none->cn≠p->Ns H' cn ks c->Q (.ref r) H'
theorem Da(B:Blt mg)(F:Fun K "_law_kinds" "_law_kinds" Rr f fd)(GT:ZQ P w K mg base CX0 n gt td ["stream","many"] Yl)(bT:Binds K td ["stream","many"] [])(kT:W.keepIn K (.ref gt)=true)(mT:mg "_law_take" =some (.ref gt))(GS:ZQ P w K mg base CX0 n gs sd ["stream","many"] JR)(bS:Binds K sd ["stream","many"] [])(kS:W.keepIn K (.ref gs)=true)(mS:mg "_law_small" =some (.ref gs))(GW:ZQ P w K mg base CX0 n gw wdd ["stream","many","letters","ways"] XZ)(bW:Binds K wdd ["stream","many","letters","ways"] [])(kW:W.keepIn K (.ref gw)=true)(mW:mg "_law_words" =some (.ref gw))(GP:ZQ P w K mg base CX0 n gp pd ["stream","names","counts","depths","taken","top"] (Rc K))(bP:Binds K pd ["stream","names","counts","depths","taken","top"] [])(kP:W.keepIn K (.ref gp)=true)(mP:mg "_law_pair" =some (.ref gp)):
  ZQ P w K mg base CX0 (n + 1) f fd ["stream","most","top"] GJ:=by
 refine F.oq VS fun cdv A outer s H vs Q E hr h=>?_;obtain ⟨p,most,top,rfl,hs,m0,m6,t3,q⟩:=h;have hu:=Y3 hr;refine ⟨_,ZA (ZM 3 VS.nd (Zy GS hr rfl mS kS bS .nil YM (pa2 (pv 0) (ZX YC ZD (Zy GT hr rfl mT kT bT .nil YM (pa2 (pv 0) (pv 1)))))))
  (ZA (ZM 4 VS.nd (Zy GW hr rfl mW kW bW .nil YM (pa4 (pv 0) (ZX Y7 ZD (ZU ZP rfl B.len PySem.boot_len (pa1 (pv 3)))) ZY ZD)))
  (ZA (ZM 5 VS.nd Yn)
  (ZA (ZM 6 VS.nd Yn)
  (ZA (ZM 7 VS.nd (Zp YK))
  (ZA (Yb PassesOwn.never rfl (VN rfl B.range (pa1 (ZU ZP rfl B.len PySem.boot_len (pa1 (pv 3))))) (ZL 8 VS.nd)
   (ZA (ZM 9 VS.nd Y0)
   (ZA (Zg (PW.pt (Vo (ZN Vt (pv 8) ZD (ZW _)) (VE (ZN YN (Zy GT hr rfl mT kT bT .nil YM (pa2 (pv 0) ZD)) ZD (ZW _)))))
    (ZF (ZM 9 VS.nd (Zy GP hr rfl mP kP bP .nil YM (pa6 (pv 0) (Z3 V2 (pv 3) YW (YE (pv 8))) (pv 5) (pv 6) (Y4 ["kind"] [] (Yk (pv 7)) (YO (i:=0) (by decide)) (fun cl C fp s H=>ZL 0 Fh rfl (Or.inl rfl) (Or.inr rfl)) (fun cl C fp s H=>ZT (r:=Jm K) Zc (pv 0) ZD)) (pv 2))))) ZO)
   (ZA (Zg (ZN MD (pv 9) Y0 (ZW _))
    (ZA (ZM 9 VS.nd (Zi (pa2 ZY (Zm Yq rfl B.tuple Yh (pa1 (Z3 V2 (pv 4) (YE (ZX Y7 ZD (pv 8)))
      (YE (ZX YC (ZX YC (ZX Y7 ZD (pv 8)) ZD) (Zy GT hr rfl mT kT bT .nil YM (pa2 (pv 0) ZD))))))))))
     (ZA (YF hu (pv 5) (ZT Zh (pv 3) (pv 8) (fun _ _=>rfl)) (ZX YC ZD (ZU ZP rfl B.len PySem.boot_len (pa1 (ZT Zc (pv 9) ZD)))) rfl)
     (ZF (YF hu (pv 6) (ZT Zh (pv 3) (pv 8) (fun _ _=>rfl)) ZD rfl))))
    (ZA (YF hu (pv 5) (ZT Zh (pv 3) (pv 8) (fun _ _=>rfl)) (ZX YC ZD (ZX Y7 (Zd hu (pv 5) (ZT Zc (pv 9) ZD) (fun _ _=>rfl)) (Zd hu (pv 5) (ZT Zc (pv 9) ZD) (fun _ _=>rfl)))) rfl)
     (ZF (YF hu (pv 6) (ZT Zh (pv 3) (pv 8) (fun _ _=>rfl)) (ZX YC ZD (ZU (U2 rfl) rfl B.max U6 (pa2 (Zd hu (pv 6) (ZT Zc (pv 9) ZD) (fun _ _=>rfl)) (Zd hu (pv 6) (ZT Zc (pv 9) ZD) (fun _ _=>rfl))))) rfl))))
   (ZF (Ye (JI PySem.F.plainAttrs_list PySem.F.slot_list_append PySem.F.type_list_append Yp (pv 7) (pa1 (Zi (pa2 (ZT Zh (pv 3) (pv 8) (fun _ _=>rfl)) (pv 9))))))))))
  ) (ZF (ZV (Zi (pa2 (pv 7) (pv 5)))))))))),?_⟩
 show let a:=_;let b:=_;let c:=_;let d:=ZK _ c;let e:=ZK _ d;let f:=_;let g:=ZK _ f;let h:=ZK (Zv _ e g) b;let i:=_;let j:=ZK (Zv _ i _) h;let k:=ZK _ j;let l:=ZK (Vg _ _ k) a;let m:=ZK _ l;let n:=ZK _ m;let o:=ZK _ n;let p:=ZK _ o;ZK _ p _ _ _
 intros
 refine ⟨p,most,rfl,hs,by omega,by omega,fun r H1 r0 r1 b1 s1=>?_⟩;obtain ⟨rn,rfl⟩:∃ m:Nat,r=m:=⟨r.toNat,by omega⟩;refine ⟨p,1 + rn,(by show [V.ref p,V.int (1 + (rn:Int))]= [V.ref p,V.int ((1 + rn:Nat):Int)];push_cast;rfl),s1,by omega,fun nm ys H2 b2 s2 f2 np2 hnm hly wds=>?_⟩;have lm:(ys.map V.str).length=ys.length:=Oh _;refine ⟨nm,_,rfl, .inl (SqL.of hnm), .inl ⟨by decide,by decide⟩,p,4 * ys.length,65,2,(by rw [<-Wp,lm];show [V.ref p,V.int (4 * (ys.length:Int)),_,V.int 2]= [V.ref p,V.int ((4 * ys.length:Nat):Int),_,V.int 2];push_cast;rfl),s2, .inr rfl,by decide, .inl ⟨by decide,by omega⟩,fun tg tgs H3 b3 s3 f3 np3 htg hlt wdt=>?_⟩;intro cn hcn dp hdp;refine ⟨sl 0,fun kl hkl=>?_⟩;have bH:SameB p H H3:=(b1.sb.trans b2).trans b3;have hnm3:=b3 _ _ np2 hnm;have cd:cn≠dp:=fun e=>by rw [<-e,ZC] at hdp;cases hdp
 have hdp3:H3 dp=none:=by rw [ZE (Ne.symm cd)] at hdp;exact hdp
 have kcn:kl≠cn:=fun e=>by rw [e,ZE cd,ZC] at hkl;cases hkl
 have kdp:kl≠dp:=fun e=>by rw [e,ZC] at hkl;cases hkl
 have hkl3:H3 kl=none:=by rw [ZE kdp,ZE kcn] at hkl;exact hkl
 have a:KA H p nm tg cn dp kl:=⟨b1.sb.free np2 f2,(b1.sb.trans b2).free np3 f3,bH.free (s3.ne hcn) hcn,bH.free (s3.ne hdp3) hdp3,bH.free (s3.ne hkl3) hkl3,np2,np3,s3.ne hcn,s3.ne hdp3,s3.ne hkl3,cd,ZG hnm3 hkl3,ZG htg hkl3⟩;have nmc:nm≠cn:=ZG hnm3 hcn;have nmd:nm≠dp:=ZG hnm3 hdp3;have tgc:tg≠cn:=ZG htg hcn;have tgd:tg≠dp:=ZG htg hdp3;have hnm6:upd (upd (upd H3 cn (.dK [])) dp (.dK [])) kl (.lst []) nm=some (.lst (ys.map V.str)):=by rw [ZE a.nkl,ZE nmd,ZE nmc];exact hnm3
 refine ⟨nm,_,rfl, .inl (SqL.of hnm6),_,rfl,by omega,by omega,?_⟩
 let I:Nat->St->Hp->Prop:=fun i U H'=> ∃ kc kd ks c d xs,KJ H p nm tg cn dp kl top ys tgs i kc kd ks c d xs H'/\
  ∃ z1 z2,U= [some (.ref p),some (.int most),some (.int top),some (.ref nm),some (.ref tg),some (.ref cn),some (.ref dp),some (.ref kl),z1,z2]
 refine Ub (n:=(((ys.map V.str).length:Nat):Int).toNat) I ?_ ?_ ?_
 .refine ⟨[], [], [],fun _=>0,fun _=>0, [],⟨?_,?_,hnm6,?_,?_,?_,ZC,Om _,Om _,fun y hy=>by simp at hy,fun y hy=>by simp at hy,rfl,fun i y s e=>by simp at e,HasL.nil,fun i y s e=>by simp at e,fun i j y z a b e=>by simp at e⟩,_,_,rfl⟩
  .exact (((bH.put a.fc)).put a.fd).put a.fk
  .exact s3.keep (by rw [ZE (Ne.symm a.klp),ZE (Ne.symm a.dpp),ZE (Ne.symm a.cnp)])
  .rw [ZE a.tkl,ZE tgd,ZE tgc];exact htg
  .rw [ZE (Ne.symm kcn),ZE cd,ZC]
  .rw [ZE (Ne.symm kdp),ZC]
 .rintro BB RR i U H' hi ⟨kc,kd,ks,c,d,xs,j,z1,z2,rfl⟩
  have hi':i < ys.length:=by omega
  obtain ⟨y,hy⟩:∃ y,ys[i]?=some y:=⟨ys[i],Oi hi'⟩;have i0:(0 + (i:Int))=(i:Int):=by omega
  have aty:atI (ys.map V.str) (0 + (i:Int))=some (.str y):=by rw [i0];exact YA (by rw [On,hy];rfl)
  have ltop:i<=ys.length:=PF hi';have ly8:ys.length<=6:=by omega
  refine RO ?_;refine YS (fun s1 H1=> ∃ v,KJ H p nm tg cn dp kl top ys tgs i kc kd ks c d xs H1/\s1= [some (.ref p),some (.int most),some (.int top),some (.ref nm),some (.ref tg),some (.ref cn),some (.ref dp),some (.ref kl),some (.int (0 + (i:Int))),some v]/\
   (v= .non \/ ∃ (e g:Str) (r:Addr),v= .ref r/\H1 r=some (.tup [.str "pair", .str e, .str g])/\e∈ys.take i/\g∈ys.take i/\1 + max (d e) (d g)<=2/\1 + c e * c g<=top/\Shp.pair e g ∉ ks.map (·.2))) ?_ ?_
  .rintro s1 H1 ⟨v,j1,rfl,hv⟩
   refine YS (fun s2 H2=> ∃ (H1:Hp) (s:Shp) (v:V) (n m:Nat),KJ H p nm tg cn dp kl top ys tgs i kc kd ks c d xs H1/\Has H1 v s.dat/\n<=1000/\m<=1000/\
    KK1 top (fun z=>if z=y then n else c z) (fun z=>if z=y then m else d z) (ks.map (·.1)) y s/\(∀ ts,s= .tags ts->∃ r,r < 4/\ts=(tgs.drop (4 * i)).take (1 + r))/\(∀ a b,s= .pair a b->s ∉ ks.map (·.2))/\H2=upd (upd H1 cn (.dK (putK kc (Sum.inr y) (.int n)))) dp (.dK (putK kd (Sum.inr y) (.int m)))/\
    s2= [some (.ref p),some (.int most),some (.int top),some (.ref nm),some (.ref tg),some (.ref cn),some (.ref dp),some (.ref kl),some (.int (0 + (i:Int))),some v]) ?_ ?_
   .rintro s2 H2 ⟨H1,s,v,n',m',j1,hv,hn',hm',k1,g1,g2,rfl,rfl⟩
    have kc1:kl≠cn:=kcn;have nm1:nm≠cn:=nmc;have hk2:upd (upd H1 cn (.dK (putK kc (Sum.inr y) (.int n')))) dp (.dK (putK kd (Sum.inr y) (.int m'))) kl=some (.lst xs):=by rw [ZE kdp,ZE kcn];exact j1.kls
    have hn2:upd (upd H1 cn (.dK (putK kc (Sum.inr y) (.int n')))) dp (.dK (putK kd (Sum.inr y) (.int m'))) nm=some (.lst (ys.map V.str)):=by rw [ZE nmd,ZE nmc];exact j1.nms
    refine ⟨.inl ⟨rfl,_,SqL.of hk2⟩,_,_,SqL.of hn2,aty,sl 2,fun t ht=>?_⟩;have ktt:kl≠t:=ZG hk2 ht;refine ⟨kl,xs,_,rfl,rfl,(ZE ktt).trans hk2,?_,_,_,_,_,_,_,j1.step a wds.nd hy hv hn' hm' k1 g1 g2 ht,_,_,rfl⟩;have lx:=j1.hs.length;rw [Oh] at lx
    have lk:ks.length=i:=by
     have:=congrArg List.length j1.nk;rw [Oh,Ou] at this;omega
    exact ZI (by omega)
   .intro NX K2
    have ny:y ∉ ys.take i:=fun hm=>by
     have q':(ys.take i++ [y]).Nodup:=by rw [<-take_snoc hy];exact wds.nd.sublist (List.take_sublist _ _)
     exact (List.nodup_append.mp q').2.2 y hm y (by simp) rfl
    refine ⟨rfl,_,rfl,?_⟩;rcases hv with rfl | ⟨e,g,r,rfl,hr1,he,hg,hdeep,hcnt,hnew⟩
    .refine Z7 rfl ?_
     refine ⟨.inl ⟨by decide,by decide⟩,_,rfl, .inl ⟨by decide,by decide⟩,p,4,rfl,j1.st,by decide,by decide,fun r H2 r0 r1 b2 s2=>?_⟩;obtain ⟨rn,rfl⟩:∃ m:Nat,r=m:=⟨r.toNat,by omega⟩;have j2:=j1.sameB a b2.sb s2;refine ⟨_,rfl,tg,_,rfl,SqL.of j2.tgS,fun q1 hq1=>⟨q1,_,rfl, .inl ⟨SqL.of ZC,fun l hl=>⟨sl 2,fun t ht=>?_⟩⟩⟩⟩;have e1:(4 * (0 + (i:Int)))=((4 * i:Nat):Int):=by omega
     have e2:(4 * (0 + (i:Int)) + 1 + (rn:Int))=((4 * i + 1 + rn:Nat):Int):=by omega
     have lt:(tgs.map V.str).length=tgs.length:=Oh _
     have ec:JN (tgs.map V.str) (some (4 * (0 + (i:Int)))) (some (4 * (0 + (i:Int)) + 1 + (rn:Int)))=(((tgs.drop (4 * i)).take (1 + rn)).map V.str):=by
      rw [e2,e1,IL _ _ _ (by omega) (by omega),List.map_take,List.map_drop]
      congr 1
      omega
     rw [ec] at hl ht |-;generalize hts:(tgs.drop (4 * i)).take (1 + rn)=ts at hl ht |-;have tnd:ts.Nodup:=by rw [<-hts];exact List.Pairwise.sublist ((List.take_sublist _ _).trans (List.drop_sublist _ _)) wdt.nd
     have lts:ts.length=1 + rn:=by rw [<-hts,Ou,List.length_drop];omega
     have st1:=ZH hq1 (.lst (ts.map V.str));have st2:=ZH hl (.tup (ts.map V.str));have st3:=ZH ht (.tup [.str "tags", .ref l]);have st:=(st1.trans st2).trans st3
     have s5:Zo (upd (upd (upd H2 q1 (.lst (ts.map V.str))) l (.tup (ts.map V.str))) t (.tup [.str "tags", .ref l])) p:=by
      obtain ⟨a1,a2,a3,a4,a5⟩:=j2.st;exact ⟨a1,a2,a3,a4,st _ _ a5⟩
     have j5:=j2.sameB a st.sb s5;have hl5:=st3 _ _ (ZC (H:=upd H2 q1 (.lst (ts.map V.str))) (a:=l) (o:= .tup (ts.map V.str)));generalize hH5:upd (upd (upd H2 q1 (.lst (ts.map V.str))) l (.tup (ts.map V.str))) t (.tup [.str "tags", .ref l])=H5 at j5 hl5 |-;have ht5:H5 t=some (.tup [.str "tags", .ref l]):=by rw [<-hH5,ZC]
     have en:(1:Int) + (((ts.map V.str).length:Nat):Int)=((1 + ts.length:Nat):Int):=by rw [Oh];push_cast;rfl
     refine ⟨_,_,SqT.of ht5,rfl,l,_,rfl, .inr (SqT.of hl5),?_⟩;dsimp only [rI0,rI,Vw];rw [en];have lc:=j5.lc;have ld:=j5.ld;refine ⟨_,_,SqL.of j5.nms,aty,_,VJ.k (k:=Sum.inr y) j5.cns (ZI (by omega)),?_⟩;refine ⟨_,_,SqL.of ((ZE nmc).trans j5.nms),aty,_,VJ.k (k:=Sum.inr y) ((ZE (Ne.symm cd)).trans j5.dps) (ZI (by omega)),?_⟩;refine K2 _ _ ⟨H5, .tags ts, .ref t,1 + ts.length,0,j5,?_,by omega,by decide,⟨by omega,by omega,if_pos rfl,if_pos rfl,tnd⟩,fun ts' e=>⟨rn,by omega,by cases e;exact hts.symm⟩,(fun _ _ e=>nomatch e),rfl,rfl⟩;unfold Shp.dat Has;refine ⟨t,_,rfl,ht5,HasL.cons (by unfold Has;rfl) (HasL.cons ?_ HasL.nil)⟩;unfold Has;exact ⟨l,_,rfl,hl5,Tj ts⟩
    .refine Zs (by simp) ?_
     have lc:=j1.lc;have ld:=j1.ld;obtain ⟨vce,ce1⟩:=j1.vc e he;obtain ⟨vcg,cg1⟩:=j1.vc g hg;obtain ⟨vde,de1⟩:=j1.vd e he;obtain ⟨vdg,dg1⟩:=j1.vd g hg;have gce:YD H1 cn (.str e) (some (.int (c e))):=by rw [<-vce];exact YD.k (k:=Sum.inr e) j1.cns
     have gcg:YD H1 cn (.str g) (some (.int (c g))):=by rw [<-vcg];exact YD.k (k:=Sum.inr g) j1.cns
     have en:(1:Int) + (c e:Int) * (c g:Int)=((1 + c e * c g:Nat):Int):=by push_cast;rfl
     refine ⟨_,_,SqT.of hr1,rfl,_,gce,_,_,SqT.of hr1,rfl,_,gcg, .inl ⟨by omega,by omega⟩,?_⟩;dsimp only [rI0,rI,Vw];rw [en];refine ⟨_,_,SqL.of j1.nms,aty,_,VJ.k (k:=Sum.inr y) j1.cns (ZI (by omega)),?_⟩;have hr2:upd H1 cn (.dK (putK kc (Sum.inr y) (.int ((1 + c e * c g:Nat):Int)))) r=some (.tup [.str "pair", .str e, .str g]):=(ZE (YY hr1 j1.cns (fun z=>nomatch z))).trans hr1;have hd2:upd H1 cn (.dK (putK kc (Sum.inr y) (.int ((1 + c e * c g:Nat):Int)))) dp=some (.dK kd):=(ZE (Ne.symm cd)).trans j1.dps;have gde:YD (upd H1 cn (.dK (putK kc (Sum.inr y) (.int ((1 + c e * c g:Nat):Int))))) dp (.str e) (some (.int (d e))):=by rw [<-vde];exact YD.k (k:=Sum.inr e) hd2
     have gdg:YD (upd H1 cn (.dK (putK kc (Sum.inr y) (.int ((1 + c e * c g:Nat):Int))))) dp (.str g) (some (.int (d g))):=by rw [<-vdg];exact YD.k (k:=Sum.inr g) hd2
     have em:(1:Int) + (if (d g:Int) > (d e:Int) then (d g:Int) else (d e:Int))=((1 + max (d e) (d g):Nat):Int):=by
      split <;> omega
     refine ⟨_,_,SqT.of hr2,rfl,_,gde,_,_,SqT.of hr2,rfl,_,gdg,_,_,rfl,?_⟩;dsimp only [rI0,rI,Vw];rw [em];refine ⟨_,_,SqL.of ((ZE nmc).trans j1.nms),aty,_,VJ.k (k:=Sum.inr y) hd2 (ZI (by omega)),?_⟩;have ney:e≠y:=fun z=>ny (z ▸ he);have ngy:g≠y:=fun z=>ny (z ▸ hg);refine K2 _ _ ⟨H1, .pair e g, .ref r,1 + c e * c g,1 + max (d e) (d g),j1,?_,by omega,by omega,⟨by rw [j1.nk];exact he,by rw [j1.nk];exact hg,?_,?_,?_,?_⟩,(fun _ e=>nomatch e),(fun _ _ _=>hnew),rfl,rfl⟩
     .unfold Shp.dat Has
      refine ⟨r,_,rfl,hr1,HasL.cons ?_ (HasL.cons ?_ (HasL.cons ?_ HasL.nil))⟩ <;> (unfold Has;rfl)
     .show (if y=y then _ else _)=1 + (if e=y then _ else c e) * (if g=y then _ else c g)
      rw [if_pos rfl,if_neg ney,if_neg ngy]
     .show (if y=y then _ else _)<=top
      rw [if_pos rfl];exact hcnt
     .show (if y=y then _ else _)=1 + max (if e=y then _ else d e) (if g=y then _ else d g)
      rw [if_pos rfl,if_neg ney,if_neg ngy]
     .show (if y=y then _ else _)<=2
      rw [if_pos rfl];exact hdeep
  .intro NX K1
   refine ⟨_,rfl,?_⟩;refine Yc (fun c0=>?_) (fun c0=>?_)
   .refine ⟨p,2,rfl,j.st,by decide,by decide,fun r H1 r0 r1 b1 s1=>?_⟩
    have j1:=j.sameB a b1.sb s1;refine ⟨rfl,_,rfl,?_⟩;refine Yc (fun c1=>?_) (fun c1=>?_)
    .have ec:JN (ys.map V.str) none (some (0 + (i:Int)))=(ys.take i).map V.str:=by
      rw [i0,Vz _ _ (by omega),List.map_take]
     refine ⟨_,rfl,nm,_,rfl,SqL.of j1.nms,fun q1 hq1=>?_⟩;rw [ec];have sq:=ZH hq1 (.lst ((ys.take i).map V.str));have q1p:q1≠p:=s1.ne hq1;have jq:=j1.sameB a sq.sb (s1.keep (ZE (Ne.symm q1p)));have hq2:upd H1 q1 (.lst ((ys.take i).map V.str)) q1=some (.lst ((ys.take i).map V.str)):=ZC;generalize upd H1 q1 (.lst ((ys.take i).map V.str))=Hq at jq hq2;have lx:=jq.hs.length;rw [Oh] at lx
     have lk:ks.length=i:=by
      have:=congrArg List.length jq.nk;rw [Oh,Ou] at this;omega
     refine ⟨⟨_,SqL.of jq.kls⟩,?_⟩;refine YQ xs.length (ZI (by omega)) (fun m vs H'=>H'=Hq/\vs.length=m/\HasL Hq vs (((ks.map (·.2)).map Shp.dat).take m)) ⟨rfl,rfl,by rw [List.take_zero];exact HasL.nil⟩ (fun m vs H' z=>z.2.1) ?_ ?_ ?_ ?_
     .rintro m vs H' hm ⟨rfl,_⟩
      exact ⟨xs,xs[m],SqL.of jq.kls,by simp [hm]⟩
     .rintro vs H' ⟨rfl,_⟩
      exact ⟨xs,SqL.of jq.kls,Om _⟩
     .rintro m vs H' x H'' R hm ⟨rfl,z2,z3⟩ yl hR
      obtain ⟨rfl,y'⟩:=yl;have e1:=y' xs (SqL.of jq.kls);obtain ⟨d1,hd1,hx1⟩:=jq.hs.get e1;rw [On] at hd1
      cases hk:ks[m]? with
      | none=>rw [hk] at hd1;cases hd1
      | some ys1=>
       rw [hk] at hd1;obtain ⟨y1,s1'⟩:=ys1;cases hd1;obtain ⟨a1,v1,rfl,ha1,hv1⟩:=Vy hx1;refine ⟨_,_,SqT.of ha1,rfl,hR _ _ ⟨rfl,by rw [Os,z2];rfl,?_⟩⟩;have e2:((ks.map (·.2)).map Shp.dat)[m]?=some s1'.dat:=by rw [On,On,hk];rfl
       rw [take_snoc e2];exact HasL.append z3 (HasL.one hv1)
     .rintro vs H' tk ⟨rfl,z2,z3⟩ htk
      have z4:HasL H' vs ((ks.map (·.2)).map Shp.dat):=by
       rw [PD (by rw [Oh,Oh];omega)] at z3;exact z3
      have st':=ZH htk (.lst vs);have tkp:tk≠p:=jq.st.ne htk;have sc:Zo (upd H' tk (.lst vs)) p:=jq.st.keep (ZE (Ne.symm tkp));have jc:=jq.sameB a st'.sb sc
      have hi0:0 < i:=by
       have z:(0:Int) < 0 + (i:Int):=of_decide_eq_true c0;omega
      have lti:(ys.take i).length=i:=by rw [Ou];omega
      refine ⟨p,q1,cn,dp,tk,top,ys.take i,ks.map (·.2),rfl,sc,st' _ _ hq2,by omega,by omega,⟨kc,jc.cns,by rw [lti];exact jc.lc,fun z hz=>⟨c z,(jc.vc z hz).1,O7 _,(jc.vc z hz).2⟩⟩,⟨kd,jc.dps,by rw [lti];exact jc.ld,fun z hz=>⟨d z,(jc.vd z hz).1,O7 _,(jc.vd z hz).2⟩⟩,YG ZC (z4.mono st'),q1p,a.cnp,a.dpp,tkp,fun v H2 b2 s2 hv=>?_⟩;refine K1 _ _ ⟨v,jc.sameB a b2 s2,rfl,?_⟩;rcases hv with hv | ⟨e,g,r',ca,cb,da,db,he,hg,rfl,_,hr2,hcc,hdd,h1,h2,h3⟩
      .exact .inl hv
      .refine .inr ⟨e,g,r',rfl,hr2,he,hg,?_,?_,h3⟩
       .obtain ⟨d1,d2⟩:=hdd kd jc.dps
        rw [(jc.vd e he).1] at d1;rw [(jc.vd g hg).1] at d2;injection d1 with d1;injection d1 with d1;injection d2 with d2;injection d2 with d2;have x1:d e=da:=by omega
        have x2:d g=db:=by omega
        rw [x1,x2];exact h1
       .obtain ⟨d1,d2⟩:=hcc kc jc.cns
        rw [(jc.vc e he).1] at d1;rw [(jc.vc g hg).1] at d2;injection d1 with d1;injection d1 with d1;injection d2 with d2;injection d2 with d2;have x1:c e=ca:=by omega
        have x2:c g=cb:=by omega
        rw [x1,x2];exact h2
    .exact K1 _ _ ⟨.non,j1,rfl, .inl rfl⟩
   .exact Zs (by simp) (K1 _ _ ⟨.non,j,rfl, .inl rfl⟩)
 .rintro U H' ⟨kc,kd,ks,c,d,xs,j,z1,z2,rfl⟩
  have en:((((ys.map V.str).length:Nat):Int).toNat)=ys.length:=by omega
  rw [en] at j;refine ⟨sl 2,fun t ht=>?_⟩;have st:=ZH ht (.tup [.ref kl, .ref cn]);have tp:=j.st.ne ht;have nk:=j.nk;rw [List.take_length] at nk;have lk:ks.length=ys.length:=by rw [<-nk,Oh]
  exact q t kl cn ks c d xs _ (j.sb.trans st.sb) (j.st.keep (ZE (Ne.symm tp))) (j.sb.free tp ht) tp ZC a.fk a.klp (st _ _ j.kls) (j.hs.mono st) j.kk (by rw [nk];exact wds.nd) (by omega) (by omega) ⟨by rw [nk];exact wds,⟨tgs,wdt,j.tq⟩,j.pq⟩ a.fc a.cnp ⟨kc,st _ _ j.cns,fun y hy=>(j.vc y (by rw [List.take_length,<-nk];exact hy)).1⟩
end
end K4
namespace L2
open PySem
def Yw(ks:List (Str × Shp))(y:Str):Option Shp:=(ks.find? fun k=>decide (k.1=y)).map (·.2)
def Zb(ks:List (Str × Shp)):Nat->Str->List W
 | 0,_=> []
 | n + 1,y=>match Yw ks y with
  | none=> []
  | some (.tags ts)=> .non::ts.map W.tag
  | some (.pair a b)=> .non::(Zb ks n a).flatMap fun u=>(Zb ks n b).map fun v=> .pair u v
theorem UQ(h:Yw ks y=some s):(y,s)∈ks:=by
 unfold Yw at h
 cases e:ks.find? fun k=>decide (k.1=y) with
 | none=>rw [e] at h;cases h
 | some k=>
  rw [e] at h;have h':k.2=s:=Oy h;have q:=List.find?_some e;have m:=List.mem_of_find?_eq_some e;have z:k.1=y:=of_decide_eq_true q;rw [<-h',<-z];exact m
theorem Ys(h:y∈ks.map (·.1)):∃ s,Yw ks y=some s:=by
 obtain ⟨k,hk,rfl⟩:=O1.mp h;unfold Yw
 cases e:ks.find? fun z=>decide (z.1=k.1) with
 | none=>
  have q:=List.find?_eq_none.mp e k hk;simp at q
 | some z=>exact ⟨z.2,rfl⟩
theorem KK.at(h:KK top c d ks)(e:Yw ks y=some s):KK1 top c d (ks.map (·.1)) y s:=by
 obtain ⟨i,hi,ei⟩:=List.mem_iff_getElem.mp (UQ e);have q:=h i y s (by rw [Oi hi,ei])
 have sub:∀ z,z∈(ks.take i).map (·.1)->z∈ks.map (·.1):=fun z hz=>by
  obtain ⟨k,hk,rfl⟩:=O1.mp hz;exact O1.mpr ⟨k,PK hk,rfl⟩
 cases s with
 | tags ts=>exact q
 | pair a b=>exact ⟨sub a q.1,sub b q.2.1,q.2.2⟩
theorem WJ{α:Type}(f:α->List W)(k:Nat):∀ (l:List α),(∀ a∈l,(f a).length=k)->(l.flatMap f).length=l.length * k
 | [],_=>by simp
 | a::l,h=>by
  rw [List.flatMap_cons,Os,h a (by simp),WJ f k l fun b hb=>h b (by simp [hb]),PB,Nat.succ_mul,Nat.add_comm]
theorem Y9(h:KK top c d ks):∀ (n:Nat) (y:Str),y∈ks.map (·.1)->d y < n->(Zb ks n y).length=c y/\0 < c y/\∀ u∈Zb ks n y,u.dep<=d y
 | 0,y,_,hd=>absurd hd (Nat.not_lt_zero _)
 | n + 1,y,hy,hd=>by
  obtain ⟨s,hs⟩:=Ys hy;have k1:=h.at hs;unfold Zb;rw [hs]
  cases s with
  | tags ts=>
   obtain ⟨h1,h2,h3,h4,_⟩:=k1;refine ⟨?_,by omega,fun u hu=>?_⟩
   .show (W.non::ts.map W.tag).length=c y
    rw [PB,Oh];omega
   .have hu':u= .non \/ u∈ts.map W.tag:=O8.mp hu
    rcases hu' with rfl | hu'
    .exact O7 _
    .obtain ⟨x,_,rfl⟩:=O1.mp hu'
     exact O7 _
  | pair a b=>
   obtain ⟨h1,h2,h3,h4,h5,h6⟩:=k1;have m1:=Nat.le_max_left (d a) (d b);have m2:=Nat.le_max_right (d a) (d b);obtain ⟨la,pa,da⟩:=Y9 h n a h1 (by omega);obtain ⟨lb,pb,db⟩:=Y9 h n b h2 (by omega);refine ⟨?_,by omega,fun u hu=>?_⟩
   .show (W.non::(Zb ks n a).flatMap fun u=>(Zb ks n b).map fun v=> .pair u v).length=c y
    rw [PB,WJ _ (c b) _ (fun a _=>by rw [Oh,lb]),la];omega
   .have hu':u= .non \/ u∈(Zb ks n a).flatMap fun u=>(Zb ks n b).map fun v=> .pair u v:=O8.mp hu
    rcases hu' with rfl | hu'
    .exact O7 _
    .obtain ⟨x,hx,hu2⟩:=List.mem_flatMap.mp hu'
     obtain ⟨z,hz,rfl⟩:=O1.mp hu2;have q1:=da x hx;have q2:=db z hz;show 1 + max x.dep z.dep<=d y;have:=Nat.max_le.mpr ⟨O6 q1 m1,O6 q2 m2⟩;omega
def Jf(H:Hp)(a:Addr)(ks:List (Str × Shp)):Prop:= ∃ kvs,Rd H a (.dK kvs)/\kvs.map (·.1)=ks.map (fun k=>Sum.inr k.1)/\∀ y s,Yw ks y=some s->∃ v,Zl kvs (Sum.inr y)=some v/\Has H v s.dat
theorem VA(h:KK top c d ks):∀ (n m:Nat) (y:Str),y∈ks.map (·.1)->d y < n->d y < m->Zb ks n y=Zb ks m y
 | 0,_,_,_,h1,_=>absurd h1 (Nat.not_lt_zero _)
 | _ + 1,0,_,_,_,h2=>absurd h2 (Nat.not_lt_zero _)
 | n + 1,m + 1,y,hy,h1,h2=>by
  obtain ⟨s,hs⟩:=Ys hy;have k1:=h.at hs;unfold Zb;rw [hs]
  cases s with
  | tags ts=>rfl
  | pair a b=>
   obtain ⟨q1,q2,q3,q4,q5,q6⟩:=k1;have m1:=Nat.le_max_left (d a) (d b);have m2:=Nat.le_max_right (d a) (d b);show (W.non::_)=(W.non::_);rw [VA h n m a q1 (by omega) (by omega),VA h n m b q2 (by omega) (by omega)]
theorem Wa:∀ {ts:List Str}{zs:List V},HasL H zs (ts.map Dat.str)->zs=ts.map V.str
 | [], [],_=>rfl
 | [],_::_,h=>by rw [List.map_nil] at h;unfold HasL at h;exact h.elim
 | _::_, [],h=>by rw [O0] at h;unfold HasL at h;exact h.elim
 | t::ts,z::zs,h=>by
  rw [O0] at h;unfold HasL at h;obtain ⟨g1,g2⟩:=h;unfold Has at g1;rw [g1,Wa g2];rfl
def wOf(ks:List (Str × Shp))(n:Nat):Shp->List W
 | .tags ts=> .non::ts.map W.tag
 | .pair a b=> .non::(Zb ks n a).flatMap fun u=>(Zb ks n b).map fun v=> .pair u v
theorem Jt(h:Yw ks y=some s):Zb ks (n + 1) y=wOf ks n s:=by
 conv=>lhs;unfold Zb
 rw [h];cases s <;> rfl
theorem Wq{α:Type}(f:α->List W){l:List α}{a:α}(h:l[i]?=some a):(l.take (i + 1)).flatMap f=(l.take i).flatMap f++ f a:=by
 rw [take_snoc h,List.flatMap_append];simp
theorem Vx(h:Has H v (Shp.tags ts).dat):∃ p l,v= .ref p/\H p=some (.tup [.str "tags", .ref l])/\H l=some (.tup (ts.map V.str)):=by
 unfold Shp.dat Has at h;obtain ⟨p,xs,rfl,hp,hl⟩:=h
 match xs,hl with
 | [u,v],hl=>
  unfold HasL at hl;obtain ⟨h1,h2⟩:=hl;unfold HasL at h2;unfold Has at h1;subst h1;have h3:=h2.1;unfold Has at h3;obtain ⟨l,zs,rfl,hz,hzl⟩:=h3;have e:zs=ts.map V.str:=Wa hzl;rw [e] at hz;exact ⟨p,l,rfl,hp,hz⟩
 | [],hl=>unfold HasL at hl;exact hl.elim
 | [x],hl=>unfold HasL at hl;obtain ⟨_,h2⟩:=hl;unfold HasL at h2;exact h2.elim
 | _::_::_::_,hl=>unfold HasL at hl;obtain ⟨_,h2⟩:=hl;unfold HasL at h2;obtain ⟨_,h3⟩:=h2;unfold HasL at h3;exact h3.elim
theorem VP(h:Has H v (Shp.pair a b).dat):∃ p,v= .ref p/\H p=some (.tup [.str "pair", .str a, .str b]):=by
 unfold Shp.dat Has at h;obtain ⟨p,xs,rfl,hp,hl⟩:=h
 match xs,hl with
 | [u,v,w],hl=>
  unfold HasL at hl;obtain ⟨h1,h2⟩:=hl;unfold HasL at h2;obtain ⟨h2,h3⟩:=h2;unfold HasL at h3;have h3:=h3.1;unfold Has at h1 h2 h3;subst h1 h2 h3;exact ⟨p,rfl,hp⟩
 | [],hl=>unfold HasL at hl;exact hl.elim
 | [x],hl=>unfold HasL at hl;obtain ⟨_,h2⟩:=hl;unfold HasL at h2;exact h2.elim
 | [x,y],hl=>unfold HasL at hl;obtain ⟨_,h2⟩:=hl;unfold HasL at h2;obtain ⟨_,h3⟩:=h2;unfold HasL at h3;exact h3.elim
 | _::_::_::_::_,hl=>unfold HasL at hl;obtain ⟨_,h2⟩:=hl;unfold HasL at h2;obtain ⟨_,h3⟩:=h2;unfold HasL at h3;obtain ⟨_,h4⟩:=h3;unfold HasL at h4;exact h4.elim
theorem Rd.mono(r:Rd H a u)(e:Same H H'):Rd H' a u:=by
 rcases r with r | ⟨o,r⟩
 .exact .inl (e _ _ r)
 .exact .inr ⟨o,e _ _ r⟩
theorem Jf.mono(s:Jf H a ks)(e:Same H H'):Jf H' a ks:=by
 obtain ⟨kvs,h1,h2,h3⟩:=s;exact ⟨kvs,h1.mono e,h2,fun y s hs=>let ⟨v,g1,g2⟩:=h3 y s hs;⟨v,g1,g2.mono e⟩⟩
theorem Xs:∀ ts:List Str,HasL H (ts.map V.str) ((ts.map W.tag).map W.dat)
 | []=>HasL.nil
 | t::ts=>HasL.cons (by show Has H (.str t) (W.dat (.tag t));unfold W.dat Has;rfl) (Xs ts)
end L2
namespace L2
open PySem PySem.Spec PyProof.Rows
section
def Tr(K:W.Frag):R2:=fun x y H Q=> ∃ a b ys,x= .ref a/\y= .ref b/\SqT K H a []/\SqT K H b ys/\Q (.ref b) H
theorem FO:OpR X (binaryOp .Add) (Tr X.K):=by
 intro pins s U H x y v u Q I rx ry h;obtain ⟨a,b,ys,rfl,rfl,ha,hb,q⟩:=h;cases rx;cases ry;obtain ⟨its,r1,p1,_⟩:=I.tuple ha;obtain ⟨its2,r2,p2,_⟩:=I.tuple hb;cases r1;obtain ⟨⟨k1,dd,data,sl⟩,ho,hc,n,hd⟩:=id p1;obtain ⟨⟨k2,dd2,data2,sl2⟩,ho2,hc2,n2,hd2⟩:=id p2;simp only at hc hd hc2 hd2;subst hc hd hc2 hd2;exact concat_meets ⟨_,ho,rfl⟩ ⟨_,ho2,rfl⟩ noFill_tuple_add seq_tuple_add PySem.F.slot_tuple_add PySem.F.entry_tuple_add (PySem.F.args_tuple_add_2 _ _)
  (tuple_addW0 a b _ its2.toArray n n2 dd dd2 sl sl2 rfl) ⟨ho,ho2, .ref b,H,I,rfl,q⟩
theorem G0:OpR X (binaryOp .Add) (fun x y H Q=>Tr X.K x y H Q \/ Tq X.K x y H Q):=FO.or FN
end
end L2
namespace L2
open PySem PySem.Spec PyProof.Rows
theorem Js:plainId "dict.update.loop" =true:=by decide +kernel
theorem RI:entryFor table "dict.update.loop" =some Builtin.«dict.update.loop»:=entryFor_of_fast (by kernel_rfl)
theorem IH:typeLookup (.type "list") (Str.ofString "keys")=pure none:=am_miss_of_fast (by decide +kernel)
section
theorem II(pl:PlainL s.heap a its)(hA:A.handled=none)(h:∀ h' tk,(∀ b o,s.heap.get? b=some o->h'.get? b=some o)->Q none {s with heap:=h',toks:=tk}):
  wpAny (model prog w) A (getAttr? (.ref a) (Str.ofString "keys")) Q E s:=by
 obtain ⟨⟨c,dct,dat,sl⟩,k,hx,hc,hd,hdat⟩:=pl;simp only at hc hdat hd;subst hc hdat hd;obtain ⟨h0,gs,dr,tk,os⟩:=s;have sl':=F.slot_list_getattribute;have lk':=sl'.lookup;have bd':=sl'.bind (.ref a);have no':=am_list_getattr_none;have ae':=sub_AttributeError;have hT:∀ n,(Shared.mk h0 gs dr n os).TypeIs (.ref a) "list" :=fun n=>⟨_,hx,rfl⟩;simp only [getAttr?,getAttrBy?,getAttrBy]
 repeat (any_goals (first | assumption | exact hT _ | ((with_reducible show wpAny _ _ (call (Value.builtin "list.__getattribute__") _ _) _ _ _);refine call_meets F.slot_list_getattribute (hT _) am_entry_list_getattribute (F.args_list_getattribute_2 _ _) (meets_getattribute_miss_list a its k sl (Str.ofString "keys") _ IH (by decide +kernel) (by size_fits)) ⟨hx,hA,fun h' tk' e hx'=>?_⟩) | wp_step))
 have there:=hx'.there;obtain ⟨_,_,he⟩:=there;refine (?_:wpAny _ _ (getattributeRaised _ _ _ _ _ _ _) _ _ _);simp only [getattributeRaised]
 repeat any_goals first | assumption | wp_step
 exact h _ _ hx'.keeps
end
def Of{prog:Program}{w:World}(h₀:Heap)(vs:List (Key × Value))(i:Nat)(v:Value):Prop:=
 ∃ a k ku vu,v= .ref a/\vs[i]?=some (k,vu)/\h₀.IsTuple a #[ku,vu]/\(Z2 prog w).is k ku=true
theorem BF(vs:List (Key × Value))(hn:(vs.map (·.1)).Nodup)(e:vs[i]?=some (k,u)):stored (vs.take i) k u=vs.take (i + 1):=by
 obtain ⟨hi,e'⟩:=Ol.mp e
 have hno:(vs.take i).any (fun kv=>decide (kv.1=k))=false:=by
  rw [Bool.eq_false_iff];intro hany;obtain ⟨kv,hm,hk⟩:=List.any_eq_true.mp hany;have hk':kv.1=k:=of_decide_eq_true hk;obtain ⟨j,hj,ej⟩:=List.mem_iff_getElem.mp hm;rw [Ou] at hj;rw [List.getElem_take] at ej;have hj':j < (vs.map (·.1)).length:=by rw [Oh];omega
  have hi':i < (vs.map (·.1)).length:=by rw [Oh];omega
  have q:(vs.map (·.1))[j]=(vs.map (·.1))[i]:=by
   rw [List.getElem_map,List.getElem_map,ej,e',hk']
  exact List.pairwise_iff_getElem.mp hn j i hj' hi' (by omega) q
 unfold stored;rw [hno,List.take_add_one,e]
 rfl
section
variable{St:Nat->Heap->Prop}
theorem NI(W:Walks prog w A.in1 I fp wr n P St)(hlen:vs.length=n)(hsz:vs.length<=sizeLine)(hn:(vs.map (·.1)).Nodup)(hP:∀ i v,P i v->Of (prog:=prog) (w:=w) h₀ vs i v)(d:Addr)(hdf:d ∉ fp)(hw:∀ b o,h₀.get? b=some o->b ∉ wr/\b≠d)(res:Value):
  ∀ (k i:Nat) (s:Shared) (j:Int) (t:Tok),n - i=k->i<=n->St i s.heap->s.heap.DictOf (Z2 prog w) d (vs.take i)->(∀ b o,h₀.get? b=some o->s.heap.get? b=some o)->
  (∀ h' tk,h'.DictOf (Z2 prog w) d vs->(∀ b o,b ∉ wr->b≠d->s.heap.get? b=some o->h'.get? b=some o)->R (.ok (.ret res)) {s with heap:=h',toks:=tk})->
  codeAny (model prog w) A (.builtin "dict.update.loop" ⟨[.ref d, .ref I, .int j t,res], []⟩) R s:=by
 have hdw:d ∉ wr:=fun h=>hdf (W.sub _ h);intro k
 induction k with
 | zero=>
  intro i s j t hk hi hst hd h0 hR;have hin:i=n:=by omega
  subst hin;refine codeAny_builtin RI ?_;rw [Around.under_plainId Js _];refine wpAny_bind (m:=pyNext (.ref I)) (W.done s _ _ hst fun h' tk hk'=>wpAny_bind (wpAny_pure (wpAny_pure ?_)));refine hR h' tk ?_ fun b o hb _ e=>hk' b o hb e;rw [<-hlen,List.take_length] at hd;obtain ⟨o,es,ep,ho,rest⟩:=hd;exact ⟨o,es,ep,hk' d o hdw ho,rest⟩
 | succ k ih=>
  intro i s j t hk hi hst hd h0 hR;have hlt:i < n:=by omega
  refine codeAny_builtin RI ?_;rw [Around.under_plainId Js _];refine wpAny_bind (m:=pyNext (.ref I)) (W.item i s _ _ hlt hst fun v h' tk hPv hst' hk'=>?_);obtain ⟨a,key,ku,vu,rfl,ev,ht,hkey⟩:=hP i v hPv;have h0':∀ b o,h₀.get? b=some o->h'.get? b=some o:=fun b o e=>hk' b o (hw b o e).1 (h0 b o e);obtain ⟨o,ho,hc,m,hdat⟩:=ht;have ho':=h0' a o ho;have hT:({s with heap:=h',toks:=tk}:Shared).TypeIs (.ref a) "tuple" :=⟨o,ho',hc⟩;refine wpAny_bind (wpAny_holding (wpAny_bind (wpAny_tryCatch ?_)));simp only [Builtin.Dict.pairItems];refine wpAny_bind (m:=typeOf (.ref a)) (wpAny_typeOf hT ?_);rw [if_pos (by decide)];refine wpAny_bind (wpAny_seqItems ho' hdat (wpAny_pure ?_));show wpAny _ A.in1 (holding [ku,vu] (dictSet d ku vu)) _ _ _
  have hd':Heap.DictOf (Z2 prog w) h' d (vs.take i):=by
   obtain ⟨o1,es,ep,ho1,rest⟩:=hd;exact ⟨o1,es,ep,hk' d o1 hdw ho1,rest⟩
  refine wpAny_holding (wpAny_dictSet_pairs (hsz:=by rw [Ou];omega) hkey hd' fun h2 hd2 hs2=>?_);rw [BF vs hn ev] at hd2;refine wpAny_pure ⟨plainId_quiet Js _,ih (i + 1) _ (j + 1) 0 (by omega) hlt (W.frame _ _ _ hst' fun b hb o e=>?_) hd2 (fun b o e=>?_) fun h3 tk3 hd3 hk3=>?_⟩
  .exact (hs2.2 b (fun z=>hdf (z ▸ hb))).trans e
  .exact (hs2.2 b (hw b o e).2).trans (h0' b o e)
  .refine hR h3 tk3 hd3 fun b o hb hbd e=>hk3 b o hb hbd ((hs2.2 b hbd).trans (hk' b o hb e))
end
section
def W4(K:W.Frag)(H:Hp)(ts:List Addr)(kvs:List (Key × V)):Prop:=ts.length=kvs.length/\∀ (i:Nat) (a:Addr) (k:Key) (y:V),ts[i]?=some a->kvs[i]?=some (k,y)->SqT K H a [kV k,y]
theorem X6(h:Heap):∀ (ts:List Addr) (kvs:List (Key × V)),ts.length=kvs.length->(∀ (i:Nat) (a:Addr) (k:Key) (y:V),ts[i]?=some a->kvs[i]?=some (k,y)->∃ ku vu,h.IsTuple a #[ku,vu]/\RelV (kV k) ku/\RelV y vu)->
  ∃ vs,KV kvs vs/\∀ (i:Nat) (a:Addr),ts[i]?=some a->∃ k ku vu,vs[i]?=some (k,vu)/\h.IsTuple a #[ku,vu]/\RelV (kV k) ku
 | [], [],_,_=>⟨[], .nil,fun i a e=>by simp at e⟩
 | [],_::_,e,_=>by simp at e
 | _::_, [],e,_=>by simp at e
 | t::ts,kv::kvs,e,hp=>by
  obtain ⟨ku,vu,h1,h2,h3⟩:=hp 0 t kv.1 kv.2 rfl rfl;obtain ⟨vs,r,hv⟩:=X6 h ts kvs (by simpa using e) fun i a k y e1 e2=>hp (i + 1) a k y e1 e2;refine ⟨(kv.1,vu)::vs, .cons ⟨rfl,h3⟩ r,fun i a ea=>?_⟩
  cases i with
  | zero=>
   have ea':some t=some a:=ea;cases ea';exact ⟨kv.1,ku,vu,rfl,h1,h2⟩
  | succ i=>exact hv i a ea
theorem XT(hc:X.calm=true):VB X (.type "dict") (fun xs H Q=> ∃ (p:Addr) (ts:List Addr) (kvs:List (Key × V)),xs= [.ref p]/\SqL X.K H p (ts.map V.ref)/\W4 X.K H ts kvs/\(kvs.map (·.1)).Nodup/\∀ l,H l=none->Q (.ref l) (upd H l (.dK kvs))):=by
 intro pins s U H xs us Q I r h;obtain ⟨p,ts,kvs,rfl,hq,hp,hn,q⟩:=h;obtain ⟨u,rfl,ru⟩:=vals1 r;cases ru;obtain ⟨its,r',pl,hz⟩:=I.list hq;rw [Oh] at hz
 have hlts:its.length=ts.length:=by
  have:=r'.length;rw [Oh] at this;exact this.symm
 have hat:∀ (i:Nat) (a:Addr),ts[i]?=some a->its[i]?=some (Value.ref a):=fun i a e=>by
  obtain ⟨u,hu,ru⟩:=r'.get (show (ts.map V.ref)[i]?=some (V.ref a) by rw [On,e];rfl);rw [hu,show u=Value.ref a from ru]
 obtain ⟨vs,rel,hvs⟩:=X6 s.heap ts kvs hp.1 fun i a k y e1 e2=>by
  obtain ⟨its2,r2,p2,_⟩:=I.tuple (hp.2 i a k y e1 e2)
  cases r2 with
  | cons r1 t1=>
   cases t1 with
   | cons r3 t3=>
    cases t3;exact ⟨_,_,p2,r1,r3⟩
 have hlv:vs.length=its.toArray.size:=by rw [Ov,hlts,hp.1,<-rel.length]
 have hkeys:vs.map (·.1)=kvs.map (·.1):=by
  have all:∀ {l:List (Key × V)}{m:List (Key × Value)},KV l m->m.map (·.1)=l.map (·.1):=by
   intro l m q
   induction q with
   | nil=>rfl
   | cons hq t ih=>rw [O0,O0,ih,hq.1]
  exact all rel
 have hpl:p < s.heap.objs.size:=by
  obtain ⟨o,n,e,_⟩:=pl;exact Ow e
 refine callType_codes (Q₁:=fun ob t=>ob= .ref s.heap.objs.size/\t={s with heap:=s.heap.push {cls:= .type "dict",data:= .dict #[]}}) F.kt_called_dict (F.kt_typeCall_dict_1 _) F.entry_dict_init (kt_code_dict_new _ ⟨rfl,rfl⟩) fun ob t ht=>?_;obtain ⟨rfl,rfl⟩:=ht;have hnew:(s.heap.push {cls:= .type "dict",data:= .dict #[]}).DictOf (Z2 X.prog X.w) s.heap.objs.size []:=Heap.DictOf.new s.heap;have k0:∀ b o,s.heap.get? b=some o->(s.heap.push {cls:= .type "dict",data:= .dict #[]}).get? b=some o:=fun b o e=>Oj _ e;refine And.intro hnew.typeIs (And.intro (F.args_dict_init_2 _ _) ?_);delta Builtin.«dict.__init__» Builtin.Dict.selfAndRest;refine wpAny_bind (wpAny_bind (wpAny_notOrdered_dict hnew.typeIs (wpAny_pure (?_:wpAny _ _ (Builtin.Dict.updateFrom "dict.__init__" s.heap.objs.size (.ref p) [] .none) _ _ _))));delta Builtin.Dict.updateFrom;have pl':=pl.keeps k0;refine wpAny_bind (wpAny_typeOf pl'.isList.typeIs ?_);rw [if_pos (by decide)];refine wpAny_bind (II pl' (I.ok.hd hc) fun h1 tk1 hk1=>?_);simp only [Option.isNone_none,if_true];refine wpAny_bind (wpAny_rule ?_);refine wpAny_bind (wpAny_pyIter_list (pl'.keeps hk1).isList ?_)
 have ld:s.heap.objs.size < h1.objs.size:=by
  obtain ⟨o,es,ep,ho,_⟩:=hnew;exact Ow (hk1 _ _ ho)
 have k1:∀ b o,s.heap.get? b=some o->(h1.push {cls:= .type "list_iterator",data:= .fields #[.ref p, .int 0 0]}).get? b=some o:=fun b o e=>Oj _ (hk1 b o (k0 b o e));refine wpAny_pure ⟨plainId_quiet Js _,NI (Walks.list (A:=X.A.in1.in1) (I.ok.hd hc) h1.objs.size p (O9 (Nat.lt_trans hpl ld)) its.toArray) (h₀:=s.heap) (vs:=vs) hlv (by rw [<-rel.length,<-hp.1];exact hz) (by rw [hkeys];exact hn) ?_ s.heap.objs.size ?_ ?_ .none _ 0 _ 0 0 rfl (O7 _) ?_ ?_ k1 ?_⟩
 .intro i v hv
  have hi:i < its.length:=by
   have:=(Array.getElem?_eq_some_iff.mp hv).1
   rwa [Ov] at this
  have ht:i < ts.length:=by omega
  obtain ⟨k,ku,vu,e1,e2,e3⟩:=hvs i ts[i] (Oi ht);refine ⟨ts[i],k,ku,vu,?_,e1,e2,XG e3⟩;have:=hat i ts[i] (Oi ht);have hv':its[i]?=some v:=by simpa using hv
  rw [this] at hv';exact (Oy hv').symm
 .intro hm
  have two:s.heap.objs.size=h1.objs.size \/ s.heap.objs.size=p:=by simpa using hm
  rcases two with e | e
  .exact absurd e (O9 ld)
  .exact absurd e (Nat.ne_of_gt hpl)
 .intro b o e
  have hb:=Ow e;refine ⟨fun hm=>?_,O9 hb⟩;have e':b=h1.objs.size:=by simpa using hm
  rw [e'] at hb;exact absurd ld (Nat.not_lt_of_lt hb)
 .exact ⟨⟨_,O3 _ rfl,rfl,rfl⟩,(pl.keeps k1).isList⟩
 .obtain ⟨o,es,ep,ho,rest⟩:=hnew
  exact ⟨o,es,ep,Oj _ (hk1 _ _ ho),rest⟩
 .intro h' tk hd' hk'
  refine ⟨rfl, .ref s.heap.objs.size,_,I.laid (a:=s.heap.objs.size) (o:= .dK kvs) (fun b o e=>?_) (Om _) (WK (by rw [<-hp.1];exact hz) (beq_eq_false_iff_ne.mpr (Ne.symm (O9 I.big))) rel hd'),rfl,q _ (I.hok.fresh (Om _))⟩;have hb:=Ow e;refine hk' b o (fun hm=>?_) (O9 hb) (k1 b o e);have e':b=h1.objs.size:=by simpa using hm
  rw [e'] at hb;exact absurd ld (Nat.not_lt_of_lt hb)
end
end L2
namespace L2
open PySem
def R6(K:W.Frag):List V->Hp->VK->Prop:=fun xs H Q=> ∃ (p:Addr) (ts:List Addr) (kvs:List (Key × V)),xs= [.ref p]/\SqL K H p (ts.map V.ref)/\W4 K H ts kvs/\(kvs.map (·.1)).Nodup/\∀ l,H l=none->Q (.ref l) (upd H l (.dK kvs))
theorem WO(hc:X.calm=true):VB X (.type "dict") (R6 X.K):=XT hc
theorem SameB.same(a:SameB p H H')(f:H p=none):Same H H':=fun b o e=>a b o (ZG e f) e
theorem Ux:∀ {ks:List (Str × Shp)}{xs:List V},HasL H xs (ks.map Yf)->∃ (ts:List Addr) (kvs:List (Key × V)),xs=ts.map V.ref/\W4 K H ts kvs/\kvs.map (·.1)=ks.map (fun k=>Sum.inr k.1)/\
  ∀ y s,Yw ks y=some s->∃ v,Zl kvs (Sum.inr y)=some v/\Has H v s.dat
 | [],xs,h=>by
  have l:=h.length;rw [List.map_nil,List.length_nil] at l;have e:xs= []:=List.length_eq_zero_iff.mp l;subst e;exact ⟨[], [],rfl,⟨rfl,fun i a k y e=>by simp at e⟩,rfl,fun y s e=>by simp [Yw] at e⟩
 | (z,sh)::ks,xs,h=>by
  match xs,h with
  | [],h=>unfold HasL at h;exact h.elim
  | x::xs,h=>
   rw [O0] at h;unfold HasL at h;obtain ⟨h1,h2⟩:=h;obtain ⟨a,v,rfl,ha,hv⟩:=Vy h1;obtain ⟨ts,kvs,rfl,⟨tl,tp⟩,ek,hs⟩:=Ux (K:=K) h2;refine ⟨a::ts,(Sum.inr z,v)::kvs,rfl,⟨by simp [tl],fun i b k y e1 e2=>?_⟩,by rw [O0,O0,ek],fun y s e=>?_⟩
   .cases i with
    | zero=>
     have e1':some a=some b:=e1;have e2':some ((Sum.inr z:Key),v)=some (k,y):=e2;cases e1';cases e2';exact SqT.of ha
    | succ i=>exact tp i b k y e1 e2
   .unfold Yw at e
    unfold Zl;rw [List.find?_cons] at e |-
    by_cases ez:z=y
    .subst ez
     simp only [decide_true] at e |-;have e':sh=s:=Oy e;subst e';exact ⟨v,rfl,hv⟩
    .have ez': ¬ (Sum.inr z:Key)=Sum.inr y:=fun q=>ez (Sum.inr.inj q)
     simp only [ez,ez',decide_false] at e |-;exact hs y s e
theorem M7{ks:List (Str × Shp)}{kvs:List (Key × V)}(e:kvs.map (·.1)=ks.map (fun k=>(Sum.inr k.1:Key)))(h:(ks.map (·.1)).Nodup):(kvs.map (·.1)).Nodup:=by
 rw [e];unfold List.Nodup at h |-;rw [List.pairwise_map] at h |-;exact h.imp fun hab q=>hab (Sum.inr.inj q)
theorem KK.small(h:KK 30 c d ks)(hy:y∈ks.map (·.1)):d y<=2/\c y<=30:=by
 obtain ⟨s,hs⟩:=Ys hy;have k1:=h.at hs
 cases s with
 | tags ts=>obtain ⟨h1,h2,h3,h4⟩:=k1;omega
 | pair a b=>obtain ⟨h1,h2,h3,h4,h5,h6⟩:=k1;exact ⟨h6,h4⟩
end L2
namespace L2
open PySem PySem.Spec PyProof.Rows
section
theorem Fy{i:Nat}{Q:Value->Shared->Prop}(he:IsEnum s.heap e it i old)(z:SI tp s.heap it l i xs)(nl:l≠it)(hx:xs[i]?=some x)(hne:e≠it)(hQ:∀ g,IsEnumOut g e it ((i:Int) + 1) x s.heap.objs.size->SJ tp g it l (i + 1)->g.get? s.heap.objs.size=some {cls:= .type "tuple",data:= .seq #[.int i s.toks,x]}->g.objs.size=s.heap.objs.size + 1->
   (∀ b o,b≠e->b≠it->s.heap.get? b=some o->g.get? b=some o)->Q (.ref s.heap.objs.size) {s with heap:=g,toks:=s.toks + 1}):
  wpAny (model prog w) A (Builtin.«enumerate.__next__» ⟨[.ref e], []⟩) (fun fin s'=> ∃ v,fin= .done (.ret v)/\Q v s') E s:=by
 obtain ⟨hp,g,d,tk,os⟩:=s;refine wpAny_bind (m:=field (.ref e) 2) (wpAny_field he rfl (x:= .ref it) rfl ?_);refine wpAny_bind (Xc z nl hx fun g1 z1 s1=>?_);replace s1:Heap.SameBut it hp g1:=s1;have e1:IsEnum g1 e it i old:=(s1.2 e hne).trans he;refine wpAny_bind (m:=field (.ref e) 3) (wpAny_field e1 rfl (x:=rawInt i) rfl ?_);refine wpAny_bind (m:=field (.ref e) 4) (wpAny_field e1 rfl (x:= .none) rfl ?_);refine wpAny_bind (m:=mkInt i) (wpAny_mkInt ?_);refine wpAny_bind (m:=setField (.ref e) 3 (rawInt ((i:Int) + 1))) (wpAny_setField_rec e1 (by simp) fun g2 e2 s2=>?_);replace s2:Heap.SameBut e g1 g2:=s2;replace e2:IsEnum g2 e it ((i:Int) + 1) old:=e2;refine wpAny_bind (m:=setField (.ref e) 4 .none) (wpAny_setField_rec e2 (by simp) fun g3 e3 s3=>?_);replace s3:Heap.SameBut e g2 g3:=s3;replace e3:IsEnum g3 e it ((i:Int) + 1) old:=e3;refine wpAny_bind (m:=newTuple [.int i tk,x]) (wpAny_newTuple ?_);have e4:IsEnum (g3.push {cls:= .type "tuple",data:= .seq #[.int i tk,x]}) e it ((i:Int) + 1) old:=Oj _ e3;generalize q4:g3.push {cls:= .type "tuple",data:= .seq #[.int i tk,x]}=g4 at e4;have sz:g3.objs.size=hp.objs.size:=by rw [s3.1,s2.1,s1.1]
 have el:e < hp.objs.size:=Ow he;have t4:g4.get? hp.objs.size=some {cls:= .type "tuple",data:= .seq #[.int i tk,x]}:=by rw [<-q4,<-sz];exact O3 _ rfl
 have z4:g4.objs.size=hp.objs.size + 1:=by rw [<-q4,Heap.size_push,sz]
 have k4:∀ b o,b≠e->b≠it->hp.get? b=some o->g4.get? b=some o:=fun b o be bi hb=>by
  rw [<-q4];exact Oj _ (s3.extBut b o be (s2.extBut b o be (s1.extBut b o bi hb)))
 have j4:SJ tp g4 it l (i + 1):=by
  rw [<-q4];exact z1.sj.to fun o ho=>Oj _ (s3.extBut _ o (Ne.symm hne) (s2.extBut _ o (Ne.symm hne) ho))
 show wpAny _ _ (Builtin.SmallTypes.ownedTupleIsFree (.ref e) >>=_) _ _ ⟨g4,g,d,tk + 1,os⟩;rw [sz];clear q4 e3 s3 e2 s2 e1 s1 z1 sz g3 g2 g1;refine wpAny_bind (m:=Builtin.SmallTypes.ownedTupleIsFree (.ref e)) (wpAny_bind (m:=field (.ref e) 0) (wpAny_field e4 rfl (x:= .none) rfl (wpAny_pure ?_)));simp only [if_true];refine wpAny_bind (wpAny_rule (wpAny_bind (wpAny_field e4 rfl (x:=old) rfl (wpAny_bind (wpAny_setField_rec e4 (by simp) fun g5 e5 s5=>?_)))));replace s5:Heap.SameBut e g4 g5:=s5;replace e5:IsEnum g5 e it ((i:Int) + 1) x:=e5;refine wpAny_bind (m:=Builtin.SmallTypes.ownedTupleHandOut (.ref e) (.ref hp.objs.size)) ?_;simp only [Builtin.SmallTypes.ownedTupleHandOut];refine wpAny_bind (wpAny_setField_rec e5 (by simp) fun g6 e6 s6=>?_);replace s6:Heap.SameBut e g5 g6:=s6;replace e6:IsEnumOut g6 e it ((i:Int) + 1) x hp.objs.size:=e6;refine wpAny_setField_rec e6 (by simp) fun g7 e7 s7=>?_;replace s7:Heap.SameBut e g6 g7:=s7;replace e7:IsEnumOut g7 e it ((i:Int) + 1) x hp.objs.size:=e7;have up:∀ b o,b≠e->g4.get? b=some o->g7.get? b=some o:=fun b o be q=>s7.extBut b o be (s6.extBut b o be (s5.extBut b o be q));refine wpAny_bind (wpAny_letGo (wpAny_pure ⟨_,rfl,hQ g7 e7 (j4.to fun o q=>up _ o (Ne.symm hne) q) (up _ _ (Nat.ne_of_gt el) t4) (by rw [s7.1,s6.1,s5.1,z4]) fun b o be bi hb=>up b o be (k4 b o be bi hb)⟩))
theorem Fg{i:Nat}(he:IsEnum s.heap e it i old)(z:SI tp s.heap it l i xs)(nl:l≠it)(hx:xs[i]?=some x)(hne:e≠it)(hQ:∀ g,IsEnumOut g e it ((i:Int) + 1) x s.heap.objs.size->SJ tp g it l (i + 1)->g.get? s.heap.objs.size=some {cls:= .type "tuple",data:= .seq #[.int i s.toks,x]}->g.objs.size=s.heap.objs.size + 1->
   (∀ b o,b≠e->b≠it->s.heap.get? b=some o->g.get? b=some o)->Q (some (.ref s.heap.objs.size)) {s with heap:=g,toks:=s.toks + 1}):wpAny (model prog w) A (pyNext (.ref e)) Q E s:=by
 have hT:s.TypeIs (.ref e) "enumerate" :=⟨_,he,rfl⟩;simp only [pyNext];exact wpAny_bind (wpAny_attempt (wpAny_callSpecial?_slot (name:=Str.ofString "__next__") hT F.slot_enumerate_next (wpAny_call_entry F.slot_enumerate_next hT F.entry_enumerate_next
   (Fy he z nl hx hne fun g a b c d k=>wpAny_pure (hQ g a b c d k)) (F.args_enumerate_next_1 _))))
theorem LA{i:Nat}(hh:A.handled=none)(he:IsEnum s.heap e it i old)(z:SI tp s.heap it l i xs)(hx:xs[i]?=none)(hQ:∀ g,Heap.ExtBut it s.heap g->Q none {s with heap:=g}):wpAny (model prog w) A (pyNext (.ref e)) Q E s:=by
 have hT:s.TypeIs (.ref e) "enumerate" :=⟨_,he,rfl⟩;simp only [pyNext];refine wpAny_bind (wpAny_attempt (wpAny_callSpecial?_slot (name:=Str.ofString "__next__") hT F.slot_enumerate_next (wpAny_call_entry F.slot_enumerate_next hT F.entry_enumerate_next ?_ (F.args_enumerate_next_1 _))));refine wpAny_bind (m:=field (.ref e) 2) (wpAny_field he rfl (x:= .ref it) rfl (wpAny_bind (Rg hh z hx fun g y eg ⟨o,ho,hc⟩=>?_)));exact wpAny_bind (wpAny_isInstance (T:="StopIteration") (b:=true) ⟨o,ho,hc⟩ isSubtype_stop (wpAny_pure (hQ _ eg)))
set_option tactic.hygienic true in
theorem BE(tp:Bool)(l:Addr)(xs:Array Value):Meets (Builtin.«enumerate.__new__» ⟨[.type "enumerate", .ref l], []⟩) (fun _ R s=>Wk tp s.heap l xs/\
   R (.ok (.ret (.ref (s.heap.push (VH tp l)).objs.size))) {s with heap:=(s.heap.push (VH tp l)).push {cls:= .type "enumerate",data:= .fields #[.none, .bool false, .ref s.heap.objs.size,rawInt 0, .none, .none]}}):=
 .of_wp fun prog w A R s h=>by
  obtain ⟨hp,g,d,tk,os⟩:=s;obtain ⟨hl,h⟩:=h;have hsub:=sub_enumerate;have k1:Wk tp (Shared.heap ⟨hp,g,d,tk,os⟩) l xs:=hl
  obtain ⟨ob,hob,hcl⟩:∃ ob,hp.get? l=some ob/\(∃ ys n,ob.data= .seq ys n):=by
   cases tp with
   | false=>obtain ⟨o,e,_,n,dd⟩:=hl;exact ⟨o,e,_,n,dd⟩
   | true=>obtain ⟨o,e,_,n,dd⟩:=hl;exact ⟨o,e,_,n,dd⟩
  wp_walk using AutoSeq1.wpAny_loadPart' hob
  refine wpAny_stack_any fun st=>wpAny_pure ?_
  split
  .rename_i c _ _ _ _ _
   cases (c==Value.type "enumerate") <;> (wp_walk using AutoSeq1.wpAny_loadPart' hob,XW k1;exact ⟨_,rfl,h⟩)
  .wp_walk using AutoSeq1.wpAny_loadPart' hob,XW k1
   exact ⟨_,rfl,h⟩
theorem IO(h1:Wk tp s.heap l xs)(h:∀ g,IsEnum g (s.heap.objs.size + 1) s.heap.objs.size 0 .none->SJ tp g s.heap.objs.size l 0->(∀ c o,s.heap.get? c=some o->g.get? c=some o)->Q (.ref (s.heap.objs.size + 1)) {s with heap:=g}):
  wpAny (model prog w) A (call (.type "enumerate") [.ref l]) Q E s:=by
 refine callType_new F.called_enumerate (by decide) (F.typeCall_enumerate_1 _) (F.newCall_enumerate_1 _) (fun obj=>F.args_object_init_2 obj _) F.entry_enumerate_new (BE tp l xs) ⟨h1,?_⟩;have e1:(s.heap.push (VH tp l)).objs.size=s.heap.objs.size + 1:=Heap.size_push ..;have p2:((s.heap.push (VH tp l)).push {cls:= .type "enumerate",data:= .fields #[.none, .bool false, .ref s.heap.objs.size,rawInt 0, .none, .none]}).get? (s.heap.push (VH tp l)).objs.size=some _:=O3 _ rfl;have p1:SJ tp ((s.heap.push (VH tp l)).push {cls:= .type "enumerate",data:= .fields #[.none, .bool false, .ref s.heap.objs.size,rawInt 0, .none, .none]}) s.heap.objs.size l 0:=(SJ.new tp s.heap l).to fun o q=>Oj _ q;show _/\_;rw [e1] at p2 |-;exact ⟨⟨_,p2,rfl⟩,h _ p2 p1 fun c o q=>Oj _ (Oj _ q)⟩
end
structure ER(h:Heap)(e it:Addr)(tp:Bool)(l:Addr)(k:Nat):Prop where
 enu:∃ old,IsEnum h e it k old
 one:SJ tp h it l k
def Ite(K:W.Frag)(tp:Bool)(l:Addr):It:=
 ⟨fun i H=> ∃ xs x,Sq K tp H l xs/\xs[i]?=some x,fun i H v H'=> ∃ r x,v= .ref r/\H r=none/\H'=upd H r (.tup [.int (i:Nat),x])/\∀ xs,Sq K tp H l xs->xs[i]?=some x,fun i H=> ∃ xs,Sq K tp H l xs/\xs.length<=i⟩
theorem El{P:Program}{w:World}{K:W.Frag}{elts:List Expr}{x1}{pos:Pos}{e it l:Addr}{tp:Bool}(n1:e≠it)(n2:l≠it):Turn P w K (.Tuple elts x1 pos) (Ite K tp l) [e,it] e (fun i h=>ER h e it tp l i) where
 mem:=by simp
 obj:=fun i h st b hb=>by
  have q:b=e \/ b=it:=by simpa using hb
  rcases q with q | q <;> rw [q]
  .obtain ⟨old,h1⟩:=st.enu
   exact ⟨_,h1,fun v e=>nomatch e⟩
  .exact st.one.obj
 keep:=fun i h h' st k=>⟨let ⟨old,h1⟩:=st.enu;⟨old,k e (by simp) _ h1⟩,st.one.to fun o q=>k it (by simp) o q⟩
 item:=by
  intro X hP hw hK hc i pins s U H E I hf st hg;subst hP hw hK;obtain ⟨xs,x,q1,hx⟩:=hg;obtain ⟨its,r1,w1⟩:=I.sq q1;obtain ⟨u1,hu1,ru1⟩:=r1.get hx;obtain ⟨old,he⟩:=st.enu;have elt:e < s.heap.objs.size:=Ow he;refine Fg he (st.one.si w1) n2 (x:=u1) (by simpa using hu1) n1 fun g ho hj ht sz kp=>?_;have kp':∀ b o,b ∉ [e,it]->s.heap.get? b=some o->g.get? b=some o:=fun b o hb q=>kp b o (fun z=>hb (by simp [z])) (fun z=>hb (by simp [z])) q;have I1:Inv X pins U H {s with heap:=g,toks:=s.toks + 1}:=I.turnedL (t':=s.toks + 1) kp' hf;have hn:H s.heap.objs.size=none:=I.hok.fresh (Om _);refine ⟨_,rfl,?_⟩;refine wpAny_letOwnedTupleGo_enum (s:={s with heap:=g,toks:=s.toks + 1}) ho fun g2 e2 s2=>?_
  have I2:Inv X pins U H {s with heap:=g2,toks:=s.toks + 1}:=I1.turnedL (s:={s with heap:=g,toks:=s.toks + 1}) (t':=s.toks + 1) (ch:= [e]) (fun b o hb q=>s2.extBut b o (fun z=>hb (by simp [z])) q) fun b hb=>by
   have q:b=e:=by simpa using hb
   rw [q];exact hf e (by simp)
  have pg2:g2.get? s.heap.objs.size=some {cls:= .type "tuple",data:= .seq #[.int i s.toks,u1]}:=s2.extBut _ _ (Nat.ne_of_gt elt) ht;have I3:Inv X pins U (upd H s.heap.objs.size (.tup [.int (i:Nat),x])) {s with heap:=g2,toks:=s.toks + 1}:=I2.retrack hn (I.fpOk (Om _) hn) ⟨sl 2, [.int i s.toks,u1], .cons ⟨_,rfl⟩ (.cons ru1 .nil),⟨_,pg2,rfl,rfl,_,rfl⟩⟩
  have ltf:∀ b∈ [e,it],b < s.heap.objs.size:=fun b hb=>by
   have q:b=e \/ b=it:=by simpa using hb
   rcases q with q | q <;> rw [q]
   .exact elt
   .obtain ⟨o,q,_⟩:=st.one.obj
    exact Ow q
  refine ⟨.ref s.heap.objs.size,_,I3,rfl,⟨_,x,rfl,hn,rfl,fun zs h=>by rw [I.sq_inj h q1];exact hx⟩,?_,fun b hb=>?_⟩
  .exact ⟨⟨_,e2⟩,hj.to fun o q=>s2.extBut _ o (Ne.symm n1) q⟩
  .rw [ZE (O9 (ltf b hb))]
   exact (hf b hb).1
 done:=by
  intro X hP hw hK hc i pins s U H E I hf st hg;subst hP hw hK;obtain ⟨xs,q1,hend⟩:=hg;obtain ⟨its,r1,w1⟩:=I.sq q1;have e1:=r1.length;obtain ⟨old,he⟩:=st.enu;refine LA (I.ok.hd hc) he (st.one.si w1) (by simp;omega) fun g kp=>⟨rfl,?_⟩
  exact I.turnedL (t':=s.toks) (ch:= [it]) (fun b o hb q=>kp b o (fun z=>hb (by simp [z])) q) fun b hb=>hf b (by
   have q:b=it:=by simpa using hb
   rw [q];simp)
 self:=fun _ _ _ _ _ st h=>let ⟨_,h1⟩:=st.enu;wpAny_pyIter_enum h1 h
theorem MX:bootBuiltins "enumerate" =some (.type "enumerate"):=by decide +kernel
def Lr(K:W.Frag)(ta:TA):TI:=fun U H R=>ta U H fun vs H1=> ∃ a tp xs,vs= [.ref a]/\Sq K tp H1 a xs/\R (Ite K tp a) H1
theorem Xl(hg:Gl X "enumerate")(hm:X.mg "enumerate" =none)(ha:PA X [a] ta)(hs:starEach [a] X.env= [(false,eval a X.env)]:=by rfl):PI X (.Tuple elts x1 tpos) (.Call (.Name "enumerate" p) [a] [] pos) (Lr X.K ta):=by
 intro pins s U H R I h;refine Call_ (Uw I hg hm MX (PyProof.Rows.callWith_type1 (thn (ha pos pins s U H _ I h) fun us s1 ⟨vs,H1,I1,r1,q1⟩=>?_) (by rw [hs];rfl) (by rfl)));obtain ⟨l,tp,xs,e,q1,q⟩:=q1;subst e;obtain ⟨u,rfl,ru⟩:=vals1 r1;cases ru;obtain ⟨its,rr1,w1⟩:=I1.sq q1;have n1:=w1.lt;refine IO w1 fun g he hj kp=>?_;refine wpAny_pyIter_enum (s:={s1 with heap:=g}) he ?_;have I2:Inv X pins U H1 {s1 with heap:=g}:=I1.kept (t':=s1.toks) kp;refine ⟨_, [s1.heap.objs.size + 1,s1.heap.objs.size],_,_,H1,rfl,I2,El (Nat.succ_ne_self _) (O9 n1),⟨⟨_,he⟩,hj⟩,fun b hb=>?_,q⟩
 have hb':s1.heap.objs.size<=b:=by
  have z:b=s1.heap.objs.size + 1 \/ b=s1.heap.objs.size:=by simpa using hb
  rcases z with z | z <;> rw [z] <;> first | exact Om _ | exact Nat.le_add_right _ _
 exact I1.fpOk hb' (I1.hok.fresh hb')
end L2
namespace L2
open PySem PySem.Spec PyProof.Rows PySem.W PySem.Calls
end L2
namespace L2
open PySem PySem.Spec PyProof.Rows PySem.MeetsSeq
section
def E6:V->List V->Hp->VK->Prop:=fun x vs H Q=> ∃ (l:Addr) (ys:List Str) (y:Str) (j:Nat),x= .ref l/\vs= [.str y]/\H l=some (.lst (ys.map V.str))/\ys[j]?=some y/\(∀ m,m < j->ys[m]?≠some y)/\Q .non (upd H l (.lst ((ys.eraseIdx j).map V.str)))
def Dx(y:Str):Value->Bool
 | .str x _=>x.cps.toList==y.cps.toList
 | _=>false
theorem LI{x y:Str}:(x.cps.toList==y.cps.toList)=decide (x=y):=by
 by_cases h:x=y
 .subst h;simp
 .have: ¬ x.cps.toList=y.cps.toList:=fun e=>h (by cases x;cases y;simp_all [Array.ext'])
  rw [decide_eq_false h];exact beq_eq_false_iff_ne.mpr this
theorem Nu:MtM X "list.remove" E6:=by
 intro pins s U H x vs v us Q I rx rv h;obtain ⟨l,ys,y,j,rfl,rfl,hH,hj,hno,q⟩:=h;cases rx;obtain ⟨u,rfl,ru⟩:=rv.one;obtain ⟨t,rfl⟩:=ru;obtain ⟨z,its,n,r,hl,e⟩:=I.lstM hH;have len:=r.length;rw [Oh] at len
 have at_:∀ m (hm:m < its.length),∃ y' t',ys[m]?=some y'/\its[m]= .str y' t':=fun m hm=>by
  have hm':m < ys.length:=by omega
  obtain ⟨u,hu,t',e'⟩:=r.get (show (ys.map V.str)[m]?=some (.str ys[m]) by rw [On,Oi hm'];rfl);refine ⟨ys[m],t',Oi hm',?_⟩;rw [(Ol.mp hu).2,e']
 have jl:j < its.length:=by have:=(Ol.mp hj).1;omega
 have he:∀ u,u∈its.toArray->EqGives u (.str y t) (Dx y u):=fun u hu=>by
  obtain ⟨m,hm,em⟩:=List.mem_iff_getElem.mp (by simpa using hu);obtain ⟨y',t',_,e2⟩:=at_ m hm;rw [<-em,e2];exact PySem.SeqRoads2.EqGives.str y' y t' t
 refine call_meets F.slot_list_remove ⟨_,e,rfl⟩ F.entry_list_remove (F.args_list_remove_2 _ _) (PySem.MeetsSeq.list_remove l its.toArray n (.str y t) (Dx y) he j (by rw [Ov];exact jl) ?_ ?_ (by rw [Ov];omega)) ⟨e,?_⟩
 .obtain ⟨y',t',e1,e2⟩:=at_ j jl
  rw [hj] at e1;cases e1;show Dx y its.toArray[j]=true;simp only [List.getElem_toArray,e2,Dx,beq_self_eq_true]
 .intro m hm hlt
  rw [Ov] at hm;obtain ⟨y',t',e1,e2⟩:=at_ m hm;simp only [List.getElem_toArray,e2,Dx];rw [LI];exact decide_eq_false fun e=>hno m hlt (by rw [e1,e])
 refine ⟨.non,_,I.lset (its':=its.eraseIdx j) hH e (by simp [Array.eraseIdxIfInBounds,jl]) ?_ ?_,rfl,q⟩
 .have er:∀ {xs:List V}{us:List Value}(j:Nat),Vals xs us->Vals (xs.eraseIdx j) (us.eraseIdx j):=by
   intro xs us j q
   induction q generalizing j with
   | nil=>exact .nil
   | cons h t ih=>
    cases j with
    | zero=>exact t
    | succ j=>exact .cons h (ih j)
  have em:∀ (ys:List Str) (j:Nat),(ys.eraseIdx j).map V.str=(ys.map V.str).eraseIdx j:=by
   intro ys
   induction ys with
   | nil=>intro j;rfl
   | cons a t ih=>intro j;cases j with
    | zero=>rfl
    | succ j=>show V.str a::(t.eraseIdx j).map V.str=V.str a::(t.map V.str).eraseIdx j;rw [ih]
  rw [em];exact er j r
 .rw [Oh]
  have:=List.length_eraseIdx_le ys j;omega
end
end L2
namespace L2
open PySem PySem.Spec PyProof.Rows
def Its(x:Str):It:=⟨fun i _=>i < x.cps.size,fun i H v H'=>H'=H/\∃ c,x.cps[i]?=some c/\v= .str ⟨#[c]⟩,fun i _=>x.cps.size<=i⟩
def SIt(it:Addr)(x:Str)(i:Nat)(h:Heap):Prop:= ∃ ty t,(ty="str_ascii_iterator" \/ ty="str_iterator")/\h.IsStrIter it ty x t i
theorem D6(h:Q () s):wpAny M A (letOwnedTupleGo tg it (.str y t)) Q E s:=by
 unfold letOwnedTupleGo;cases tg <;> cases it <;> exact wpAny_pure h
theorem BS{P:Program}{w:World}{K:W.Frag}{tg:Expr}(it:Addr)(x:Str):Turn P w K tg (Its x) [it] it (SIt it x) where
 mem:=by simp
 obj:=fun i h ⟨ty,t,_,o,ho,_,hd⟩ b hb=>by
  cases Ox.mp hb;exact ⟨o,ho,fun v z=>by rw [hd] at z;cases z⟩
 keep:=fun i h h' ⟨ty,t,hty,o,ho,r⟩ k=>⟨ty,t,hty,o,k it (by simp) o ho,r⟩
 item:=by
  intro X hP hw hK hc i pins s U H E I hf ⟨ty,t,hty,st⟩ hg;subst hP hw hK;obtain ⟨f0,f1,_,f3,f4,f5⟩:=hf it (by simp);have fin:∀ (v:Value) (h':Heap) (tk:Nat),SignAt x i v->SIt it x (i + 1) h'->(∀ b o,b ∉ [it]->s.heap.get? b=some o->h'.get? b=some o)->
    (∃ u,some v=some u/\wpAny (model X.prog X.w) X.A (letOwnedTupleGo tg (.ref it) u) (fun _ s2=> ∃ y H',Inv X pins U H' s2/\RelV y u/\(Its x).yld i H y H'/\SIt it x (i + 1) s2.heap/\∀ b∈ [it],H' b=none) E {s with heap:=h',toks:=tk}):=fun v h' tk hv st' kk=>by
   obtain ⟨c,u,hx,rfl⟩:=hv;exact ⟨_,rfl,D6 ⟨.str ⟨#[c]⟩,H,I.turned (fun b o hb e=>kk b o (by simpa using hb) e) f0 f1 f3 f4 f5,⟨_,rfl⟩,⟨rfl,c,hx,rfl⟩,st',fun b hb=>(hf b hb).1⟩⟩
  rcases hty with rfl | rfl
  .exact (Walks.strAscii (I.ok.hd hc) it x t).item i s _ _ hg st fun v h' tk hv st' kk=>fin v h' tk hv ⟨_,t, .inl rfl,st'⟩ kk
  .exact (Walks.strWide (I.ok.hd hc) it x t).item i s _ _ hg st fun v h' tk hv st' kk=>fin v h' tk hv ⟨_,t, .inr rfl,st'⟩ kk
 done:=by
  intro X hP hw hK hc i pins s U H E I hf ⟨ty,t,hty,st⟩ hg;subst hP hw hK;obtain ⟨f0,f1,_,f3,f4,f5⟩:=hf it (by simp)
  have none':x.cps[i]?=none:=by
   have z:x.cps.size<=i:=hg;simp [z]
  rcases hty with rfl | rfl
  .exact wpAny_pyNext_ascii_end (I.ok.hd hc) st none' fun h' eb=>⟨rfl,I.turned (t':=s.toks) (fun b o hb e=>eb b o hb e) f0 f1 f3 f4 f5⟩
  .exact wpAny_pyNext_wide_end (I.ok.hd hc) st none' fun h' eb=>⟨rfl,I.turned (t':=s.toks) (fun b o hb e=>eb b o hb e) f0 f1 f3 f4 f5⟩
 self:=fun _ _ _ _ _ ⟨ty,t,hty,st⟩ h=>by
  rcases hty with rfl | rfl
  .exact wpAny_pyIter_striter_ascii st h
  .exact wpAny_pyIter_striter_wide st h
section
def OV(tl:TE):TI:=fun U H R=>tl U H fun v H1=> ∃ x,v= .str x/\R (Its x) H1
theorem B1(hl:PE X l tl):PI X tg l (OV tl):=by
 intro pins s U H R I h;refine thn (hl pins s U H _ I h) fun v s1 ⟨y,H1,I1,r1,x,e,q⟩=>?_;subst e;obtain ⟨t,rfl⟩:=r1
 have fp:∀ b∈ [s1.heap.objs.size],Ve X pins H1 b:=fun b hb=>by
  cases Ox.mp hb;exact I1.fpOk (Om _) (I1.hok.fresh (Om _))
 have go:∀ (ty:String),(ty="str_ascii_iterator" \/ ty="str_iterator")->PIE X pins U tg R (.ref s1.heap.objs.size) {s1 with heap:=s1.heap.push {cls:= .type ty,data:= .fields #[.str x t, .int 0 0]}}:=fun ty hty=>
  ⟨_, [s1.heap.objs.size],_,_,H1,rfl,I1.kept (t':=s1.toks) (fun b o e=>Oj _ e),BS _ x,⟨ty,t,hty,_,O3 _ rfl,rfl,rfl⟩,fp,q⟩
 cases ha:x.cps.all (fun c=>c < 128)
 .exact wpAny_pyIter_wide ha (go _ (.inr rfl))
 .exact wpAny_pyIter_ascii ha (go _ (.inl rfl))
end
theorem Zr.dk_ex(x:Zr P w H h d (.dK kvs)):∃ u,h.get? d=some u:=let ⟨_,_,_,_,o,_,_,e,_⟩:=x;⟨o,e⟩
def epO(o:Obj):Nat:=match o.data with | .dict _ ep=>ep | _=>0
section
theorem Inv.freeze(I:Inv X pins U H s)(hd:H d=some (.dK kvs))(ho:s.heap.get? d=some o):Inv X pins U (upd H d (.frz o (.dK kvs))) s:=by
 have ne:∀ b u,H b=some u->(∀ l,u≠ .dK l)->b≠d:=fun b u e n z=>by subst z;rw [hd] at e;cases e;exact n kvs rfl
 have nd:∀ b,H b=none->b≠d:=fun b e z=>by subst z;rw [hd] at e;cases e
 have J:=I.un (H':=upd H d (.frz o (.dK kvs))) (h':=s.heap) (t':=s.toks)
  ⟨fun b u q _ _ _=>q,fun b u q _ _ _=>⟨u.slots,q⟩,fun b u q n _=>by rw [ZE (nd b n)];exact n,fun b u q _=>⟨u,q⟩,fun b xs q=>by rw [ZE (ne b _ q (fun l=>by intro z;cases z))];exact q,
   fun b u v q=>by rw [ZE (ne b _ q (fun l=>by intro z;cases z))];exact q,fun b ps q=>⟨#[],by rw [ZE (ne b _ q (fun l=>by intro z;cases z)),q];simp⟩⟩ ?_
 .exact J
 .intro a u e
  by_cases z:a=d
  .subst z
   rw [ZC] at e;cases e;exact ⟨ho,I.hok a _ hd⟩
  .rw [ZE z] at e
   exact (I.hok a u e).stay (fun b v _ q=>q) (fun b q=>by rw [ZE (ne b _ q (fun l=>by intro z;cases z))];exact q) fun b xs q=>by rw [ZE (ne b _ q (fun l=>by intro z;cases z))];exact q
end
def Itd(d:Addr)(o:Obj)(kvs:List (Key × V)):It:=
 ⟨fun i H=>H d=some (.frz o (.dK kvs))/\i < kvs.length,fun i H x H'=>H'=H/\∃ kv,kvs[i]?=some kv/\x=kV kv.1,fun i H=>H d=some (.frz o (.dK kvs))/\kvs.length=i⟩
theorem Fk(h:J9 k v=true):RelV (kV k) v:=by
 rcases Z4 h with ⟨i,t,rfl,rfl⟩ | ⟨x,t,rfl,rfl⟩
 .exact ⟨t,rfl⟩
 .exact ⟨t,rfl⟩
theorem K6(hk:J9 k v=true)(h:Q () s):wpAny M A (letOwnedTupleGo tg it v) Q E s:=by
 rcases Z4 hk with ⟨i,t,rfl,rfl⟩ | ⟨x,t,rfl,rfl⟩
 .unfold letOwnedTupleGo
  cases tg <;> cases it <;> exact wpAny_pure h
 .exact D6 h
section
theorem Inv.dict_at(I:Inv X pins U H s)(hd:H d=some (.frz o (.dK kvs))):∃ vs,s.heap.DictAt (Z2 X.prog X.w) d vs (epO o)/\KV kvs vs/\(d==sysModules)=false:=by
 obtain ⟨ho,_,hm,vs,rv,o',es,ep,ho',r1,r2,r3⟩:=(show Zr X.prog X.w H s.heap d (.frz o (.dK kvs)) from I.hok d _ hd);rw [ho] at ho';cases ho';have e:epO o=ep:=by unfold epO;rw [r2]
 exact ⟨vs,⟨o,es,ho,r1,by rw [e];exact r2,r3⟩,rv,hm⟩
end
theorem MJ{kvs:List (κ × V)}{vs:List (κ × Value)}(r:KV kvs vs):kvs.length=vs.length:=Paired.length r
theorem Du:∀ {kvs:List (κ × V)}{vs:List (κ × Value)}(i:Nat) (k:κ) (u:Value),KV kvs vs->vs[i]?=some (k,u)->∃ v,kvs[i]?=some (k,v)
 | _,_,i,k,u, .nil,e=>by simp at e
 | _,_,0,k,u, .cons (a:=p) (b:=q) r _,e=>by
  have e':some q=some (k,u):=e;cases e';obtain ⟨k',v⟩:=p;have z:k'=k:=r.1;subst z;exact ⟨v,rfl⟩
 | _,_,i + 1,k,u, .cons _ t,e=>Du i k u t e
theorem NS{P:Program}{w:World}{K:W.Frag}{tg:Expr}(it d:Addr)(o:Obj)(kvs:List (Key × V)):Turn P w K tg (Itd d o kvs) [it] it (fun i h=>h.IsKeyIter it d i kvs.length (epO o)) where
 mem:=by simp
 obj:=fun i h ⟨ob,ho,_,hd⟩ b hb=>by
  cases Ox.mp hb;exact ⟨ob,ho,fun v z=>by rw [hd] at z;cases z⟩
 keep:=fun i h h' ⟨ob,ho,r⟩ k=>⟨ob,k it (by simp) ob ho,r⟩
 item:=by
  intro X hP hw hK hc i pins s U H E I hf st hg;subst hP hw hK;obtain ⟨f0,f1,_,f3,f4,f5⟩:=hf it (by simp);obtain ⟨vs,hat,rv,_⟩:=I.dict_at hg.1;have hl:=MJ rv;rw [hl] at st;have hi:i < vs.length:=by have z:i < kvs.length:=hg.2;omega
  have hx:vs[i]?=some (vs[i].1,vs[i].2):=Oi hi;obtain ⟨v',hk'⟩:=Du i _ _ rv hx;refine wpAny_pyNext_dict_item st hat hx fun key h' hkey st' sb=>?_;rw [<-hl] at st';exact ⟨key,rfl,K6 hkey ⟨_,H,I.turned (t':=s.toks) (fun b o hb e=>(sb.2 b hb).trans e) f0 f1 f3 f4 f5,Fk hkey,⟨rfl,_,hk',rfl⟩,st',fun b hb=>(hf b hb).1⟩⟩
 done:=by
  intro X hP hw hK hc i pins s U H E I hf st hg;subst hP hw hK;obtain ⟨f0,f1,_,f3,f4,f5⟩:=hf it (by simp);obtain ⟨vs,hat,rv,_⟩:=I.dict_at hg.1;have hl:=MJ rv;rw [hl] at st;have hi:kvs.length=i:=hg.2;exact wpAny_pyNext_dict_end (I.ok.hd hc) st hat (List.getElem?_eq_none_iff.mpr (by omega)) fun h' eb=>⟨rfl,I.turned (t':=s.toks) (fun b o hb e=>eb b o hb e) f0 f1 f3 f4 f5⟩
 self:=fun _ _ _ _ _ st h=>wpAny_pyIter_keyiter st h
section
theorem Y2{st:Stmt}:PS X st (fun _ _ _=>False):=fun _ _ _ _ _ _ h=>h.elim
end
inductive Bd where
 | tag (t:Str) | name (x:Str) | pair (a b:Bd) | one (e:Bd) | other (e:Bd)
 | choose (e:Bd) (ts:List Str) (bs:List Bd) | ask (f:Str) (as:List Bd) | letb (x k:Str) (e b:Bd)
mutual
def Bd.dat:Bd->Dat
 | .tag t=> .tup [.str "tag", .str t]
 | .name x=> .tup [.str "name", .str x]
 | .pair a b=> .tup [.str "pair",a.dat,b.dat]
 | .one e=> .tup [.str "one",e.dat]
 | .other e=> .tup [.str "other",e.dat]
 | .choose e ts bs=> .tup [.str "choose",e.dat, .tup (Bd.brs bs ts)]
 | .ask f as=> .tup [.str "ask", .str f, .tup (Bd.dats as)]
 | .letb x k e b=> .tup [.str "let", .str x, .str k,e.dat,b.dat]
def Bd.dats:List Bd->List Dat
 | []=> []
 | b::bs=>b.dat::Bd.dats bs
def Bd.brs:List Bd->List Str->List Dat
 | [],_=> []
 | b::bs,t::ts=> .tup [.str t,b.dat]::Bd.brs bs ts
 | _::_, []=> []
end
def Bd.parts:Bd->List Bd
 | .tag _=> []
 | .name _=> []
 | .pair a b=> [a,b]
 | .one e=> [e]
 | .other e=> [e]
 | .choose e _ bs=>e::bs
 | .ask _ as=>as
 | .letb _ _ e b=> [e,b]
end L2
namespace L2
open PySem PySem.W PyProof.Rows
end L2
namespace L2
open PySem PySem.Spec PyProof.Rows
theorem EM:typeLookup (.type "tuple") (Str.ofString "keys")=pure none:=am_miss_of_fast (by decide +kernel)
section
theorem EN(pl:XU s.heap a its)(hA:A.handled=none)(h:∀ h' tk,(∀ b o,s.heap.get? b=some o->h'.get? b=some o)->Q none {s with heap:=h',toks:=tk}):
  wpAny (model prog w) A (getAttr? (.ref a) (Str.ofString "keys")) Q E s:=by
 obtain ⟨⟨c,dct,dat,sl⟩,hx,hd,hc,k,hdat⟩:=pl;simp only at hc hdat hd;subst hc hdat hd;obtain ⟨h0,gs,dr,tk,os⟩:=s;have sl':=F.slot_tuple_getattribute;have lk':=sl'.lookup;have bd':=sl'.bind (.ref a);have no':=am_tuple_getattr_none;have ae':=sub_AttributeError;have hT:∀ n,(Shared.mk h0 gs dr n os).TypeIs (.ref a) "tuple" :=fun n=>⟨_,hx,rfl⟩;simp only [getAttr?,getAttrBy?,getAttrBy]
 repeat (any_goals (first | assumption | exact hT _ | ((with_reducible show wpAny _ _ (call (Value.builtin "tuple.__getattribute__") _ _) _ _ _);refine call_meets F.slot_tuple_getattribute (hT _) am_entry_tuple_getattribute (F.args_tuple_getattribute_2 _ _) (meets_getattribute_miss_tuple a its k sl (Str.ofString "keys") _ EM (by decide +kernel) (by size_fits)) ⟨hx,hA,fun h' tk' e hx'=>?_⟩) | wp_step))
 have there:=hx'.there;obtain ⟨_,_,he⟩:=there;refine (?_:wpAny _ _ (getattributeRaised _ _ _ _ _ _ _) _ _ _);simp only [getattributeRaised]
 repeat any_goals first | assumption | wp_step
 exact h _ _ hx'.keeps
end
section
theorem U3(hc:X.calm=true):VB X (.type "dict") (fun xs H Q=> ∃ (p:Addr) (ts:List Addr) (kvs:List (Key × V)),xs= [.ref p]/\H p=some (.tup (ts.map V.ref))/\W4 X.K H ts kvs/\(kvs.map (·.1)).Nodup/\∀ l,H l=none->Q (.ref l) (upd H l (.dK kvs))):=by
 intro pins s U H xs us Q I r h;obtain ⟨p,ts,kvs,rfl,hq,hp,hn,q⟩:=h;obtain ⟨u,rfl,ru⟩:=vals1 r;cases ru;obtain ⟨hz,its,r',pl⟩:=(show Zr X.prog X.w H s.heap p (.tup (ts.map V.ref)) from I.hok p _ hq);rw [Oh] at hz
 have hlts:its.length=ts.length:=by
  have:=r'.length;rw [Oh] at this;exact this.symm
 have hat:∀ (i:Nat) (a:Addr),ts[i]?=some a->its[i]?=some (Value.ref a):=fun i a e=>by
  obtain ⟨u,hu,ru⟩:=r'.get (show (ts.map V.ref)[i]?=some (V.ref a) by rw [On,e];rfl);rw [hu,show u=Value.ref a from ru]
 obtain ⟨vs,rel,hvs⟩:=X6 s.heap ts kvs hp.1 fun i a k y e1 e2=>by
  obtain ⟨its2,r2,p2,_⟩:=I.tuple (hp.2 i a k y e1 e2)
  cases r2 with
  | cons r1 t1=>
   cases t1 with
   | cons r3 t3=>
    cases t3;exact ⟨_,_,p2,r1,r3⟩
 have hlv:vs.length=its.toArray.size:=by rw [Ov,hlts,hp.1,<-rel.length]
 have hkeys:vs.map (·.1)=kvs.map (·.1):=by
  have all:∀ {l:List (Key × V)}{m:List (Key × Value)},KV l m->m.map (·.1)=l.map (·.1):=by
   intro l m q
   induction q with
   | nil=>rfl
   | cons hq t ih=>rw [O0,O0,ih,hq.1]
  exact all rel
 have hpl:p < s.heap.objs.size:=by
  obtain ⟨o,e,_⟩:=pl;exact Ow e
 refine callType_codes (Q₁:=fun ob t=>ob= .ref s.heap.objs.size/\t={s with heap:=s.heap.push {cls:= .type "dict",data:= .dict #[]}}) F.kt_called_dict (F.kt_typeCall_dict_1 _) F.entry_dict_init (kt_code_dict_new _ ⟨rfl,rfl⟩) fun ob t ht=>?_;obtain ⟨rfl,rfl⟩:=ht;have hnew:(s.heap.push {cls:= .type "dict",data:= .dict #[]}).DictOf (Z2 X.prog X.w) s.heap.objs.size []:=Heap.DictOf.new s.heap;have k0:∀ b o,s.heap.get? b=some o->(s.heap.push {cls:= .type "dict",data:= .dict #[]}).get? b=some o:=fun b o e=>Oj _ e;refine And.intro hnew.typeIs (And.intro (F.args_dict_init_2 _ _) ?_);delta Builtin.«dict.__init__» Builtin.Dict.selfAndRest;refine wpAny_bind (wpAny_bind (wpAny_notOrdered_dict hnew.typeIs (wpAny_pure (?_:wpAny _ _ (Builtin.Dict.updateFrom "dict.__init__" s.heap.objs.size (.ref p) [] .none) _ _ _))));delta Builtin.Dict.updateFrom;have pl':=pl.keeps k0;refine wpAny_bind (wpAny_typeOf (T:="tuple") (show Shared.TypeIs _ _ _ from let ⟨o,h1,_,h2,_⟩:=pl';⟨o,h1,h2⟩) ?_);rw [if_pos (by decide)];refine wpAny_bind (EN pl' (I.ok.hd hc) fun h1 tk1 hk1=>?_);simp only [Option.isNone_none,if_true];refine wpAny_bind (wpAny_rule ?_);refine wpAny_bind (wpAny_pyIter_tuple (show Heap.IsTuple _ _ _ from (pl'.keeps hk1).is) ?_)
 have ld:s.heap.objs.size < h1.objs.size:=by
  obtain ⟨o,es,ep,ho,_⟩:=hnew;exact Ow (hk1 _ _ ho)
 have k1:∀ b o,s.heap.get? b=some o->(h1.push {cls:= .type "tuple_iterator",data:= .fields #[.ref p, .int 0 0]}).get? b=some o:=fun b o e=>Oj _ (hk1 b o (k0 b o e));refine wpAny_pure ⟨plainId_quiet Js _,NI (Walks.tuple (A:=X.A.in1.in1) (I.ok.hd hc) h1.objs.size p (O9 (Nat.lt_trans hpl ld)) its.toArray) (h₀:=s.heap) (vs:=vs) hlv (by rw [<-rel.length,<-hp.1];exact hz) (by rw [hkeys];exact hn) ?_ s.heap.objs.size ?_ ?_ .none _ 0 _ 0 0 rfl (O7 _) ?_ ?_ k1 ?_⟩
 .intro i v hv
  have hi:i < its.length:=by
   have:=(Array.getElem?_eq_some_iff.mp hv).1
   rwa [Ov] at this
  have ht:i < ts.length:=by omega
  obtain ⟨k,ku,vu,e1,e2,e3⟩:=hvs i ts[i] (Oi ht);refine ⟨ts[i],k,ku,vu,?_,e1,e2,XG e3⟩;have:=hat i ts[i] (Oi ht);have hv':its[i]?=some v:=by simpa using hv
  rw [this] at hv';exact (Oy hv').symm
 .intro hm
  have two:s.heap.objs.size=h1.objs.size \/ s.heap.objs.size=p:=by simpa using hm
  rcases two with e | e
  .exact absurd e (O9 ld)
  .exact absurd e (Nat.ne_of_gt hpl)
 .intro b o e
  have hb:=Ow e;refine ⟨fun hm=>?_,O9 hb⟩;have e':b=h1.objs.size:=by simpa using hm
  rw [e'] at hb;exact absurd ld (Nat.not_lt_of_lt hb)
 .exact ⟨⟨_,O3 _ rfl,rfl,rfl⟩,(show Heap.IsTuple _ _ _ from (pl.keeps k1).is)⟩
 .obtain ⟨o,es,ep,ho,rest⟩:=hnew
  exact ⟨o,es,ep,Oj _ (hk1 _ _ ho),rest⟩
 .intro h' tk hd' hk'
  refine ⟨rfl, .ref s.heap.objs.size,_,I.laid (a:=s.heap.objs.size) (o:= .dK kvs) (fun b o e=>?_) (Om _) (WK (by rw [<-hp.1];exact hz) (beq_eq_false_iff_ne.mpr (Ne.symm (O9 I.big))) rel hd'),rfl,q _ (I.hok.fresh (Om _))⟩;have hb:=Ow e;refine hk' b o (fun hm=>?_) (O9 hb) (k1 b o e);have e':b=h1.objs.size:=by simpa using hm
  rw [e'] at hb;exact absurd ld (Nat.not_lt_of_lt hb)
end
theorem Yg(h:Has H v (.tup ds)):∃ p xs,v= .ref p/\H p=some (.tup xs)/\HasL H xs ds:=by unfold Has at h;exact h
theorem Zk(h:H p=some (.tup xs))(t:HasL H xs ds):Has H (.ref p) (.tup ds):=by unfold Has;exact ⟨p,xs,rfl,h,t⟩
theorem has_str(h:Has H v (.str x)):v= .str x:=by unfold Has at h;exact h
theorem Zn:Has H (.str x) (.str x):=by unfold Has;rfl
theorem Z0(h:HasL H xs (d::ds)):∃ x r,xs=x::r/\Has H x d/\HasL H r ds:=by
 match xs,h with
 | [],h=>unfold HasL at h;exact h.elim
 | x::r,h=>unfold HasL at h;exact ⟨x,r,rfl,h.1,h.2⟩
theorem VY(h:HasL H xs []):xs= []:=by
 match xs,h with
 | [],_=>rfl
 | _::_,h=>unfold HasL at h;exact h.elim
theorem Bd.dats_map:∀ bs:List Bd,Bd.dats bs=bs.map Bd.dat
 | []=>by unfold Bd.dats;rfl
 | b::bs=>by unfold Bd.dats;rw [Bd.dats_map bs];rfl
theorem Bd.brs_len:∀ {bs:List Bd}{ts:List Str},bs.length=ts.length->(Bd.brs bs ts).length=ts.length
 | [], [],_=>by unfold Bd.brs;rfl
 | [],_::_,e=>by simp at e
 | _::_, [],e=>by simp at e
 | b::bs,t::ts,e=>by
  unfold Bd.brs;rw [PB,Bd.brs_len (by simpa using e),PB]
theorem Bd.brs_get:∀ {bs:List Bd}{ts:List Str}{j:Nat}{d:Dat},(Bd.brs bs ts)[j]?=some d->∃ b t,bs[j]?=some b/\ts[j]?=some t/\d= .tup [.str t,b.dat]
 | [],ts,j,d,e=>by unfold Bd.brs at e;simp at e
 | _::_, [],j,d,e=>by unfold Bd.brs at e;simp at e
 | b::bs,t::ts,0,d,e=>by
  unfold Bd.brs at e;have e':some _=some d:=e;cases e';exact ⟨b,t,rfl,rfl,rfl⟩
 | b::bs,t::ts,j + 1,d,e=>by
  unfold Bd.brs at e;exact Bd.brs_get (bs:=bs) (ts:=ts) (j:=j) e
mutual
def Bd.ok:Bd->Prop
 | .tag _=>True
 | .name _=>True
 | .pair a b=>a.ok/\b.ok
 | .one e=>e.ok
 | .other e=>e.ok
 | .choose e ts bs=>e.ok/\bs.length=ts.length/\ts.length<=4/\Bd.oks bs
 | .ask _ as=>as.length<=3/\Bd.oks as
 | .letb _ _ e b=>e.ok/\b.ok
def Bd.oks:List Bd->Prop
 | []=>True
 | b::bs=>b.ok/\Bd.oks bs
end
theorem Bd.oks_mem:∀ {bs:List Bd}{b:Bd},Bd.oks bs->b∈bs->b.ok
 | [],_,_,h=>nomatch h
 | c::bs,b,w,h=>by
  unfold Bd.oks at w;rcases O8.mp h with rfl | h
  .exact w.1
  .exact Bd.oks_mem w.2 h
theorem Bd.ok_parts{b:Bd}(h:b.ok):∀ c∈b.parts,c.ok:=by
 intro c hc
 cases b with
 | tag t=>cases hc
 | name x=>cases hc
 | pair a e=>
  unfold Bd.ok at h;simp only [Bd.parts,O8,List.mem_nil_iff,or_false] at hc;rcases hc with rfl | rfl
  .exact h.1
  .exact h.2
 | one e=>unfold Bd.ok at h;simp only [Bd.parts,Ox] at hc;rw [hc];exact h
 | other e=>unfold Bd.ok at h;simp only [Bd.parts,Ox] at hc;rw [hc];exact h
 | choose e ts bs=>
  unfold Bd.ok at h;simp only [Bd.parts,O8] at hc;rcases hc with rfl | hc
  .exact h.1
  .exact Bd.oks_mem h.2.2.2 hc
 | ask f as=>unfold Bd.ok at h;exact Bd.oks_mem h.2 hc
 | letb x k e g=>
  unfold Bd.ok at h;simp only [Bd.parts,O8,List.mem_nil_iff,or_false] at hc;rcases hc with rfl | rfl
  .exact h.1
  .exact h.2
theorem Bd.few{b:Bd}(h:b.ok):b.parts.length<=5:=by
 cases b <;> (try (simp [Bd.parts];done)) <;> (unfold Bd.ok at h;simp only [Bd.parts,PB,List.length_nil];omega)
end L2
namespace K4
open PySem L2
end K4
namespace L2
open PySem
theorem FG(hK:X.K=K)(hg:Gl X "isinstance")(hm:X.mg "isinstance" =none)(hg':Gl X x)(hm':X.mg x=none)(hv:bootBuiltins x=some (.type T))(he:PE X e te)(hn:x≠"__name__" :=by decide)(hdb:(x==("__debug__" :Str))=false:=by decide)(hs:starEach [e, .Name x p'] X.env=(false,eval e X.env)::starEach [.Name x p'] X.env:=by rfl):
  PE X (.Call (.Name "isinstance" p) [e, .Name x p'] [] pos) (tCB (KZ K) (YI te (YI (tC (.ty T)) Jj))):=by
 subst hK;exact VO hg hm hg' hm' hv he hn hdb hs
theorem Bd.dat_tup:∀ b:Bd,∃ ds,b.dat= .tup ds
 | .tag _=>⟨_,by unfold Bd.dat;rfl⟩
 | .name _=>⟨_,by unfold Bd.dat;rfl⟩
 | .pair _ _=>⟨_,by unfold Bd.dat;rfl⟩
 | .one _=>⟨_,by unfold Bd.dat;rfl⟩
 | .other _=>⟨_,by unfold Bd.dat;rfl⟩
 | .choose _ _ _=>⟨_,by unfold Bd.dat;rfl⟩
 | .ask _ _=>⟨_,by unfold Bd.dat;rfl⟩
 | .letb _ _ _ _=>⟨_,by unfold Bd.dat;rfl⟩
def Bd.Plain(b:Bd):Prop:= ∃ (wd:Str) (ds:List Dat),b.dat= .tup (.str wd::ds)/\wd≠"choose" /\wd≠"ask" /\1<=ds.length/\ds.length<=4/\(ds.filter fun d=>isD "tuple" d)=Bd.dats b.parts
theorem Bd.is_tup(b:Bd):isD "tuple" b.dat=true:=by
 obtain ⟨ds,e⟩:=b.dat_tup;rw [e];rfl
theorem Bd.form(b:Bd):(∃ e ts bs,b= .choose e ts bs) \/ (∃ f as,b= .ask f as) \/ b.Plain:=by
 have hs:∀ x:Str,isD "tuple" (.str x)=false:=fun x=>rfl
 cases b with
 | tag t=>exact .inr (.inr ⟨"tag", [.str t],by unfold Bd.dat;rfl,by decide +kernel,by decide +kernel,by simp,by simp,by simp [hs,Bd.parts,Bd.dats]⟩)
 | name x=>exact .inr (.inr ⟨"name", [.str x],by unfold Bd.dat;rfl,by decide +kernel,by decide +kernel,by simp,by simp,by simp [hs,Bd.parts,Bd.dats]⟩)
 | pair a e=>exact .inr (.inr ⟨"pair", [a.dat,e.dat],by conv=>lhs;unfold Bd.dat,by decide +kernel,by decide +kernel,by simp,by simp,by simp [Bd.is_tup,Bd.parts,Bd.dats]⟩)
 | one e=>exact .inr (.inr ⟨"one", [e.dat],by conv=>lhs;unfold Bd.dat,by decide +kernel,by decide +kernel,by simp,by simp,by simp [Bd.is_tup,Bd.parts,Bd.dats]⟩)
 | other e=>exact .inr (.inr ⟨"other", [e.dat],by conv=>lhs;unfold Bd.dat,by decide +kernel,by decide +kernel,by simp,by simp,by simp [Bd.is_tup,Bd.parts,Bd.dats]⟩)
 | choose e ts bs=>exact .inl ⟨e,ts,bs,rfl⟩
 | ask f as=>exact .inr (.inl ⟨f,as,rfl⟩)
 | letb x k e g=>exact .inr (.inr ⟨"let", [.str x, .str k,e.dat,g.dat],by conv=>lhs;unfold Bd.dat,by decide +kernel,by decide +kernel,by simp,by simp,by simp [hs,Bd.is_tup,Bd.parts,Bd.dats]⟩)
end L2
namespace K4
open PySem L2
theorem Bg:Za ["body"] ["body"] (ZJ Gj):=Zu
theorem Kn:List.Nodup [("row" :Str)]:=by decide +kernel
theorem M4:List.Nodup [("part" :Str)]:=by decide +kernel
section
def UP:Sp:=fun vs H Q _=> ∃ (v:V) (b:Bd),vs= [v]/\Has H v b.dat/\b.ok/\∀ (r:Addr) (H':Hp),Same H H'->H r=none->Has H' (.ref r) (.lst (Bd.dats b.parts))->Q (.ref r) H'
theorem Nl(B:Blt mg)(F:Fun K "_law_parts" "_law_parts" Gj f fd):ZQ P w K mg base CX0 (n + 1) f fd ["body"] UP:=by
 refine F.oq Bg fun cdv A outer s H vs Q E hr h=>?_;obtain ⟨v,b,rfl,hv,ok,q⟩:=h;refine ⟨_,ZA (Zg (ZN YN (ZT Zc (pv 0) ZD) ZY (ZW _)) (ZF (ZV (ZX Vu (Zp (pa1 (ZT Zc (pv 0) ZD)))
    (Y4 ["row"] [] (JA (ZT Zc (pv 0) ZD)) (YO (i:=0) (by decide)) (fun cl C fp s H=>ZL 0 Kn rfl (Or.inl rfl) (Or.inr rfl)) (fun cl C fp s H=>ZT (r:=Jm K) Zc (pv 0) ZD))))) ZO)
  (ZA (Zg (ZN YN (ZT Zc (pv 0) ZD) ZY (ZW _)) (ZF (ZV (Zm YH rfl B.list Z9 (pa1 (ZT Zc (pv 0) ZD))))) ZO)
  (ZF (ZV (FI ["part"] [] (JA (Z3 Gc (pv 0) (YE ZD) YW)) (YO (i:=0) (by decide)) (fun cl C fp s H=>ZL 0 M4 rfl (Or.inl rfl) (Or.inr rfl))
    (fun cl C fp s H=>Yi (FG (K:=K) rfl rfl B.isi rfl B.tuple Yh (pv 0))) (fun cl C fp s H=>pv 0))))),?_⟩
 show let a:=_;let b:=_;let c:=ZK (Zv _ b _) a;let d:=_;ZK (Zv _ d _) c _ _ _
 intros
 rcases Bd.form b with ⟨e,ts,bs,rfl⟩ | ⟨g,as,rfl⟩ | ⟨wd,ds,ed,n1,n2,d1,d4,efl⟩
 .unfold Bd.dat at hv
  obtain ⟨p,xs,rfl,hp,hl⟩:=Yg hv;obtain ⟨x1,r1,rfl,h1,hlA⟩:=Z0 hl;obtain rfl:=has_str h1;obtain ⟨x2,r2,rfl,h2,hlB⟩:=Z0 hlA;obtain ⟨x3,r3,rfl,h3,hlC⟩:=Z0 hlB;obtain rfl:=VY hlC;obtain ⟨pz,zs,rfl,hpz,hzl⟩:=Yg h3;unfold Bd.ok at ok;obtain ⟨o1,o2,o3,o4⟩:=ok;have lz:=hzl.length;rw [Bd.brs_len o2] at lz;refine ⟨_,_,SqT.of hp,rfl,rfl,_,rfl,Z7 (by decide +kernel) ?_⟩;refine ⟨_,_,SqT.of hp,rfl,sl 1,fun t1 ht1=>?_⟩;have s1:=ZH ht1 (.lst [x2]);refine ⟨_,_,SqT.of (s1 _ _ hp),rfl,⟨_,SqT.of (s1 _ _ hpz)⟩,?_⟩;have hpz2:=s1 _ _ hpz;refine YQ zs.length (ZI (by omega)) (fun j vs H'=>H'=upd H t1 (.lst [x2])/\vs.length=j/\HasL H vs ((bs.map Bd.dat).take j)) ⟨rfl,rfl,HasL.nil⟩ (fun j vs H' z=>z.2.1) ?_ ?_ ?_ ?_
  .rintro j vs H' hj ⟨rfl,_⟩
   exact ⟨zs,zs[j],SqT.of hpz2,by simp [hj]⟩
  .rintro vs H' ⟨rfl,_⟩
   exact ⟨zs,SqT.of hpz2,Om _⟩
  .rintro j vs H' x H3 R hj ⟨rfl,z2,z3⟩ yl hR
   obtain ⟨rfl,y⟩:=yl;obtain ⟨d,hd,hx1⟩:=hzl.get (y zs (SqT.of hpz2));obtain ⟨b,t0,hb0,ht0,rfl⟩:=Bd.brs_get hd;obtain ⟨pp,ys,rfl,hpp,hyl⟩:=Yg hx1;obtain ⟨y1,r4,rfl,h4,hyA⟩:=Z0 hyl;obtain ⟨y2,r5,rfl,h5,hyB⟩:=Z0 hyA;obtain rfl:=VY hyB;refine ⟨_,_,SqT.of (s1 _ _ hpp),rfl,hR _ _ ⟨rfl,by rw [Os,z2];rfl,?_⟩⟩;rw [List.take_add_one,On,hb0];exact HasL.append z3 (HasL.one h5)
  .rintro vs H' l ⟨rfl,z2,z3⟩ hl3
   have s3:=ZH hl3 (.lst vs);rw [PD (by rw [Oh];omega)] at z3;have e1:Bd.dats (Bd.choose e ts bs).parts=e.dat::bs.map Bd.dat:=by rw [Bd.dats_map];rfl
   refine ⟨t1,l, [x2],vs,rfl,rfl,s3 _ _ ZC,ZC,PF (ZI (by simp only [List.length_singleton];omega)),fun l4 hl4=>?_⟩;have s4:=ZH hl4 (.lst ([x2]++ vs));have sB:=(s1.trans s3).trans s4;refine q l4 _ sB ((s1.trans s3).free hl4) (YG ZC ?_);rw [e1];exact HasL.cons (h2.mono sB) (z3.mono sB)
 .unfold Bd.dat at hv
  obtain ⟨p,xs,rfl,hp,hl⟩:=Yg hv;obtain ⟨x1,r1,rfl,h1,hlA⟩:=Z0 hl;obtain rfl:=has_str h1;obtain ⟨x2,r2,rfl,h2,hlB⟩:=Z0 hlA;obtain ⟨x3,r3,rfl,h3,hlC⟩:=Z0 hlB;obtain rfl:=VY hlC;obtain ⟨pz,zs,rfl,hpz,hzl⟩:=Yg h3;refine ⟨_,_,SqT.of hp,rfl,rfl,_,rfl,Zs (by decide +kernel) ?_⟩;refine ⟨_,_,SqT.of hp,rfl,rfl,_,rfl,Z7 (by decide +kernel) ?_⟩;refine ⟨_,_,SqT.of hp,rfl,pz,_,rfl, .inr (SqT.of hpz),fun l hl3=>?_⟩;exact q l _ (ZH hl3 _) hl3 (YG ZC (hzl.mono (ZH hl3 _)))
 .rw [ed] at hv
  obtain ⟨p,xs,rfl,hp,hl⟩:=Yg hv;obtain ⟨x1,r1,rfl,h1,hlA⟩:=Z0 hl;obtain rfl:=has_str h1;have lr:=hlA.length;refine ⟨_,_,SqT.of hp,YA (j:=0) rfl,rfl,_,rfl,Zs (by simpa using n1) ?_⟩;refine ⟨_,_,SqT.of hp,YA (j:=0) rfl,rfl,_,rfl,Zs (by simpa using n2) ?_⟩;refine ⟨1,rfl,p,_,rfl,SqT.of hp,by simp [HT.sIx],fun t2 ht2=>?_⟩;have ec:JN (V.str wd::r1) (some 1) none=r1:=by simp [JN,HT.sIx]
  rw [ec];have s2:=ZH ht2 (.tup r1);refine ⟨⟨_,SqT.of ZC⟩,?_⟩;refine V0 r1.length (ZI (by omega)) (fun j vs H'=>H'=upd H t2 (.tup r1)/\vs.length<=j/\HasL H vs ((ds.take j).filter fun d=>isD "tuple" d)) ⟨rfl,Om _,HasL.nil⟩ (fun j vs H' z=>z.2.1) ?_ ?_ ?_ ?_
  .rintro j vs H' hj ⟨rfl,_⟩
   exact ⟨r1,r1[j],SqT.of ZC,by simp [hj]⟩
  .rintro vs H' ⟨rfl,_⟩
   exact ⟨r1,SqT.of ZC,Om _⟩
  .rintro j vs H' x H3 R hj ⟨rfl,z2,z3⟩ yl hT hF
   obtain ⟨rfl,y⟩:=yl;obtain ⟨d,hd,hx1⟩:=hlA.get (y r1 (SqT.of ZC))
   have sn:(ds.take (j + 1)).filter (fun d=>isD "tuple" d)=(ds.take j).filter (fun d=>isD "tuple" d)++ (if isD "tuple" d=true then [d] else []):=by
    rw [List.take_add_one,hd,Option.toList_some,List.filter_append]
    congr 1
    by_cases e:isD "tuple" d=true <;> simp [e]
   refine ⟨_,_,_,_,rfl,MM (K:=K) (hx1.mono s2),VG K d (by simp),_,rfl,?_⟩
   by_cases e:isD "tuple" d=true
   .refine Z7 e (hT _ _ ⟨rfl,by rw [Os];simp;exact z2,?_⟩)
    rw [sn,if_pos e];exact HasL.append z3 (HasL.one hx1)
   .refine Zs e (hF _ ⟨rfl,Nat.le_succ_of_le z2,?_⟩)
    rw [sn,if_neg e,List.append_nil];exact z3
  .rintro vs H' l ⟨rfl,z2,z3⟩ hl3
   have s3:=ZH hl3 (.lst vs);rw [lr,List.take_length,efl] at z3;exact q l _ (s2.trans s3) (s2.free hl3) (YG ZC (z3.mono (s2.trans s3)))
end
end K4
namespace L2
open PySem PySem.Spec PyProof.Rows
section
theorem Fo{ns:List Int}(r:Vals (ns.map V.int) its){i:Nat}(e:its[i]?=some v):∃ t,v= .int (ns.getD i 0) t:=by
 have hi:=(Ol.mp e).1;have l:=r.length;rw [Oh] at l;have hi':i < ns.length:=by omega
 obtain ⟨u,hu,t,rfl⟩:=r.get (show (ns.map V.int)[i]?=some (V.int ns[i]) by rw [On,Oi hi'];rfl);rw [hu] at e;cases e;exact ⟨t,by rw [List.getD_eq_getElem?_getD,Oi hi'];rfl⟩
theorem BI(hc:X.calm=true):VB X (.builtin "sum") (fun xs H Q=> ∃ (p:Addr) (ns:List Int),xs= [.ref p]/\SqL X.K H p (ns.map V.int)/\PyProof.Rows.SumFits ns/\Q (.int ns.sum) H):=by
 intro pins s U H xs us Q I r h;obtain ⟨p,ns,rfl,hq,fit,q⟩:=h;obtain ⟨u,rfl,ru⟩:=vals1 r;cases ru;obtain ⟨its,r',pl,hz⟩:=I.list hq
 have hp:p < s.heap.objs.size:=by
  obtain ⟨o,n,e,_⟩:=pl;exact Ow e
 have hlen:its.length=ns.length:=by
  have:=r'.length;rw [Oh] at this;exact this.symm
 refine call_sum_walk (wpAny_pyIter_list pl.isList ?_);refine ⟨s.heap.objs.size,_,_,its.toArray.size,_,_,fun i=>ns.getD i 0,rfl,Walks.list (A:=X.A.in1) (I.ok.hd hc) _ p (O9 hp) its.toArray,?_,?_,?_,?_,?_⟩
 .exact ⟨⟨_,O3 _ rfl,rfl,rfl⟩,pl.isList.push _⟩
 .intro b hb
  have e:b=s.heap.objs.size \/ b=p:=by simpa using hb
  have hsz:∀ o:Obj,(s.heap.push o).objs.size=s.heap.objs.size + 1:=fun o=>Heap.size_push _ _;show b < (s.heap.push _).objs.size;rw [hsz];rcases e with e | e
  .rw [e];exact Nat.lt_succ_self _
  .rw [e];exact Nat.lt_succ_of_lt hp
 .intro i v hv
  exact Fo r' (by simpa using hv)
 .intro j hj
  rw [Ov,hlen] at hj;rw [preSum_getD];exact fit j hj
 .intro h' tk t' hk
  rw [Ov,hlen,preSum_getD,List.take_length];refine ⟨.int ns.sum,H,I.kept fun b o e=>hk b o (fun hm=>?_) (Oj _ e),⟨t',rfl⟩,q⟩;have e':b=s.heap.objs.size:=by simpa using hm
  rw [e'] at e;exact Nat.lt_irrefl _ (Ow e)
end
mutual
def Bd.size:Bd->Nat
 | .tag _=>1
 | .name _=>1
 | .pair a b=>1 + (a.size + b.size)
 | .one e=>1 + e.size
 | .other e=>1 + e.size
 | .choose e _ bs=>1 + (e.size + Bd.sizes bs)
 | .ask _ as=>1 + Bd.sizes as
 | .letb _ _ e b=>1 + (e.size + b.size)
def Bd.sizes:List Bd->Nat
 | []=>0
 | b::bs=>b.size + Bd.sizes bs
end
mutual
def Bd.dep:Bd->Nat
 | .tag _=>0
 | .name _=>0
 | .pair a b=>1 + max a.dep b.dep
 | .one e=>1 + e.dep
 | .other e=>1 + e.dep
 | .choose e _ bs=>1 + max e.dep (Bd.deps bs)
 | .ask _ as=>1 + Bd.deps as
 | .letb _ _ e b=>1 + max e.dep b.dep
def Bd.deps:List Bd->Nat
 | []=>0
 | b::bs=>max b.dep (Bd.deps bs)
end
theorem Bd.size_eq(b:Bd):b.size=1 + Bd.sizes b.parts:=by
 cases b <;> simp [Bd.size,Bd.sizes,Bd.parts]
theorem Bd.deps_mem:∀ {bs:List Bd}{b:Bd},b∈bs->b.dep<=Bd.deps bs
 | [],_,h=>nomatch h
 | c::bs,b,h=>by
  unfold Bd.deps;rcases O8.mp h with rfl | h
  .exact Nat.le_max_left _ _
  .exact O6 (Bd.deps_mem h) (Nat.le_max_right _ _)
theorem Bd.dep_mem{b c:Bd}(h:c∈b.parts):c.dep < b.dep:=by
 have hd:=Bd.deps_mem h;cases b <;> simp only [Bd.parts,Bd.deps,Bd.dep,List.mem_nil_iff] at * <;> first | exact h.elim | omega
theorem Bd.sizes_le:∀ {bs:List Bd},(∀ b∈bs,b.size<=m)->Bd.sizes bs<=bs.length * m
 | [],_=>by simp [Bd.sizes]
 | b::bs,h=>by
  have h1:=h b (by simp);have h2:=Bd.sizes_le (m:=m) (bs:=bs) fun c hc=>h c (Ot _ hc);unfold Bd.sizes;rw [PB,Nat.succ_mul];omega
theorem Bd.size_le:∀ (n:Nat) (b:Bd),b.dep<=n->b.ok->b.size<=6 ^ n
 | 0,b,h,ok=>by
  cases b <;> simp [Bd.dep] at h <;> simp [Bd.size]
 | n + 1,b,h,ok=>by
  have h1:∀ c∈b.parts,c.size<=6 ^ n:=fun c hc=>Bd.size_le n c (by have:=Bd.dep_mem hc;omega) (Bd.ok_parts ok c hc);have h2:=Bd.sizes_le h1;have h3:=Bd.few ok;have h4:b.parts.length * 6 ^ n<=5 * 6 ^ n:=Nat.mul_le_mul_right _ h3;have h5:1<=6 ^ n:=Nat.one_le_pow _ _ (by decide);rw [Bd.size_eq,Nat.pow_succ];omega
theorem Bd.sizes_sum:∀ bs:List Bd,((bs.map fun b=>((b.size:Nat):Int))).sum=((Bd.sizes bs:Nat):Int)
 | []=>by simp [Bd.sizes]
 | b::bs=>by
  simp only [O0,List.sum_cons,Bd.sizes];rw [Bd.sizes_sum bs]
  push_cast
  rfl
theorem Bd.sizes_take:∀ (bs:List Bd) (j:Nat),Bd.sizes (bs.take j)<=Bd.sizes bs
 | [],j=>by simp [Bd.sizes]
 | b::bs,0=>by simp [Bd.sizes]
 | b::bs,j + 1=>by
  simp only [List.take_succ_cons,Bd.sizes];have:=Bd.sizes_take bs j;omega
theorem Bd.sizes_mem:∀ {bs:List Bd}{b:Bd},b∈bs->b.size<=Bd.sizes bs
 | [],_,h=>nomatch h
 | c::bs,b,h=>by
  unfold Bd.sizes;rcases O8.mp h with rfl | h
  .omega
  .have:=Bd.sizes_mem h
   omega
theorem NV(h:Bd.sizes bs < 2 ^ 62):PyProof.Rows.SumFits (bs.map fun b=>((b.size:Nat):Int)):=by
 intro j hj;rw [Oh] at hj;have e1:(bs.map fun b=>((b.size:Nat):Int)).getD j 0=((bs[j].size:Nat):Int):=by rw [List.getD_eq_getElem?_getD,On,Oi hj];rfl
 have h1:=Bd.sizes_mem (List.getElem_mem hj);have h2:=Bd.sizes_take bs (j + 1);rw [e1,<-List.map_take,Bd.sizes_sum]
 constructor
 .unfold InLong;omega
 .unfold InLong;omega
end L2
namespace K4
open PySem L2
theorem KS:Za ["body"] ["body"] (ZJ Mr):=Zu
theorem BN:bootBuiltins "sum" =some (.builtin "sum"):=by decide +kernel
section
def Uh(n:Nat):Sp:=fun vs H Q _=> ∃ (v:V) (b:Bd),vs= [v]/\Has H v b.dat/\b.ok/\b.dep < n/\b.dep<=20/\∀ H',Same H H'->Q (.int (b.size:Nat)) H'
theorem FV(B:Blt mg)(ms:mg "sum" =none)(F:Fun K "_law_size" "_law_size" Mr f fd)(G:ZQ P w K mg base CX0 m f fd ["body"] (Uh n))(bG:Binds K fd ["body"] [])(mG:mg "_law_size" =some (.ref f))(GL:ZQ P w K mg base CX0 m g gd ["body"] UP)(bL:Binds K gd ["body"] [])(kL:W.keepIn K (.ref g)=true)(mL:mg "_law_parts" =some (.ref g)):
  ZQ P w K mg base CX0 (m + 1) f fd ["body"] (Uh (n + 1)):=by
 refine F.oq KS fun cdv A outer s H vs Q E hr h=>?_;obtain ⟨v,b,rfl,hv,ok,dn,d20,q⟩:=h;refine ⟨_,ZF (ZV (ZX YC ZD (ZU (BI rfl) rfl ms BN (pa1 (Y4 ["part"] [] (Yk (Zy GL hr rfl mL kL bL .nil YM (pa1 (pv 0)))) (YO (i:=0) (by decide)) (fun cl C fp s H=>ZL 0 M4 rfl (Or.inl rfl) (Or.inr rfl))
   (fun cl C fp s H=>Zy G hr rfl mG F.kp bG .nil YM (pa1 (pv 0)))))))),?_⟩
 refine ⟨v,b,rfl,hv,ok,fun r H1 s1 fr h1=>?_⟩;obtain ⟨_,xs,er,hx,hl⟩:=Jz h1;cases er;have lx:=hl.length;rw [Bd.dats_map,Oh] at lx;have few:=Bd.few ok;refine ⟨⟨_,SqL.of hx⟩,?_⟩;refine YQ xs.length (ZI (by omega)) (fun j vs H'=>Same H1 H'/\vs.length=j/\vs=((b.parts.take j).map fun c=>((c.size:Nat):Int)).map V.int) ⟨Same.refl _,rfl,rfl⟩ (fun j vs H' z=>?_) ?_ ?_ ?_ ?_
 .exact z.2.1
 .intro j vs H' hj z
  exact ⟨xs,xs[j],SqL.of (z.1 _ _ hx),by simp [hj]⟩
 .intro vs H' z
  exact ⟨xs,SqL.of (z.1 _ _ hx),Om _⟩
 .intro j vs H' x H3 R hj z yl hR
  obtain ⟨rfl,y⟩:=yl;obtain ⟨d,hd,hx1⟩:=hl.get (y xs (SqL.of (z.1 _ _ hx)));rw [Bd.dats_map,On] at hd
  cases hp:b.parts[j]? with
  | none=>rw [hp] at hd;cases hd
  | some c=>
   rw [hp] at hd;cases hd;have hm:=Oo hp;have hdm:=Bd.dep_mem hm;refine ⟨x,c,rfl,hx1.mono z.1,Bd.ok_parts ok c hm,by omega,by omega,fun H4 s4=>hR _ _ ⟨z.1.trans s4,by rw [Os,z.2.1];rfl,?_⟩⟩;rw [z.2.2,List.take_add_one,hp,Option.toList_some,Oq,Oq]
   rfl
 .intro vs H' l z hl3
  obtain ⟨z1,_,rfl⟩:=z;rw [lx,List.take_length]
  have big:Bd.sizes b.parts < 2 ^ 62:=by
   have h2:=Bd.size_le 20 b d20 ok;rw [Bd.size_eq] at h2;have:(6:Nat) ^ 20 < 2 ^ 62:=by decide
   omega
  refine ⟨l,_,rfl,SqL.of ZC,NV big,?_⟩
  have e:(1:Int) + (b.parts.map fun c=>((c.size:Nat):Int)).sum=((b.size:Nat):Int):=by
   rw [Bd.sizes_sum,Bd.size_eq];push_cast;rfl
  show Q (.int (1 + (b.parts.map fun c=>((c.size:Nat):Int)).sum)) _;rw [e];exact q _ ((s1.trans z1).trans (ZH hl3 _))
end
end K4
namespace L2
open PySem
section
def K3(tl:TE):TI:=fun U H R=>tl U H fun v H1=> ∃ d o kvs,v= .ref d/\H1 d=some (.frz o (.dK kvs))/\R (Itd d o kvs) H1
theorem Jo(hl:PE X l tl):PI X tg l (K3 tl):=by
 intro pins s U H R I h;refine thn (hl pins s U H _ I h) fun v s1 ⟨y,H1,I1,r1,d,o,kvs,e,hd,q⟩=>?_;subst e;cases r1;obtain ⟨vs,hat,rv,hm⟩:=I1.dict_at hd;refine wpAny_pyIter_dict hm hat ?_;rw [<-MJ rv];refine ⟨_, [s1.heap.objs.size],_,_,_,rfl,I1.kept (t':=s1.toks) (fun b o e=>Oj _ e),NS _ d o kvs,⟨_,O3 _ rfl,rfl,rfl⟩,fun b hb=>?_,q⟩;cases Ox.mp hb;exact I1.fpOk (Om _) (I1.hok.fresh (Om _))
def OB(t:TS):TS:=fun D U H=>t {D with nx:=fun U H1=> ∃ d kvs,H1 d=some (.dK kvs)/\∀ o,D.nx U (upd H1 d (.frz o (.dK kvs)))} U H
theorem Gu(h:PS X st t):PS X st (OB t):=by
 intro pins s U H D I q;refine thn (h pins s U H _ I q) fun f s1 z=>?_
 cases f with
 | next=>
  obtain ⟨U',H1,I1,d,kvs,hd,q2⟩:=z;obtain ⟨o,ho⟩:=(show Zr X.prog X.w H1 s1.heap d (.dK kvs) from I1.hok d _ hd).dk_ex;exact ⟨U',_,I1.freeze hd ho,q2 o⟩
 | brk=>exact z
 | cont=>exact z
 | ret u=>exact z
end
def SF(H:Hp)(a:Addr)(ks:List (Str × Shp)):Prop:= ∃ o kvs,H a=some (.frz o (.dK kvs))/\kvs.map (·.1)=ks.map (fun k=>(Sum.inr k.1:Key))/\∀ y s,Yw ks y=some s->∃ v,Zl kvs (Sum.inr y)=some v/\Has H v s.dat
theorem SF.mono(h:SF H a ks)(e:Same H H'):SF H' a ks:=by
 obtain ⟨o,kvs,h1,h2,h3⟩:=h;exact ⟨o,kvs,e _ _ h1,h2,fun y s hs=>let ⟨v,g1,g2⟩:=h3 y s hs;⟨v,g1,g2.mono e⟩⟩
theorem Et(nd:(ks.map (·.1)).Nodup)(h:(y,s)∈ks):Yw ks y=some s:=by
 induction ks with
 | nil=>simp at h
 | cons k ks ih=>
  rw [O0,List.nodup_cons] at nd;unfold Yw;rw [List.find?_cons];rcases O8.mp h with e | e
  .subst e;simp
  .have ne: ¬ k.1=y:=fun q=>nd.1 (by rw [q];exact O1.mpr ⟨_,e,rfl⟩)
   rw [decide_eq_false ne];exact ih nd.2 e
theorem EG{g:TG}{tb:TS}{D:Ends}(Pv:Nat->St->Hp->Prop)(h0:Pv 0 U H)(hl:∀ i U H,i<=kvs.length->Pv i U H->H d=some (.frz o (.dK kvs)))(hs:∀ i kv U H,kvs[i]?=some kv->Pv i U H->g (kV kv.1) U H fun σ2 H2=>tb {D with nx:=Pv (i + 1),ct:=Pv (i + 1),bk:=D.nx} σ2 H2)(hd:∀ U H,Pv kvs.length U H->D.nx U H):
  ∃ W:Nat->Nat->St->Hp->Prop,(∃ m,W 0 m U H)/\∀ i m U H,W i m U H->
   ((Itd d o kvs).stop i H/\D.nx U H) \/ ((Itd d o kvs).go i H/\∃ N:St->Hp->Prop,(∀ U' H',N U' H'->∃ m',m' < m/\W (i + 1) m' U' H')/\∀ x H',(Itd d o kvs).yld i H x H'->g x U H' fun σ2 H2=>tb {D with nx:=N,ct:=N,bk:=D.nx} σ2 H2):=by
 refine ⟨fun i m U H=>m=kvs.length - i/\i<=kvs.length/\Pv i U H,⟨kvs.length,by simp,O7 _,h0⟩,fun i m U H z=>?_⟩;obtain ⟨rfl,hi,p⟩:=z;have q:=hl i U H hi p;rcases Nat.lt_or_ge i kvs.length with hlt | hge
 .refine .inr ⟨⟨q,hlt⟩,Pv (i + 1),fun U' H' p'=>⟨kvs.length - (i + 1),by omega,rfl,hlt,p'⟩,fun x H' y=>?_⟩
  obtain ⟨e,kv,ek,ex⟩:=y;subst e ex;exact hs i kv U _ ek p
 .have e:kvs.length=i:=by omega
  exact .inl ⟨⟨q,e⟩,by subst e;exact hd U H p⟩
theorem NE{g:TG}{tb:TS}{D:Ends}(Pv:Nat->St->Hp->Prop)(h0:Pv 0 U H)(hl:∀ i U H,i<=kvs.length->Pv i U H->H d=some (.frz o (.dK kvs)))(hs:∀ (B:St->Hp->Prop) (R:VK) i kv U H,kvs[i]?=some kv->Pv i U H->g (kV kv.1) U H fun σ2 H2=>tb {nx:=Pv (i + 1),rt:=R,bk:=B,ct:=Pv (i + 1)} σ2 H2)(hd:∀ U H,Pv kvs.length U H->D.nx U H):
  ∃ W:Nat->Nat->St->Hp->Prop,(∃ m,W 0 m U H)/\∀ i m U H,W i m U H->
   ((Itd d o kvs).stop i H/\D.nx U H) \/ ((Itd d o kvs).go i H/\∃ N:St->Hp->Prop,(∀ U' H',N U' H'->∃ m',m' < m/\W (i + 1) m' U' H')/\∀ x H',(Itd d o kvs).yld i H x H'->g x U H' fun σ2 H2=>tb {D with nx:=N,ct:=N,bk:=D.nx} σ2 H2):=
 EG Pv h0 hl (fun i kv U H hx p=>hs _ _ i kv U H hx p) hd
theorem MK{ks:List (Str × Shp)}{kvs:List (Key × V)}(e:kvs.map (·.1)=ks.map (fun k=>(Sum.inr k.1:Key))){i:Nat}(h:kvs[i]?=some kv):∃ y s,ks[i]?=some (y,s)/\kv.1=Sum.inr y:=by
 have q:=congrArg (fun l=>l[i]?) e;simp only [On,h,Option.map_some] at q
 cases hk:ks[i]? with
 | none=>rw [hk] at q;cases q
 | some k=>
  rw [hk] at q;obtain ⟨y,s⟩:=k;exact ⟨y,s,rfl,Oy q⟩
theorem G3{ks:List (Str × Shp)}{kvs:List (Key × V)}(e:kvs.map (·.1)=ks.map (fun k=>(Sum.inr k.1:Key))):kvs.length=ks.length:=by
 have:=congrArg List.length e
 rwa [Oh,Oh] at this
abbrev Hds:=Str->Option (List (Str × Str) × Str)
inductive Kd(ks:List (Str × Shp))(hd:Hds):List (Key × V)->Str->Bd->Prop
 | tag {g:List (Key × V)}{y t:Str}{ts:List Str}:Yw ks y=some (.tags ts)->t∈ts->Kd ks hd g y (.tag t)
 | name {g:List (Key × V)}{y x:Str}:Zl g (Sum.inr x)=some (.str y)->Kd ks hd g y (.name x)
 | pair {g:List (Key × V)}{y a b:Str}{A B:Bd}:Yw ks y=some (.pair a b)->Kd ks hd g a A->Kd ks hd g b B->Kd ks hd g y (.pair A B)
 | one {g:List (Key × V)}{y z b:Str}{e:Bd}:Yw ks z=some (.pair y b)->Kd ks hd g z e->Kd ks hd g y (.one e)
 | other {g:List (Key × V)}{y z a:Str}{e:Bd}:Yw ks z=some (.pair a y)->Kd ks hd g z e->Kd ks hd g y (.other e)
 | choose {g:List (Key × V)}{y z:Str}{ts:List Str}{e:Bd}{bs:List Bd}:Yw ks z=some (.tags ts)->Kd ks hd g z e->bs.length=ts.length->(∀ b∈bs,Kd ks hd g y b)->Kd ks hd g y (.choose e ts bs)
 | ask {g:List (Key × V)}{y f:Str}{ps:List (Str × Str)}{as:List Bd}:hd f=some (ps,y)->as.length=ps.length->(∀ (i:Nat) (a:Bd) (p:Str × Str),as[i]?=some a->ps[i]?=some p->Kd ks hd g p.2 a)->Kd ks hd g y (.ask f as)
 | letb {g:List (Key × V)}{y x z:Str}{e b:Bd}:Zl g (Sum.inr x)=none->z∈ks.map (·.1)->Kd ks hd (putK g (Sum.inr x) (.str z)) z e->Kd ks hd (putK g (Sum.inr x) (.str z)) y b->Kd ks hd g y (.letb x z e b)
theorem EZ{P:Bd->Prop}(h:∀ x∈bs,P x)(hb:P b):∀ x∈bs++ [b],P x:=fun x hx=>by
 rcases O2.mp hx with q | q
 .exact h x q
 .cases Ox.mp q
  exact hb
theorem D9{α:Type}{P:Nat->α->Prop}{bs:List α}{b:α}(h:∀ i x,bs[i]?=some x->P i x)(hb:P bs.length b):∀ i x,(bs++ [b])[i]?=some x->P i x:=fun i x e=>by
 rcases Nat.lt_trichotomy i bs.length with l | l | l
 .rw [List.getElem?_append_left l] at e;exact h i x e
 .subst l
  rw [List.getElem?_append_right (Om _),Nat.sub_self] at e;cases Oy e;exact hb
 .rw [List.getElem?_eq_none_iff.mpr (by rw [Os];exact l)] at e
  cases e
def GB(p w:Addr)(H H':Hp):Prop:= ∀ b o,b≠p->b≠w->H b=some o->H' b=some o
theorem GB.refl(p w:Addr)(H:Hp):GB p w H H:=fun _ _ _ _ h=>h
theorem GB.trans(a:GB p w H H1)(b:GB p w H1 H2):GB p w H H2:=fun c o n1 n2 h=>b c o n1 n2 (a c o n1 n2 h)
theorem SameB.gb(a:SameB p H H'):GB p w H H':=fun b o n _ h=>a b o n h
theorem Same.gb(a:Same H H'):GB p w H H':=fun b o _ _ h=>a b o h
def AF(H:Hp)(a:Addr)(ns:List Str)(m:Nat)(kvs:List (Key × V)):Prop:= ∃ o,H a=some (.frz o (.dK kvs))/\kvs.length<=m/\∀ kv∈kvs,∃ (x k:Str),kv=(Sum.inr x,V.str k)/\k∈ns
def hdD(ps:List (Str × Str))(k:Str):Dat:= .tup [.tup (ps.map fun p=> .tup [.str p.1, .str p.2]), .str k]
def HF(H:Hp)(a:Addr)(ns:List Str)(hds:Hds):Prop:= ∃ o kvs,H a=some (.frz o (.dK kvs))/\kvs.length<=8/\∀ kv∈kvs,∃ (f:Str) (ps:List (Str × Str)) (k:Str),kv.1=Sum.inr f/\Has H kv.2 (hdD ps k)/\ps.length<=3/\(∀ p∈ps,p.2∈ns)/\k∈ns/\hds f=some (ps,k)
def wrD(sA hA lA:Addr)(n:Int):HO:= .dK [(Sum.inr "shapes", .ref sA),(Sum.inr "heads", .ref hA),(Sum.inr "lets", .ref lA),(Sum.inr "left", .int n)]
def Wr(H:Hp)(w:Addr)(ks:List (Str × Shp))(hds:Hds)(lA:Addr):Prop:= ∃ (sA hA:Addr) (ls:List Str) (n:Int),H w=some (wrD sA hA lA n)/\SF H sA ks/\HF H hA (ks.map (·.1)) hds/\H lA=some (.lst (ls.map V.str))/\ls.length<=3
theorem JC(ps:List (Str × Str))(k:Str):(hdD ps k).st=true:=by
 have:∀ ps:List (Str × Str),Dat.sts (ps.map fun p=>Dat.tup [.str p.1, .str p.2])=true:=by
  intro ps
  induction ps with
  | nil=>unfold List.map Dat.sts;rfl
  | cons p ps ih=>rw [O0];unfold Dat.sts;rw [ih];simp [Dat.st,Dat.sts]
 simp [hdD,Dat.st,Dat.sts,this]
theorem Yv(s:Zo H p)(h:H a=some (.frz o u)):a≠p:=fun e=>by
 obtain ⟨_,_,_,_,h2⟩:=s;rw [e,h2] at h;cases h
theorem RZ(s:Zo H p)(h:H a=some (.dK kvs)):a≠p:=fun e=>by
 obtain ⟨_,_,_,_,h2⟩:=s;rw [e,h2] at h;cases h
theorem Yd{ls:List Str}(s:Zo H p)(h:H a=some (.lst (ls.map V.str))):a≠p:=fun e=>by
 obtain ⟨_,_,_,_,h2⟩:=s;rw [e,h2] at h;have h':=Oy h;injection h' with h3
 cases ls with
 | nil=>cases h3
 | cons l ls=>rw [O0] at h3;injection h3 with h4 _;cases h4
theorem Wr.ne(g:Wr H w ks hds lA)(s:Zo H p):w≠p:=by
 obtain ⟨_,_,_,_,h,_⟩:=g;exact RZ s h
theorem GB.tk(a:GB p w H H')(s:Zo H p)(g:Wr H w ks hds lA):TK H H':=fun b xs h=>a b _ (Zt s h) (fun e=>by
 obtain ⟨_,_,_,_,h2,_⟩:=g;rw [e,h2] at h;cases h) h
theorem Wr.ne_frz(g:Wr H w ks hds lA)(h:H a=some (.frz o u)):a≠w:=fun e=>by
 obtain ⟨_,_,_,_,h2,_⟩:=g;rw [e,h2] at h;cases h
theorem Wr.ne_lst(g:Wr H w ks hds lA)(h:H a=some (.lst xs)):a≠w:=fun e=>by
 obtain ⟨_,_,_,_,h2,_⟩:=g;rw [e,h2] at h;cases h
theorem SF.gb(h:SF H a ls)(b:GB p w H H')(s:Zo H p)(g:Wr H w ks hds lA):SF H' a ls:=by
 obtain ⟨o,kvs,h1,h2,h3⟩:=h;exact ⟨o,kvs,b _ _ (Yv s h1) (g.ne_frz h1) h1,h2,fun y sh hs=>let ⟨v,g1,g2⟩:=h3 y sh hs;⟨v,g1,YU (b.tk s g) _ (Shp.st _) g2⟩⟩
theorem HF.gb(h:HF H a ns hds)(b:GB p w H H')(s:Zo H p)(g:Wr H w ks hds lA):HF H' a ns hds:=by
 obtain ⟨o,kvs,h1,h2,h3⟩:=h;exact ⟨o,kvs,b _ _ (Yv s h1) (g.ne_frz h1) h1,h2,fun kv hk=>let ⟨f,ps,k,e1,e2,e3⟩:=h3 kv hk;⟨f,ps,k,e1,YU (b.tk s g) _ (JC _ _) e2,e3⟩⟩
theorem AF.gb(h:AF H a ns m kv)(b:GB p w H H')(s:Zo H p)(g:Wr H w ks hds lA):AF H' a ns m kv:=by
 obtain ⟨o,h1,h2⟩:=h;exact ⟨o,b _ _ (Yv s h1) (g.ne_frz h1) h1,h2⟩
theorem AF.mono(h:AF H a ns m kv)(e:Same H H')(l:m<=m'):AF H' a ns m' kv:=by
 obtain ⟨o,h1,h2,h3⟩:=h;exact ⟨o,e _ _ h1,O6 h2 l,h3⟩
theorem HF.mono(h:HF H a ns hds)(e:Same H H'):HF H' a ns hds:=by
 obtain ⟨o,kvs,h1,h2,h3⟩:=h;exact ⟨o,kvs,e _ _ h1,h2,fun kv hk=>let ⟨f,ps,k,e1,e2,e3⟩:=h3 kv hk;⟨f,ps,k,e1,e2.mono e,e3⟩⟩
theorem Wr.mono(g:Wr H w ks hds lA)(e:Same H H'):Wr H' w ks hds lA:=by
 obtain ⟨sA,hA,ls,n,h1,h2,h3,h4,h5⟩:=g;exact ⟨sA,hA,ls,n,e _ _ h1,h2.mono e,h3.mono e,e _ _ h4,h5⟩
theorem Wr.sb(g:Wr H w ks hds lA)(b:SameB p H H')(s:Zo H p):Wr H' w ks hds lA:=by
 have gb:GB p w H H':=b.gb;obtain ⟨sA,hA,ls,n,h1,h2,h3,h4,h5⟩:=id g;exact ⟨sA,hA,ls,n,b _ _ (g.ne s) h1,h2.gb gb s g,h3.gb gb s g,b _ _ (Yd s h4) h4,h5⟩
def LN(H:Hp)(l l':Addr):Prop:=l'=l \/ H l'=none
theorem GB.free(a:GB p w H H')(n1:r≠p)(n2:r≠w)(h:H' r=none):H r=none:=by
 cases e:H r with
 | none=>rfl
 | some o=>rw [a r o n1 n2 e] at h;cases h
theorem Wr.la(g:Wr H w ks hds lA):∃ ls:List Str,H lA=some (.lst (ls.map V.str)):=let ⟨_,_,ls,_,_,_,_,h,_⟩:=g;⟨ls,h⟩
theorem LN.trans(a:LN H l l1)(b:LN H1 l1 l2)(g:GB p w H H1)(s:Zo H2 p)(r:Wr H2 w ks hds l2):LN H l l2:=by
 rcases b with b | b
 .rw [b];exact a
 .obtain ⟨ls,h⟩:=r.la
  exact .inr (g.free (Yd s h) (r.ne_lst h) b)
theorem TQ:∀ {bs:List Bd}{ts:List Str},Dat.sts (Bd.dats bs)=true->Dat.sts (Bd.brs bs ts)=true
 | [],_,_=>by unfold Bd.brs Dat.sts;rfl
 | b::bs, [],_=>by unfold Bd.brs Dat.sts;rfl
 | b::bs,t::ts,h=>by
  unfold Bd.dats Dat.sts at h;rw [O4] at h;unfold Bd.brs Dat.sts;rw [TQ h.2];simp [Dat.st,Dat.sts,h.1]
mutual
theorem Bd.st:∀ b:Bd,b.dat.st=true
 | .tag t=>by simp [Bd.dat,Dat.st,Dat.sts]
 | .name t=>by simp [Bd.dat,Dat.st,Dat.sts]
 | .pair a b=>by simp [Bd.dat,Dat.st,Dat.sts,Bd.st a,Bd.st b]
 | .one a=>by simp [Bd.dat,Dat.st,Dat.sts,Bd.st a]
 | .other a=>by simp [Bd.dat,Dat.st,Dat.sts,Bd.st a]
 | .choose e ts bs=>by simp [Bd.dat,Dat.st,Dat.sts,Bd.st e,TQ (Bd.sts bs)]
 | .ask f as=>by simp [Bd.dat,Dat.st,Dat.sts,Bd.sts as]
 | .letb x k e b=>by simp [Bd.dat,Dat.st,Dat.sts,Bd.st e,Bd.st b]
theorem Bd.sts:∀ bs:List Bd,Dat.sts (Bd.dats bs)=true
 | []=>by unfold Bd.dats Dat.sts;rfl
 | b::bs=>by unfold Bd.dats Dat.sts;rw [Bd.st b,Bd.sts bs];rfl
end
theorem Ta{kvs:List (Key × V)}(h:Zl kvs k=some v):∃ kv∈kvs,kv.1=k/\kv.2=v:=by
 unfold Zl at h
 cases e:kvs.find? (fun kv=>decide (kv.1=k)) with
 | none=>rw [e] at h;cases h
 | some kv=>
  rw [e] at h;exact ⟨kv,List.mem_of_find?_eq_some e,by simpa using List.find?_some e,Oy h⟩
theorem T8{kvs:List (Key × V)}(h:kv∈kvs):∃ v,Zl kvs kv.1=some v:=by
 unfold Zl
 cases e:kvs.find? (fun q=>decide (q.1=kv.1)) with
 | none=>exact absurd (List.find?_eq_none.mp e kv h) (by simp)
 | some q=>exact ⟨q.2,rfl⟩
theorem Wb:∀ ns:List Str,HasL H (ns.map V.str) (ns.map Dat.str)
 | []=>HasL.nil
 | n::ns=>HasL.cons Zn (Wb ns)
theorem Kw{ns:List Str}(h:H a=some (.lst (ns.map V.str))):Has H (.ref a) (.lst (ns.map Dat.str)):=YG h (Wb ns)
theorem Xt(ns:List Str):(Dat.lst (ns.map Dat.str)).dep<=1:=by
 have:∀ ns:List Str,Dat.deps (ns.map Dat.str)=0:=by
  intro ns
  induction ns with
  | nil=>unfold List.map Dat.deps;rfl
  | cons n ns ih=>rw [O0];unfold Dat.deps;rw [ih];unfold Dat.dep;rfl
 unfold Dat.dep;rw [this];decide
theorem Gv(ds:List Dat):(Dat.lst ds).pq (.lst [])=ds.isEmpty:=by
 unfold Dat.pq
 cases ds with
 | nil=>unfold Dat.pqs;rfl
 | cons d ds=>unfold Dat.pqs;rfl
def GQ(p w:Addr)(ks:List (Str × Shp))(hds:Hds)(kv:List (Key × V))(y:Str)(lA:Addr)(H:Hp)(Q:VK)(m:Nat):Prop:= ∀ (u:V) (H':Hp) (b:Bd) (l':Addr),GB p w H H'->Zo H' p->Wr H' w ks hds l'->LN H lA l'->Has H' u b.dat->b.ok->b.dep<=m->Kd ks hds kv y b->Q u H'
theorem XY(h:H r=some (.tup [.str a, .str b])):Has H (.ref r) (.tup [.str a, .str b]):=Zk h (HasL.cons Zn (HasL.cons Zn HasL.nil))
theorem Je{r:Int}(r0:0<=r)(r1:r < (xs.length:Nat)):∃ (m:Nat) (v:V),xs[m]?=some v/\atI xs r=some v:=by
 obtain ⟨m,rfl⟩:∃ m:Nat,r=m:=⟨r.toNat,by omega⟩;have hm:m < xs.length:=by omega
 exact ⟨m,xs[m],Oi hm,YA (Oi hm)⟩
theorem Ug{ys:List Str}{m:Nat}(h:(ys.map V.str)[m]?=some v):∃ y,y∈ys/\v= .str y:=by
 rw [On] at h
 cases e:ys[m]? with
 | none=>rw [e] at h;cases h
 | some y=>rw [e] at h;exact ⟨y,Oo e,(Oy h).symm⟩
theorem Zo.sm(s:Zo H p)(e:Same H H'):Zo H' p:=let ⟨a,b,c,d,h⟩:=s;⟨a,b,c,d,e _ _ h⟩
theorem wr1:Zl [((Sum.inr "shapes" :Key),a),(Sum.inr "heads",b),(Sum.inr "lets",c),(Sum.inr "left",d)] (Sum.inr "shapes")=some a:=rfl
theorem wr2:Zl [((Sum.inr "shapes" :Key),a),(Sum.inr "heads",b),(Sum.inr "lets",c),(Sum.inr "left",d)] (Sum.inr "heads")=some b:=rfl
theorem wr3:Zl [((Sum.inr "shapes" :Key),a),(Sum.inr "heads",b),(Sum.inr "lets",c),(Sum.inr "left",d)] (Sum.inr "lets")=some c:=rfl
theorem wr4:Zl [((Sum.inr "shapes" :Key),a),(Sum.inr "heads",b),(Sum.inr "lets",c),(Sum.inr "left",d)] (Sum.inr "left")=some d:=rfl
theorem Wr.shapes(h:H w=some (wrD sA hA lA n)):YD H w (.str "shapes") (some (.ref sA)):= .inl ⟨_,Sum.inr "shapes", .inl h,rfl,wr1.symm⟩
theorem Wr.heads(h:H w=some (wrD sA hA lA n)):YD H w (.str "heads") (some (.ref hA)):= .inl ⟨_,Sum.inr "heads", .inl h,rfl,wr2.symm⟩
theorem Wr.lets(h:H w=some (wrD sA hA lA n)):YD H w (.str "lets") (some (.ref lA)):= .inl ⟨_,Sum.inr "lets", .inl h,rfl,wr3.symm⟩
theorem Wr.left(h:H w=some (wrD sA hA lA n)):YD H w (.str "left") (some (.int n)):= .inl ⟨_,Sum.inr "left", .inl h,rfl,wr4.symm⟩
end L2
namespace K4
open PySem L2
section
variable{P:Program}{w:World}{K:W.Frag}{mg:Str->Option Value}{base:Heap}
def Df(P:Program)(w:World)(K:W.Frag)(mg:Str->Option Value)(base:Heap)(n:Nat)(x:Str)(ps:List Str)(sp:Sp):Prop:=
 ∃ (g:Addr) (gd:FuncData),mg x=some (.ref g)/\W.keepIn K (.ref g)=true/\Binds K gd ps []/\ZQ P w K mg base CX0 n g gd ps sp
theorem ZZ{X:Cx}(D:Df X.prog X.w X.K X.mg X.base k x ps sp)(hr:YR k X.A)(ha:PA X (e::es) t)(hg:Gl X x:=by exact rfl)(hdb:(x==("__debug__" :Str))=false:=by decide)(he:starEach (e::es) X.env=(false,eval e X.env)::starEach es X.env:=by rfl)(hpl:(backTo pos (starEach es X.env)).any (·.1)=false:=by rfl):
  PE X (.Call (.Name x p) (e::es) [] pos) (Id sp [] E0 t):=let ⟨_,_,m,k,b,G⟩:=D;Zy G hr hg m k b .nil YM ha hdb he hpl
theorem Df.up(d:Df P w K mg base n x ps sp)(h:n<=m):Df P w K mg base m x ps sp:=
 let ⟨g,gd,h1,h2,h3,h4⟩:=d;⟨g,gd,h1,h2,h3,h4.mono h⟩
theorem Xd:Za ["stream","world","around","kind","names","shape","one"] ["stream","world","around","kind"] (ZJ X4):=Zu
theorem Ko:List.Nodup [("name" :Str),"around","kind"]:=by decide +kernel
def VD(n:Nat):Sp:=fun vs H Q _=> ∃ (p w a lA:Addr) (y:Str) (ks:List (Str × Shp)) (hds:Hds) (kv:List (Key × V)) (c d:Str->Nat),vs= [.ref p, .ref w, .ref a, .str y]/\Zo H p/\Wr H w ks hds lA/\AF H a (ks.map (·.1)) 100 kv/\KK 30 c d ks/\y∈ks.map (·.1)/\d y < n/\GQ p w ks hds kv y lA H Q (d y)
theorem DJ(B:Blt mg)(F:Fun K "_law_plain" "_law_plain" X4 f fd)(DT:Df P w K mg base (L + 3 + n) "_law_take" ["stream","many"] Yl)(G:ZQ P w K mg base CX0 (L + 3 + n) f fd ["stream","world","around","kind"] (VD n))(bG:Binds K fd ["stream","world","around","kind"] [])(mG:mg "_law_plain" =some (.ref f)):
  ZQ P w K mg base CX0 (L + 3 + n + 1) f fd ["stream","world","around","kind"] (VD (n + 1)):=by
 refine F.oq Xd fun cdv A outer s H vs Q E hr h=>?_;obtain ⟨p,wA,a,lA,y,ks,hds,kv,c,d,rfl,hs,hw,ha,kk,hy,hd,q⟩:=h;have hu:=Y3 hr;have hr2:=hr.mono (show 2<=L + 3 + n by omega);refine ⟨_,ZA (Xj (i0:=4) ["name"] [2,3] Xd.nd rfl (Or.inl rfl) (Jo (pv 2)) (YO (i:=0) (by decide)) (fun cl C fp s H=>ZL 0 Ko rfl (Or.inl rfl) (Or.inr rfl))
   (fun cl C fp s H=>ZN YN (Zd hu (pv 1) (pv 0) (fun _ _=>rfl)) (pv 2) (ZW _)) (fun cl C fp s H=>pv 0))
  (ZA (Zg (PW.pt (Vo (ZN (MC hr2) (pv 4) (Zp YK) (ZW _)) (VE (ZN Vt (ZZ DT hr (pa2 (pv 0) ZD)) ZD (ZW _)))))
   (ZF (ZV (Zi (pa2 ZY (ZT Zh (pv 4) (ZZ DT hr (pa2 (pv 0) (ZU ZP rfl B.len PySem.boot_len (pa1 (pv 4))))) (fun _ _=>rfl)))))) ZO)
  (ZA (ZM 5 Xd.nd (Zd hu (Zd hu (pv 1) ZY (fun _ _=>rfl)) (pv 3) (fun _ _=>rfl)))
  (ZA (Zg (ZN YN (ZT Zc (pv 5) ZD) ZY (ZW _))
   (ZF (ZV (Zi (pa2 ZY (ZT Zc (ZT Zc (pv 5) ZD) (ZZ DT hr (pa2 (pv 0) (ZU ZP rfl B.len PySem.boot_len (pa1 (ZT Zc (pv 5) ZD))))) (fun _ _=>rfl)))))) ZO)
  (ZA (ZM 6 Xd.nd (Zy G hr rfl mG F.kp bG .nil YM (pa4 (pv 0) (pv 1) (pv 2) (ZT Zc (pv 5) ZD))))
  (ZF (ZV (Zi (pa3 ZY (pv 6) (Zy G hr rfl mG F.kp bG .nil YM (pa4 (pv 0) (pv 1) (pv 2) (ZT Zc (pv 5) ZD))))))))))),?_⟩
 dsimp only [Yo,Cx.nox,Cx.wish];show let a:=_;let b:=ZK _ a;let c:=_;let d:=ZK (Zv _ c _) b;let e:=ZK _ d;let f:=_;let g:=ZK (Zv _ f _) e;ZK _ g _ _ _
 intros
 obtain ⟨o,ha1,ha2,ha3⟩:=id ha;refine ⟨a,o,kv,rfl,ha1,?_⟩;refine V0 kv.length (ZI (by omega)) (fun i vs H'=>H'=H/\vs.length<=i/\∃ ns:List Str,vs=ns.map V.str/\∀ z∈ns,Zl kv (Sum.inr z)=some (.str y)) ⟨rfl,Om _, [],rfl,fun z hz=>nomatch hz⟩ (fun i vs H' z=>z.2.1) ?_ ?_ ?_ ?_
 .rintro i vs H' hi ⟨rfl,_⟩
  exact ⟨ha1,hi⟩
 .rintro vs H' ⟨rfl,_⟩
  exact ⟨ha1,rfl⟩
 .rintro i vs H' x H'' R hi ⟨rfl,z2,ns,rfl,z4⟩ yl rT rF
  obtain ⟨rfl,kv1,hkv,rfl⟩:=yl;have hm:=Oo hkv;obtain ⟨x,k,rfl,hk⟩:=ha3 kv1 hm;obtain ⟨v,hv⟩:=T8 hm;obtain ⟨kv2,m2,e2,e3⟩:=Ta hv;obtain ⟨x2,k2,rfl,hk2⟩:=ha3 kv2 m2;subst e3;refine ⟨_, .inl ⟨kv,Sum.inr x, .inr ⟨o,ha1⟩,rfl,hv.symm⟩,rfl,_,rfl,?_⟩;refine Yc (fun c1=>rT _ _ ⟨rfl,by simp at z2 |-;omega,ns++ [x],by rw [Oq];rfl,fun z hz=>?_⟩) (fun c1=>rF _ ⟨rfl,by omega,ns,rfl,z4⟩);rcases O2.mp hz with hz | hz
  .exact z4 z hz
  .cases Ox.mp hz
   have c2:=of_decide_eq_true c1;rw [hv];exact congrArg some c2
 rintro vs H' r1 ⟨rfl,z2,ns,rfl,z4⟩ hr1;refine up_in hr1 _ fun H1 s1 g1=>?_;dsimp only [YZ];refine YS (fun U' H2=>GB p wA H' H2/\Zo H2 p/\Wr H2 wA ks hds lA/\AF H2 a (ks.map (·.1)) 100 kv/\U'= [some (.ref p),some (.ref wA),some (.ref a),some (.str y),some (.ref r1),none,none]) ?_ ?_
 .rintro U' H2 ⟨gb,st,wr,af,rfl⟩
  obtain ⟨sA,hA,ls,nn,hW,hS,_⟩:=id wr;obtain ⟨sh,hsh⟩:=Ys hy;have k1:=kk.at hsh;obtain ⟨o2,kvs2,h1,h2,h3⟩:=hS;obtain ⟨v,hv,hvd⟩:=h3 y sh hsh;refine ⟨_,Wr.shapes hW,v, .inl ⟨kvs2,Sum.inr y, .inr ⟨o2,h1⟩,rfl,hv.symm⟩,?_⟩
  cases sh with
  | tags ts=>
   obtain ⟨t1,t2,t3,t4,t5⟩:=k1;obtain ⟨ps,l,rfl,hp,hl⟩:=Vx hvd;have ll:(ts.map V.str).length=ts.length:=Oh _;refine ⟨_,_,SqT.of hp,rfl,rfl,_,rfl,Z7 (by decide +kernel) ?_⟩;refine ⟨_,_,SqT.of hp,rfl,_,_,SqT.of hp,rfl,l,_,rfl, .inr (SqT.of hl),p,_,rfl,st,by omega,by omega,fun r H3 r0 r1' b3 s3=>?_⟩;obtain ⟨m,v,hv1,hv2⟩:=Je r0 r1';obtain ⟨z,hz,rfl⟩:=Ug hv1;have gb3:GB p wA H2 H3:=b3.sb.gb;refine ⟨_,_,SqT.of (gb3.tk st wr _ _ hl),hv2,sl 2,fun t ht=>?_⟩;have s4:=ZH ht (.tup [.str "tag", .str z]);exact (fun kd=>q _ _ (.tag z) lA ((gb.trans gb3).trans s4.gb) (s3.sm s4) ((wr.sb b3.sb st).mono s4) (.inl rfl) (by unfold Bd.dat;exact XY ZC) (by unfold Bd.ok;trivial) (by unfold Bd.dep;exact O7 _) kd) (Kd.tag hsh hz)
  | pair e g=>
   obtain ⟨t1,t2,t3,t4,t5,t6⟩:=k1;obtain ⟨ps,rfl,hp⟩:=VP hvd;refine ⟨_,_,SqT.of hp,rfl,rfl,_,rfl,Zs (by decide +kernel) ?_⟩;refine ⟨_,_,SqT.of hp,rfl,p,wA,a,lA,e,ks,hds,kv,c,d,rfl,st,wr,af,kk,t1,by omega,fun u1 H3 b1 l1 gb1 st1 wr1 ln1 hu1 ok1 dp1 kd1=>?_⟩;refine ⟨_,_,SqT.of (gb1.tk st wr _ _ hp),rfl,p,wA,a,l1,g,ks,hds,kv,c,d,rfl,st1,wr1,af.gb gb1 st wr,kk,t2,by omega,fun u2 H4 b2 l2 gb2 st2 wr2 ln2 hu2 ok2 dp2 kd2=>?_⟩;refine ⟨sl 3,fun t ht=>?_⟩;have s5:=ZH ht (.tup [.str "pair",u1,u2]);refine q _ _ (.pair b1 b2) l2 (((gb.trans gb1).trans gb2).trans s5.gb) (st2.sm s5) (wr2.mono s5) (LN.trans (.inl rfl) (ln1.trans ln2 gb1 st2 wr2) gb st2 wr2) ?_ (by unfold Bd.ok;exact ⟨ok1,ok2⟩) (by unfold Bd.dep;omega) (Kd.pair hsh kd1 kd2);unfold Bd.dat;exact Zk ZC (HasL.cons Zn (HasL.cons ((YU (gb2.tk st1 wr1) _ (Bd.st _) hu1).mono s5) (HasL.one (hu2.mono s5))))
 .intro N key
  refine ⟨sl 0,fun e1 he1=>?_⟩;have s2:=ZH he1 (.lst []);have g2:=s2 _ _ g1;have ge:upd H1 e1 (.lst []) e1=some (.lst []):=ZC;generalize upd H1 e1 (.lst [])=H2 at s2 g2 ge |-;have s02:=s1.trans s2;refine ⟨.lst (ns.map Dat.str), .lst [],Kw g2,YG ge HasL.nil,Xt _,_,rfl,?_⟩;rw [Gv]
  cases ns with
  | nil=>exact Zs (by simp) (Zs (by simp) (key _ _ ⟨s02.gb,hs.sm s02,hw.mono s02,ha.mono s02 (Om _),rfl⟩))
  | cons n1 ns=>
   have ll:((n1::ns).map V.str).length=ns.length + 1:=by simp
   have lk:ns.length + 1<=100:=by rw [ll] at z2;omega
   refine Z7 (by simp) ?_;refine ⟨p,3,rfl,hs.sm s02,by decide,by decide,fun r H3 r0 r1' b3 s3=>?_⟩;have st2:=hs.sm s02;have wr2:=hw.mono s02;have gb3:GB p wA H2 H3:=b3.sb.gb;refine ⟨_,rfl,?_⟩;have g3:=b3.sb _ _ (Yd st2 g2) g2;refine Yc (fun c1=>?_) (fun c1=>key _ _ ⟨s02.gb.trans gb3,s3,wr2.sb b3.sb st2,(ha.mono s02 (Om _)).gb gb3 st2 wr2,rfl⟩);refine ⟨r1,_,rfl, .inl (SqL.of g3),p,_,rfl,s3,by omega,by omega,fun r' H4 r4 r5 b4 s4=>?_⟩;obtain ⟨m,v,hv1,hv2⟩:=Je r4 r5;obtain ⟨z,hz,rfl⟩:=Ug hv1;have wr3':=wr2.sb b3.sb st2;refine ⟨_,_,SqL.of (b4.sb _ _ (Yd s3 g3) g3),hv2,sl 2,fun t ht=>?_⟩;have s5:=ZH ht (.tup [.str "name", .str z]);exact q _ _ (.name z) lA (((s02.gb.trans gb3).trans b4.sb.gb).trans s5.gb) (s4.sm s5) ((wr3'.sb b4.sb s3).mono s5) (.inl rfl) (by unfold Bd.dat;exact XY ZC) (by unfold Bd.ok;trivial) (by unfold Bd.dep;exact O7 _) (Kd.name (z4 z hz))
end
end K4
namespace L2
open PySem
theorem GQ.le(q:GQ p w ks hds kv y lA H Q m)(h:m'<=m):GQ p w ks hds kv y lA H Q m':=fun u H' b l h1 h2 h3 h4 h5 h6 h7 h8=>q u H' b l h1 h2 h3 h4 h5 h6 (O6 h7 h) h8
theorem GQ.go(q:GQ p w ks hds kv y lA H Q m)(g:GB p w H H1)(ln:LN H lA l1):GQ p w ks hds kv y l1 H1 Q m:=fun u H' b l h1 h2 h3 h4 h5 h6 h7 h8=>q u H' b l (g.trans h1) h2 h3 (ln.trans h4 g h2 h3) h5 h6 h7 h8
theorem RN:∀ {bs:List Bd}{ts:List Str}{b:Bd}{t:Str},bs.length=ts.length->Bd.brs (bs++ [b]) (ts++ [t])=Bd.brs bs ts++ [.tup [.str t,b.dat]]
 | [], [],b,t,_=>by simp [Bd.brs]
 | [],_::_,_,_,h=>by simp at h
 | _::_, [],_,_,h=>by simp at h
 | c::bs,s::ts,b,t,h=>by
  have ih:=RN (bs:=bs) (ts:=ts) (b:=b) (t:=t) (by simpa using h);simp only [List.cons_append,Bd.brs,ih]
theorem X9:∀ {bs:List Bd}{b:Bd},Bd.oks bs->b.ok->Bd.oks (bs++ [b])
 | [],b,_,h=>by simp [Bd.oks,h]
 | c::bs,b,h,hb=>by
  unfold Bd.oks at h;simp only [List.cons_append,Bd.oks];exact ⟨h.1,X9 h.2 hb⟩
theorem U1:∀ {bs:List Bd}{b:Bd}{m:Nat},Bd.deps bs<=m->b.dep<=m->Bd.deps (bs++ [b])<=m
 | [],b,m,_,h=>by simp [Bd.deps,h]
 | c::bs,b,m,h,hb=>by
  unfold Bd.deps at h;simp only [List.cons_append,Bd.deps];have:=U1 (bs:=bs) (b:=b) (m:=m) (by omega) hb;omega
theorem Wv:∀ {bs:List Bd}{b:Bd},Bd.dats (bs++ [b])=Bd.dats bs++ [b.dat]
 | [],b=>by simp [Bd.dats]
 | c::bs,b=>by simp only [List.cons_append,Bd.dats,Wv (bs:=bs)]
theorem Wr.put(g:Wr H w ks hds lA)(n1:lA≠bl)(n2:w≠bl)(h:H bl=some (.lst xs)):Wr (upd H bl (.lst ys)) w ks hds lA:=by
 obtain ⟨sA,hA,ls,n,h1,h2,h3,h4,h5⟩:=g;have tk:TK H (upd H bl (.lst ys)):=fun b zs e=>by rw [ZE (fun z=>by rw [z,h] at e;cases e)];exact e
 obtain ⟨o,kvs,a1,a2,a3⟩:=h2;obtain ⟨o',kvs',c1,c2,c3⟩:=h3;refine ⟨sA,hA,ls,n,by rw [ZE n2];exact h1,⟨o,kvs,?_,a2,fun y s e=>let ⟨v,e1,e2⟩:=a3 y s e;⟨v,e1,YU tk _ (Shp.st _) e2⟩⟩,⟨o',kvs',?_,c2,fun kv hk=>let ⟨f,ps,k,e1,e2,e3⟩:=c3 kv hk;⟨f,ps,k,e1,YU tk _ (JC _ _) e2,e3⟩⟩,by rw [ZE n1];exact h4,h5⟩
 .rw [ZE (fun z=>by rw [z,h] at a1;cases a1)];exact a1
 .rw [ZE (fun z=>by rw [z,h] at c1;cases c1)];exact c1
theorem AF.put(g:AF H a ns m kv)(h:H bl=some (.lst xs)):AF (upd H bl (.lst ys)) a ns m kv:=by
 obtain ⟨o,a1,a2⟩:=g;exact ⟨o,by rw [ZE (fun z=>by rw [z,h] at a1;cases a1)];exact a1,a2⟩
end L2
namespace K4
open PySem L2
section
variable{w:World}
def spG(n:Nat):Sp:=fun vs H Q _=> ∃ (p w a lA:Addr) (y:Str) (ks:List (Str × Shp)) (hds:Hds) (kv:List (Key × V)) (c d:Str->Nat) (m:Nat),vs= [.ref p, .ref w, .ref a, .str y, .int (n:Nat)]/\Zo H p/\Wr H w ks hds lA/\AF H a (ks.map (·.1)) m kv/\m + n<=12/\KK 30 c d ks/\ks.length<=6/\y∈ks.map (·.1)/\GQ p w ks hds kv y lA H Q (n + 2)
abbrev gps:List Str:= ["stream","world","around","kind","deep"]
theorem KQ:Za ["stream","world","around","kind","deep"] ["stream","world","around","kind","deep"] (ZJ Mq):=Zu
theorem M0(F:Fun K "_law_some" "_law_some" Mq f fd)(DT:Df P w K mg base L "_law_take" ["stream","many"] Yl)(DP:Df P w K mg base L "_law_plain" ["stream","world","around","kind"] (VD 3))(DB:Df P w K mg base L "_law_body" gps (spG n)):
  ZQ P w K mg base CX0 (L + 1) f fd gps (spG n):=by
 refine F.oq KQ fun cdv A outer s H vs Q E hr h=>?_;obtain ⟨p,wA,a,lA,y,ks,hds,kv,c,d,m,rfl,hs,hw,ha,hm,kk,k6,hy,q⟩:=h;refine ⟨_,ZA (Zg (ZN Vt (ZZ DT hr (pa2 (pv 0) ZD)) ZD (ZW _))
   (ZF (ZV (ZZ DP hr (pa4 (pv 0) (pv 1) (pv 2) (pv 3))))) ZO)
  (ZF (ZV (ZZ DB hr (pa5 (pv 0) (pv 1) (pv 2) (pv 3) (pv 4))))),?_⟩
 refine ⟨p,3,rfl,hs,by decide,by decide,fun r H1 r0 r1 b1 s1=>?_⟩;have gb1:GB p wA H H1:=b1.sb.gb;have w1:=hw.sb b1.sb hs;have a1:=ha.gb gb1 hs hw;have dy:=kk.small hy;refine ⟨_,rfl,?_⟩;refine Yc (fun c1=>?_) (fun c1=>?_)
 .exact ⟨p,wA,a,lA,y,ks,hds,kv,c,d,rfl,s1,w1,a1.mono (Same.refl _) (by omega),kk,hy,by omega,(q.go gb1 (.inl rfl)).le (by omega)⟩
 .exact ⟨p,wA,a,lA,y,ks,hds,kv,c,d,m,rfl,s1,w1,a1,hm,kk,k6,hy,q.go gb1 (.inl rfl)⟩
theorem JH:Za ["stream","world","around","kind","deep","flat","own","first","branches","tag"] ["stream","world","around","kind","deep"] (ZJ Xh):=Zu
theorem Ln:List.Nodup [("name" :Str),"world"]:=by decide +kernel
theorem MP{top:Nat}(kk:KK top c d ks)(h:0 < ks.length):∃ y ts,ks[0]?=some (y, .tags ts):=by
 cases ks with
 | nil=>simp at h
 | cons k ks=>
  obtain ⟨y,s⟩:=k;have k1:=kk 0 y s rfl
  cases s with
  | tags ts=>exact ⟨y,ts,rfl⟩
  | pair a b=>exact absurd k1.1 (by simp)
theorem Nr(B:Blt mg)(F:Fun K "_law_choose" "_law_choose" Xh f fd)(DT:Df P w K mg base L "_law_take" ["stream","many"] Yl)(DS:Df P w K mg base L "_law_some" gps (spG n))(DB:Df P w K mg base L "_law_body" gps (spG n)):
  ZQ P w K mg base CX0 (L + 1) f fd gps (spG (n + 1)):=by
 refine F.oq JH fun cdv A outer s H vs Q E hr h=>?_;obtain ⟨p,wA,a,lA,y,ks,hds,kv,c,d,m,rfl,hs,hw,ha,hm,kk,k6,hy,q⟩:=h;have hu:=Y3 hr;refine ⟨_,ZA (Xj (i0:=5) ["name"] [1] JH.nd rfl (Or.inl rfl) (Jo (Zd hu (pv 1) ZY (fun _ _=>rfl))) (YO (i:=0) (by decide)) (fun cl C fp s H=>ZL 0 Ln rfl (Or.inl rfl) (Or.inr rfl))
   (fun cl C fp s H=>ZN YN (ZT (r:=Jm K) Zc (Zd hu (Zd hu (pv 1) ZY (fun _ _=>rfl)) (pv 0) (fun _ _=>rfl)) ZD) ZY (ZW _)) (fun cl C fp s H=>pv 0))
  (ZA (ZM 6 JH.nd (ZT Zh (pv 5) (ZZ DT hr (pa2 (pv 0) (ZU ZP rfl B.len PySem.boot_len (pa1 (pv 5))))) (fun _ _=>rfl)))
  (ZA (ZM 7 JH.nd (ZZ DS hr (pa5 (pv 0) (pv 1) (pv 2) (pv 6) (ZX Va (pv 4) ZD))))
  (ZA (ZM 8 JH.nd (Zp YK))
  (ZA (Yb PassesOwn.never rfl (JA (ZT Zc (Zd hu (Zd hu (pv 1) ZY (fun _ _=>rfl)) (pv 6) (fun _ _=>rfl)) ZD)) (ZL 9 JH.nd)
   (ZF (Ye (JI PySem.F.plainAttrs_list PySem.F.slot_list_append PySem.F.type_list_append Yp (pv 8) (pa1 (Zi (pa2 (pv 9) (ZZ DB hr (pa5 (pv 0) (pv 1) (pv 2) (pv 3) (ZX Va (pv 4) ZD))))))))))
  (ZF (ZV (Zi (pa3 ZY (pv 7) (Zm Yq rfl B.tuple Yh (pa1 (pv 8))))))))))),?_⟩
 dsimp only [Yo,Cx.nox,Cx.wish];show let a:=_;let b:=_;let c:=ZK (Vg _ _ b) a;let d:=ZK _ c;let e:=ZK _ d;let f:=ZK _ e;ZK _ f _ _ _
 intros
 obtain ⟨sA,hA,ls,nn,hW,hS,_⟩:=id hw;obtain ⟨o,kvs,h1,h2,h3⟩:=id hS;have kl:=G3 h2;have en:(((n + 1:Nat):Int) - 1)=((n:Nat):Int):=by omega
 refine ⟨_,Wr.shapes hW,sA,o,kvs,rfl,h1,?_⟩;refine V0 kvs.length (ZI (by omega)) (fun i vs H'=>H'=H/\vs.length<=i/\(0 < i->0 < vs.length)/\∃ ns:List Str,vs=ns.map V.str/\∀ z∈ns,∃ ts,Yw ks z=some (.tags ts)) ⟨rfl,Om _,fun z=>absurd z (by decide), [],rfl,fun z hz=>nomatch hz⟩ (fun i vs H' z=>z.2.1) ?_ ?_ ?_ ?_
 .rintro i vs H' hi ⟨rfl,_⟩
  exact ⟨h1,hi⟩
 .rintro vs H' ⟨rfl,_⟩
  exact ⟨h1,rfl⟩
 .rintro i vs H' x H'' R hi ⟨rfl,z2,z3,ns,rfl,z4⟩ yl rT rF
  obtain ⟨rfl,kv1,hkv,rfl⟩:=yl;obtain ⟨x,s,hx,ek⟩:=MK h2 hkv;rw [ek];have hxm:x∈ks.map (·.1):=O1.mpr ⟨(x,s),Oo hx,rfl⟩;obtain ⟨sh,hsh⟩:=Ys hxm;obtain ⟨v,hv,hvd⟩:=h3 x sh hsh;refine ⟨_,Wr.shapes hW,v, .inl ⟨kvs,Sum.inr x, .inr ⟨o,h1⟩,rfl,hv.symm⟩,?_⟩
  cases sh with
  | tags ts=>
   obtain ⟨ps,l,rfl,hp,hl⟩:=Vx hvd;refine ⟨_,_,SqT.of hp,rfl,rfl,_,rfl,Z7 (by decide +kernel) (rT _ _ ⟨rfl,by simp at z2 |-;omega,fun _=>by simp,ns++ [x],by rw [Oq];rfl,fun z hz=>?_⟩)⟩;rcases O2.mp hz with hz | hz
   .exact z4 z hz
   .cases Ox.mp hz
    exact ⟨ts,hsh⟩
  | pair e g=>
   obtain ⟨ps,rfl,hp⟩:=VP hvd;refine ⟨_,_,SqT.of hp,rfl,rfl,_,rfl,Zs (by decide +kernel) (rF _ ⟨rfl,by omega,fun _=>?_,ns,rfl,z4⟩)⟩
   cases i with
   | zero=>
    obtain ⟨y0,ts,h0⟩:=MP kk (by omega);have hx2:=Oy (h0.symm.trans hx);injection hx2 with e1 e2
    have e0:Yw ks y0=some (.tags ts):=by
     cases ks with
     | nil=>simp at h0
     | cons k ks=>
      have h0':k=(y0,Shp.tags ts):=Oy h0;subst h0';unfold Yw;rw [List.find?_cons];simp
    rw [<-e1,e0] at hsh;cases hsh
   | succ i=>exact z3 (Nat.succ_pos _)
 rintro vs H' r1 ⟨rfl,z2,z3,ns,rfl,z4⟩ hr1;have ll:(ns.map V.str).length=ns.length:=Oh _;have l0:=z3 (by rw [kl];obtain ⟨k,hk,_⟩:=O1.mp hy;exact List.length_pos_of_mem hk);refine up_in hr1 _ fun H1 s1 g1=>?_;have st1:=hs.sm s1;have wr1:=hw.mono s1;have af1:=ha.mono s1 (Om _);refine ⟨r1,_,rfl, .inl (SqL.of g1),p,_,rfl,st1,by omega,by omega,fun r H2 r0 r1' b2 s2=>?_⟩;obtain ⟨mm,v,hv1,hv2⟩:=Je r0 r1';obtain ⟨own,hown,rfl⟩:=Ug hv1;obtain ⟨ts,hts⟩:=z4 own hown;have k1:=kk.at hts;obtain ⟨t1,t2,_⟩:=k1;have ho:own∈ks.map (·.1):=O1.mpr ⟨_,UQ hts,rfl⟩;refine ⟨_,_,SqL.of (b2.sb _ _ (Yd st1 g1) g1),hv2,?_⟩;have gb2:GB p wA H1 H2:=b2.sb.gb;have wr2:=wr1.sb b2.sb st1;have af2:=af1.gb gb2 st1 wr1;refine ⟨p,wA,a,lA,own,ks,hds,kv,c,d,m,by dsimp only;rw [en];rfl,s2,wr2,af2,by omega,kk,k6,ho,fun u1 H3 b1 l3 gb3 st3 wr3 ln3 hu3 ok3 dp3 kd3=>?_⟩;refine ⟨sl 0,fun bl hbl=>?_⟩;have s4:=ZH hbl (.lst []);have g4:upd H3 bl (.lst []) bl=some (.lst []):=ZC;have nbp:=st3.ne hbl
 have nbw:bl≠wA:=fun e=>by
  obtain ⟨_,_,_,_,h,_⟩:=id wr3;rw [e,h] at hbl;cases hbl
 have nbl:bl≠l3:=fun e=>by
  obtain ⟨ls,h⟩:=wr3.la;rw [e,h] at hbl;cases hbl
 have g03:GB p wA H' H3:=(s1.gb.trans gb2).trans gb3;have hn:H' bl=none:=g03.free nbp nbw hbl;have ln4:LN H' lA l3:=LN.trans (.inl rfl) ln3 (s1.gb.trans gb2) st3 wr3;generalize upd H3 bl (.lst [])=H4 at s4 g4 |-;have st4:=st3.sm s4;have wr4:=wr3.mono s4;have gb4:GB p wA H' H4:=((s1.gb.trans gb2).trans gb3).trans s4.gb;have af4:=(af2.gb gb3 s2 wr2).mono s4 (Om _);obtain ⟨sA4,hA4,ls4,nn4,hW4,hS4,_⟩:=id wr4;obtain ⟨o4,kvs4,q1,q2,q3⟩:=id hS4;obtain ⟨v4,hv4,hvd4⟩:=q3 own _ hts;obtain ⟨ps,l,rfl,hp,hl⟩:=Vx hvd4;refine ⟨_,Wr.shapes hW4,_, .inl ⟨kvs4,Sum.inr own, .inr ⟨o4,q1⟩,rfl,hv4.symm⟩,_,_,SqT.of hp,rfl,⟨_,SqT.of hl⟩,?_⟩
 let I:Nat->St->Hp->Prop:=fun i U Hi=> ∃ li,li≠bl/\LN H' lA li/\GB p wA H' Hi/\Zo Hi p/\Wr Hi wA ks hds li/\AF Hi a (ks.map (·.1)) m kv/\Hi l=some (.tup (ts.map V.str))/\Has Hi u1 b1.dat/\∃ zs bs,Hi bl=some (.lst zs)/\zs.length=i/\HasL Hi zs (Bd.brs bs (ts.take i))/\bs.length=i/\Bd.oks bs/\Bd.deps bs<=n + 2/\(∀ b∈bs,Kd ks hds kv y b)/\∃ z9,
  U= [some (.ref p),some (.ref wA),some (.ref a),some (.str y),some (.int ((n + 1:Nat):Int)),some (.ref r1),some (.str own),some u1,some (.ref bl),z9]
 refine Uy (xs:=ts.map V.str) I ⟨l3,Ne.symm nbl,ln4,gb4,st4,wr4,af4,hl,hu3.mono s4, [], [],g4,rfl,by simp [Bd.brs,HasL.nil],rfl,by unfold Bd.oks;trivial,by unfold Bd.deps;exact O7 _,(fun b hb=>nomatch hb),_,rfl⟩ (fun i U Hi _ z=>let ⟨_,_,_,_,_,_,_,h,_⟩:=z;SqT.of h) ?_ ?_
 .rintro BB RR i x U Hi hx ⟨li,nli,lni,gi,si,wi,ai,hli,hui,zs,bs,hbl,lz,hzs,lb,okb,db,kdb,z9,rfl⟩
  rw [On] at hx
  cases ht:ts[i]? with
  | none=>rw [ht] at hx;cases hx
  | some tg=>
   rw [ht] at hx;cases hx;have it:i < ts.length:=(Ol.mp ht).1;refine ⟨.inl ⟨rfl,_,SqL.of hbl⟩,p,wA,a,li,y,ks,hds,kv,c,d,m,by dsimp only;rw [en];rfl,si,wi,ai,by omega,kk,k6,hy,fun u2 H5 b2 l5 gb5 st5 wr5 ln5 hu5 ok5 dp5 kd5=>?_⟩;refine ⟨sl 2,fun tt htt=>?_⟩;refine up_in htt _ fun H6 s6 g6=>?_;have hb6:=s6 _ _ (gb5 _ _ nbp nbw hbl);refine ⟨bl,zs,_,rfl,rfl,hb6,ZI (by omega),?_⟩;have tk6:TK Hi H6:=fun b xs h=>s6 _ _ (gb5.tk si wi b xs h)
   have nl5:l5≠bl:=fun e=>by
    rcases ln5 with z | z
    .exact nli (z.symm.trans e)
    .rw [e,hbl] at z;cases z
   have gb7:GB p wA H' (upd H6 bl (.lst (zs++ [.ref tt]))):=fun b o n1 n2 e=>by
    rw [ZE (ZG e hn)];exact ((gi.trans gb5).trans s6.gb) b o n1 n2 e
   have tk7:TK H6 (upd H6 bl (.lst (zs++ [.ref tt]))):=fun b xs h=>by rw [ZE (fun e=>by rw [e,hb6] at h;cases h)];exact h
   have wr6:=wr5.mono s6;have st6:=st5.sm s6;have wr7:Wr (upd H6 bl (.lst (zs++ [.ref tt]))) wA ks hds l5:=wr6.put nl5 (Ne.symm nbw) hb6;have af7:AF (upd H6 bl (.lst (zs++ [.ref tt]))) a (ks.map (·.1)) m kv:=((ai.gb gb5 si wi).mono s6 (Om _)).put hb6;have tk8:TK Hi (upd H6 bl (.lst (zs++ [.ref tt]))):=fun b xs h=>tk7 _ _ (tk6 _ _ h);refine ⟨l5,nl5,lni.trans ln5 gi st5 wr5,gb7,st6.keep (ZE (Ne.symm nbp)),wr7,af7,tk8 _ _ hli,YU tk8 _ (Bd.st _) hui,zs++ [.ref tt],bs++ [b2],ZC,by simp [lz],?_,by simp [lb],X9 okb ok5,U1 db dp5,EZ kdb kd5,_,rfl⟩;rw [show ts.take (i + 1)=ts.take i++ [tg] from take_snoc ht,RN (by rw [lb,Ou];omega)];refine HasL.append (Zj tk8 _ (TQ (Bd.sts bs)) hzs) (HasL.one (Zk (tk7 _ _ g6) (HasL.cons Zn (HasL.one (YU (fun b xs h=>tk7 _ _ (s6 _ _ h)) _ (Bd.st _) hu5)))))
 .rintro U Hi ⟨li,nli,lni,gi,si,wi,ai,hli,hui,zs,bs,hbl,lz,hzs,lb,okb,db,kdb,z9,rfl⟩
  rw [Oh] at lz lb hzs;rw [List.take_length] at hzs;refine ⟨bl,zs,rfl, .inl ⟨SqL.of hbl,fun t2 ht2=>?_⟩⟩;refine up_in ht2 _ fun H6 s6 g6=>?_;refine ⟨sl 3,fun t3 ht3=>?_⟩;have s7:=ZH ht3 (.tup [.str "choose",u1, .ref t2]);refine q _ _ (.choose b1 ts bs) li ((gi.trans s6.gb).trans s7.gb) ((si.sm s6).sm s7) ((wi.mono s6).mono s7) lni ?_ (by unfold Bd.ok;exact ⟨ok3,by omega,by omega,okb⟩) (by unfold Bd.dep;omega) (Kd.choose hts kd3 lb kdb);unfold Bd.dat;exact Zk ZC (HasL.cons Zn (HasL.cons ((hui.mono s6).mono s7) (HasL.one (Zk (s7 _ _ g6) ((hzs.mono s6).mono s7)))))
end
end K4
namespace L2
open PySem
theorem MN(h:Has H v (hdD ps k)):∃ t l xs,v= .ref t/\H t=some (.tup [.ref l, .str k])/\H l=some (.tup xs)/\HasL H xs (ps.map fun p=> .tup [.str p.1, .str p.2]):=by
 unfold hdD at h;obtain ⟨t,ys,rfl,ht,hl⟩:=Yg h;obtain ⟨x1,r1,rfl,h1,hlA⟩:=Z0 hl;obtain ⟨x2,r2,rfl,h2,hlB⟩:=Z0 hlA;obtain rfl:=VY hlB;obtain ⟨l,xs,rfl,h3,h4⟩:=Yg h1;obtain rfl:=has_str h2;exact ⟨t,l,xs,rfl,ht,h3,h4⟩
theorem UZ(h:Has H v (.tup [.str a, .str b])):∃ t,v= .ref t/\H t=some (.tup [.str a, .str b]):=by
 obtain ⟨t,ys,rfl,ht,hl⟩:=Yg h;obtain ⟨x1,r1,rfl,h1,hlA⟩:=Z0 hl;obtain ⟨x2,r2,rfl,h2,hlB⟩:=Z0 hlA;obtain rfl:=VY hlB;obtain rfl:=has_str h1;obtain rfl:=has_str h2;exact ⟨t,rfl,ht⟩
end L2
namespace K4
open PySem L2
section
theorem Wf:Za ["stream","world","around","kind","deep","some","f","given","name","own"] ["stream","world","around","kind","deep"] (ZJ E5):=Zu
theorem Ks:List.Nodup [("f" :Str),"world","kind"]:=by decide +kernel
theorem Kk(B:Blt mg)(F:Fun K "_law_ask" "_law_ask" E5 f fd)(DT:Df P w K mg base (L + 2) "_law_take" ["stream","many"] Yl)(DP:Df P w K mg base (L + 2) "_law_plain" ["stream","world","around","kind"] (VD 3))(DS:Df P w K mg base (L + 2) "_law_some" gps (spG n)):
  ZQ P w K mg base CX0 (L + 2 + 1) f fd gps (spG (n + 1)):=by
 refine F.oq Wf fun cdv A outer s H vs Q E hr h=>?_;obtain ⟨p,wA,a,lA,y,ks,hds,kv,c,d,m,rfl,hs,hw,ha,hm,kk,k6,hy,q⟩:=h;have hu:=Y3 hr;have hr2:=hr.mono (show 2<=L + 2 by omega);refine ⟨_,ZA (Xj (i0:=5) ["f"] [1,3] Wf.nd rfl (Or.inl rfl) (Jo (Zd hu (pv 1) ZY (fun _ _=>rfl))) (YO (i:=0) (by decide)) (fun cl C fp s H=>ZL 0 Ks rfl (Or.inl rfl) (Or.inr rfl))
   (fun cl C fp s H=>ZN YN (ZT (r:=Jm K) Zc (Zd hu (Zd hu (pv 1) ZY (fun _ _=>rfl)) (pv 0) (fun _ _=>rfl)) ZD) (pv 2) (ZW _)) (fun cl C fp s H=>pv 0))
  (ZA (Zg (ZN (X8 hr2) (pv 5) (Zp YK) (ZW _)) (ZF (ZV (ZZ DP hr (pa4 (pv 0) (pv 1) (pv 2) (pv 3))))) ZO)
  (ZA (ZM 6 Wf.nd (ZT Zh (pv 5) (ZZ DT hr (pa2 (pv 0) (ZU ZP rfl B.len PySem.boot_len (pa1 (pv 5))))) (fun _ _=>rfl)))
  (ZA (ZM 7 Wf.nd (Zp YK))
  (ZA (Yb PassesOwn.never rfl (JA (ZT Zc (Zd hu (Zd hu (pv 1) ZY (fun _ _=>rfl)) (pv 6) (fun _ _=>rfl)) ZD)) (Yr (n:=2) rfl (Zf (ZL 8 Wf.nd) (Zf (ZL 9 Wf.nd) YX)))
   (ZF (Ye (JI PySem.F.plainAttrs_list PySem.F.slot_list_append PySem.F.type_list_append Yp (pv 7) (pa1 (ZZ DS hr (pa5 (pv 0) (pv 1) (pv 2) (pv 9) (ZX Va (pv 4) ZD))))))))
  (ZF (ZV (Zi (pa3 ZY (pv 6) (Zm Yq rfl B.tuple Yh (pa1 (pv 7))))))))))),?_⟩
 dsimp only [Yo,Cx.nox,Cx.wish];show let a:=_;let b:=_;let c:=ZK (Vg _ _ b) a;let d:=ZK _ c;let e:=ZK _ d;let f:=_;let g:=ZK (Zv _ f _) e;ZK _ g _ _ _
 intros
 obtain ⟨sA,hA,ls,nn,hW,hS,hH,hL,l3⟩:=id hw;obtain ⟨o,kvs,h1,h2,h3⟩:=id hH;have en:(((n + 1:Nat):Int) - 1)=((n:Nat):Int):=by omega
 refine ⟨_,Wr.heads hW,hA,o,kvs,rfl,h1,?_⟩;refine V0 kvs.length (ZI (by omega)) (fun i vs H'=>H'=H/\vs.length<=i/\∃ ns:List Str,vs=ns.map V.str/\∀ z∈ns,∃ v ps,Zl kvs (Sum.inr z)=some v/\Has H v (hdD ps y)/\ps.length<=3/\(∀ p∈ps,p.2∈ks.map (·.1))/\hds z=some (ps,y)) ⟨rfl,Om _, [],rfl,(fun z hz=>nomatch hz)⟩ (fun i vs H' z=>z.2.1) ?_ ?_ ?_ ?_
 .rintro i vs H' hi ⟨rfl,_⟩
  exact ⟨h1,hi⟩
 .rintro vs H' ⟨rfl,_⟩
  exact ⟨h1,rfl⟩
 .rintro i vs H' x H'' R hi ⟨rfl,z2,ns,rfl,z4⟩ yl rT rF
  obtain ⟨rfl,kv1,hkv,rfl⟩:=yl;have hkm:=Oo hkv;obtain ⟨x,_,_,ek,_⟩:=h3 kv1 hkm;obtain ⟨v,hv⟩:=T8 hkm;rw [ek] at hv |-;obtain ⟨kv2,m2,e2,e3⟩:=Ta hv;obtain ⟨x2,ps,k,e4,hh,p3,pk,_,hx2⟩:=h3 kv2 m2;rw [e3] at hh;rw [e2] at e4;cases e4;have hh0:=hh;obtain ⟨t,l,xs,rfl,ht,hl,hxs⟩:=MN hh;refine ⟨_,Wr.heads hW,_, .inl ⟨kvs,Sum.inr x, .inr ⟨o,h1⟩,rfl,hv.symm⟩,_,_,SqT.of ht,rfl,rfl,_,rfl,?_⟩;refine Yc (fun c1=>rT _ _ ⟨rfl,by simp at z2 |-;omega,ns++ [x],by rw [Oq];rfl,fun z hz=>?_⟩) (fun c1=>rF _ ⟨rfl,by omega,ns,rfl,z4⟩);rcases O2.mp hz with hz | hz
  .exact z4 z hz
  .cases Ox.mp hz
   have c2:=of_decide_eq_true c1;have c3:k=y:=by injection c2
   subst c3;exact ⟨_,ps,hv,hh0,p3,pk,hx2⟩
 rintro vs H' r1 ⟨rfl,z2,ns,rfl,z4⟩ hr1;have ll:(ns.map V.str).length=ns.length:=Oh _;refine up_in hr1 _ fun H1 s1 g1=>?_;refine ⟨sl 0,fun e1 he1=>?_⟩;have s2:=ZH he1 (.lst []);have g2:=s2 _ _ g1;have ge:upd H1 e1 (.lst []) e1=some (.lst []):=ZC;generalize upd H1 e1 (.lst [])=H2 at s2 g2 ge |-;have s02:=s1.trans s2;have st2:=hs.sm s02;have wr2:=hw.mono s02;have af2:=ha.mono s02 (Om _);have dy:=kk.small hy;refine ⟨.lst (ns.map Dat.str), .lst [],Kw g2,YG ge HasL.nil,Xt _,_,rfl,?_⟩;rw [Gv]
 cases ns with
 | nil=>
  refine Z7 (by simp) ?_;exact ⟨p,wA,a,lA,y,ks,hds,kv,c,d,rfl,st2,wr2,af2.mono (Same.refl _) (by omega),kk,hy,by omega,(q.go s02.gb (.inl rfl)).le (by omega)⟩
 | cons n1 ns=>
  have l1:((n1::ns).map V.str).length=ns.length + 1:=by simp
  rw [l1] at z2;refine Zs (by simp) ?_;refine ⟨r1,_,rfl, .inl (SqL.of g2),p,_,rfl,st2,by omega,by omega,fun r H3 r0 r1' b3 s3=>?_⟩;obtain ⟨mm,v,hv1,hv2⟩:=Je r0 r1';obtain ⟨fn,hfn,rfl⟩:=Ug hv1;obtain ⟨v,ps,hv,hh,p3,pk,hfd⟩:=z4 fn hfn;have gb3:GB p wA H2 H3:=b3.sb.gb;have wr3:=wr2.sb b3.sb st2;have af3:=af2.gb gb3 st2 wr2;refine ⟨_,_,SqL.of (b3.sb _ _ (Yd st2 g2) g2),hv2,?_⟩;refine ⟨sl 0,fun bl hbl=>?_⟩;have s4:=ZH hbl (.lst []);have g4:upd H3 bl (.lst []) bl=some (.lst []):=ZC;have nbp:=s3.ne hbl
  have nbw:bl≠wA:=fun e=>by
   obtain ⟨_,_,_,_,h,_⟩:=id wr3;rw [e,h] at hbl;cases hbl
  have nbl:bl≠lA:=fun e=>by
   obtain ⟨ls,h⟩:=wr3.la;rw [e,h] at hbl;cases hbl
  have g03:GB p wA H' H3:=s02.gb.trans gb3;have hn:H' bl=none:=g03.free nbp nbw hbl;generalize upd H3 bl (.lst [])=H4 at s4 g4 |-;have tk4:TK H' H4:=fun b xs h=>s4 _ _ (g03.tk hs hw _ _ h);have hW4:=s4 _ _ (b3.sb _ _ (hw.ne hs) (s02 _ _ hW));have h14:=s4 _ _ (b3.sb _ _ (Yv hs h1) (s02 _ _ h1));obtain ⟨t,l,xs,rfl,ht,hl,hxs⟩:=MN (YU tk4 _ (JC _ _) hh);have lx:=hxs.length;rw [Oh] at lx;refine ⟨_,Wr.heads hW4,_, .inl ⟨kvs,Sum.inr fn, .inr ⟨o,h14⟩,rfl,hv.symm⟩,_,_,SqT.of ht,rfl,⟨_,SqT.of hl⟩,?_⟩
  let I:Nat->St->Hp->Prop:=fun i U Hi=> ∃ li,li≠bl/\LN H' lA li/\GB p wA H' Hi/\Zo Hi p/\Wr Hi wA ks hds li/\AF Hi a (ks.map (·.1)) m kv/\Hi l=some (.tup xs)/\HasL Hi xs (ps.map fun p=> .tup [.str p.1, .str p.2])/\∃ zs bs,Hi bl=some (.lst zs)/\zs.length=i/\HasL Hi zs (Bd.dats bs)/\bs.length=i/\Bd.oks bs/\Bd.deps bs<=n + 2/\(∀ (j:Nat) (b:Bd),bs[j]?=some b->∀ p,ps[j]?=some p->Kd ks hds kv p.2 b)/\∃ z8 z9,
   U= [some (.ref p),some (.ref wA),some (.ref a),some (.str y),some (.int ((n + 1:Nat):Int)),some (.ref r1),some (.str fn),some (.ref bl),z8,z9]
  refine Uy (xs:=xs) I ⟨lA,Ne.symm nbl, .inl rfl,g03.trans s4.gb,s3.sm s4,wr3.mono s4,af3.mono s4 (Om _),hl,hxs, [], [],g4,rfl,by simp [Bd.dats,HasL.nil],rfl,by unfold Bd.oks;trivial,by unfold Bd.deps;exact O7 _,(fun j b e=>nomatch e),_,_,rfl⟩ (fun i U Hi _ z=>let ⟨_,_,_,_,_,_,_,h,_⟩:=z;SqT.of h) ?_ ?_
  .rintro BB RR i x U Hi hx ⟨li,nli,lni,gi,si,wi,ai,hli,hxi,zs,bs,hbl,lz,hzs,lb,okb,db,kdb,z8,z9,rfl⟩
   obtain ⟨dd,hd1,hd2⟩:=hxi.get hx;rw [On] at hd1
   cases hp:ps[i]? with
   | none=>rw [hp] at hd1;cases hd1
   | some pr=>
    rw [hp] at hd1;cases hd1;have ip:i < ps.length:=(Ol.mp hp).1;obtain ⟨t2,rfl,ht2⟩:=UZ hd2;have ho:=pk pr (Oo hp);refine ⟨_,SqT.of ht2,rfl,?_⟩;refine ⟨.inl ⟨rfl,_,SqL.of hbl⟩,p,wA,a,li,pr.2,ks,hds,kv,c,d,m,by dsimp only;rw [en];rfl,si,wi,ai,by omega,kk,k6,ho,fun u2 H5 b2 l5 gb5 st5 wr5 ln5 hu5 ok5 dp5 kd5=>?_⟩;have hb5:=gb5 _ _ nbp nbw hbl;refine ⟨bl,zs,_,rfl,rfl,hb5,ZI (by omega),?_⟩
    have nl5:l5≠bl:=fun e=>by
     rcases ln5 with z | z
     .exact nli (z.symm.trans e)
     .rw [e,hbl] at z;cases z
    have gb7:GB p wA H' (upd H5 bl (.lst (zs++ [u2]))):=fun b o n1 n2 e=>by
     rw [ZE (ZG e hn)];exact (gi.trans gb5) b o n1 n2 e
    have tk7:TK H5 (upd H5 bl (.lst (zs++ [u2]))):=fun b xs h=>by rw [ZE (fun e=>by rw [e,hb5] at h;cases h)];exact h
    have tk8:TK Hi (upd H5 bl (.lst (zs++ [u2]))):=fun b xs h=>tk7 _ _ (gb5.tk si wi _ _ h);refine ⟨l5,nl5,lni.trans ln5 gi st5 wr5,gb7,st5.keep (ZE (Ne.symm nbp)),wr5.put nl5 (Ne.symm nbw) hb5,(ai.gb gb5 si wi).put hb5,tk8 _ _ hli,?_,zs++ [u2],bs++ [b2],ZC,by simp [lz],?_,by simp [lb],X9 okb ok5,U1 db dp5,D9 kdb (fun p e=>by rw [lb,hp] at e;cases Oy e;exact kd5),_,_,rfl⟩
    .have:=JC ps y
     unfold hdD Dat.st Dat.sts at this;rw [O4] at this;refine Zj tk8 _ ?_ hxi;have t1:=this.1;unfold Dat.st at t1;exact t1
    .rw [Wv]
     exact HasL.append (Zj tk8 _ (Bd.sts bs) hzs) (HasL.one (YU tk7 _ (Bd.st _) hu5))
  .rintro U Hi ⟨li,nli,lni,gi,si,wi,ai,hli,hxi,zs,bs,hbl,lz,hzs,lb,okb,db,kdb,z8,z9,rfl⟩
   refine ⟨bl,zs,rfl, .inl ⟨SqL.of hbl,fun t2 ht2=>?_⟩⟩;refine up_in ht2 _ fun H6 s6 g6=>?_;refine ⟨sl 3,fun t3 ht3=>?_⟩;have s7:=ZH ht3 (.tup [.str "ask", .str fn, .ref t2]);refine q _ _ (.ask fn bs) li ((gi.trans s6.gb).trans s7.gb) ((si.sm s6).sm s7) ((wi.mono s6).mono s7) lni ?_ (by unfold Bd.ok;exact ⟨by omega,okb⟩) (by unfold Bd.dep;omega) (Kd.ask hfd (by omega) (fun j b p e1 e2=>kdb j b e1 p e2));unfold Bd.dat;exact Zk ZC (HasL.cons Zn (HasL.cons Zn (HasL.one (Zk (s7 _ _ g6) ((hzs.mono s6).mono s7)))))
end
end K4
namespace L2
open PySem
theorem Same.putN(s:Same H0 H)(h:H0 p=none):Same H0 (upd H p o):=fun b u e=>by
 rw [ZE (ZG e h)];exact s b u e
def sgD(q:Str × Str):Dat:= .tup [.str q.1, .str q.2]
theorem Bb:∀ qs:List (Str × Str),Dat.sts (qs.map sgD)=true
 | []=>by unfold List.map Dat.sts;rfl
 | q::qs=>by rw [O0];unfold Dat.sts;rw [Bb qs];simp [sgD,Dat.st,Dat.sts]
theorem KP(qs:List (Str × Str)):(Dat.lst (qs.map sgD)).dep<=2:=by
 have:∀ qs:List (Str × Str),Dat.deps (qs.map sgD)<=1:=by
  intro qs
  induction qs with
  | nil=>unfold List.map Dat.deps;exact O7 _
  | cons q qs ih=>
   rw [O0];unfold Dat.deps;have e:(sgD q).dep=1:=by simp [sgD,Dat.dep,Dat.deps]
   omega
 have:=this qs;unfold Dat.dep;omega
def PtK(ks:List (Str × Shp))(y:Str)(q:Str × Str):Prop:=(q.1="one" /\∃ b,Yw ks q.2=some (.pair y b)) \/ (q.1="other" /\∃ a,Yw ks q.2=some (.pair a y))
def SM(ks:List (Str × Shp))(y:Str)(H:Hp)(bl:Addr)(ns:List Str)(k:Nat)(Hi:Hp):Prop:=Same H Hi/\∃ (zs:List V) (qs:List (Str × Str)),Hi bl=some (.lst zs)/\zs.length=qs.length/\zs.length<=k/\HasL Hi zs (qs.map sgD)/\∀ q∈qs,PtK ks y q/\q.2∈ns
theorem SM.app(s:SM ks y H bl ns k Hi)(hn:H bl=none)(h1:PtK ks y (sg,nm))(h2:nm∈ns)(ht:Hi tt=none)(hz:Hi bl=some (.lst zs)):
  SM ks y H bl ns (k + 1) (upd (upd Hi tt (.tup [.str sg, .str nm])) bl (.lst (zs++ [.ref tt]))):=by
 obtain ⟨sm,zs',qs,a1,a2,a3,a4,a5⟩:=s;rw [hz] at a1;have a1':=Oy a1;injection a1' with e;subst e;have s1:=ZH ht (.tup [.str sg, .str nm]);have g1:upd Hi tt (.tup [.str sg, .str nm]) tt=some (.tup [.str sg, .str nm]):=ZC;have hb:=s1 _ _ hz;generalize upd Hi tt (.tup [.str sg, .str nm])=H6 at s1 g1 hb |-;have tk7:TK H6 (upd H6 bl (.lst (zs++ [.ref tt]))):=fun b xs h=>by rw [ZE (fun e=>by rw [e,hb] at h;cases h)];exact h
 refine ⟨(sm.trans s1).putN hn,zs++ [.ref tt],qs++ [(sg,nm)],ZC,by simp [a2],by simp;omega,?_,fun q hq=>?_⟩
 .rw [Oq]
  exact HasL.append (Zj (fun b xs h=>tk7 _ _ (s1 _ _ h)) _ (Bb qs) a4) (HasL.one (XY (tk7 _ _ g1)))
 .rcases O2.mp hq with hq | hq
  .exact a5 q hq
  .cases Ox.mp hq
   exact ⟨h1,h2⟩
theorem SM.up(s:SM ks y H bl ns k Hi)(h:k<=k'):SM ks y H bl ns k' Hi:=let ⟨a,zs,qs,b,c,d,e⟩:=s;⟨a,zs,qs,b,c,O6 d h,e⟩
end L2
namespace K4
open PySem L2
section
theorem Jv:Za ["stream","world","around","kind","deep","some","name","shape","sign","own"] ["stream","world","around","kind","deep"] (ZJ Gk):=Zu
theorem DQ(B:Blt mg)(F:Fun K "_law_part" "_law_part" Gk f fd)(DT:Df P w K mg base (L + 3) "_law_take" ["stream","many"] Yl)(DC:Df P w K mg base (L + 3) "_law_choose" gps (spG (n + 1)))(DB:Df P w K mg base (L + 3) "_law_body" gps (spG n)):
  ZQ P w K mg base CX0 (L + 3 + 1) f fd gps (spG (n + 1)):=by
 refine F.oq Jv fun cdv A outer s H vs Q E hr h=>?_;obtain ⟨p,wA,a,lA,y,ks,hds,kv,c,d,m,rfl,hs,hw,ha,hm,kk,k6,hy,q⟩:=h;have hu:=Y3 hr;have hr3:=hr.mono (show 3<=L + 3 by omega);refine ⟨_,ZA (ZM 5 Jv.nd (Zp YK))
  (ZA (Yb PassesOwn.never rfl (Jo (Zd hu (pv 1) ZY (fun _ _=>rfl))) (ZL 6 Jv.nd)
   (ZA (ZM 7 Jv.nd (Zd hu (Zd hu (pv 1) ZY (fun _ _=>rfl)) (pv 6) (fun _ _=>rfl)))
   (ZA (Zg (PW.pt (Vo (ZN YN (ZT Zc (pv 7) ZD) ZY (ZW _)) (VE (ZN YN (ZT Zc (pv 7) ZD) (pv 3) (ZW _)))))
    (ZF (Ye (JI PySem.F.plainAttrs_list PySem.F.slot_list_append PySem.F.type_list_append Yp (pv 5) (pa1 (Zi (pa2 ZY (pv 6))))))) ZO)
   (ZF (Zg (PW.pt (Vo (ZN YN (ZT Zc (pv 7) ZD) ZY (ZW _)) (VE (ZN YN (ZT Zc (pv 7) ZD) (pv 3) (ZW _)))))
    (ZF (Ye (JI PySem.F.plainAttrs_list PySem.F.slot_list_append PySem.F.type_list_append Yp (pv 5) (pa1 (Zi (pa2 ZY (pv 6))))))) ZO)))))
  (ZA (Zg (ZN (X8 hr3) (pv 5) (Zp YK) (ZW _)) (ZF (ZV (ZZ DC hr (pa5 (pv 0) (pv 1) (pv 2) (pv 3) (pv 4))))) ZO)
  (ZA (V9 (ZT Zh (pv 5) (ZZ DT hr (pa2 (pv 0) (ZU ZP rfl B.len PySem.boot_len (pa1 (pv 5))))) (fun _ _=>rfl)) (Yr (n:=2) rfl (Zf (ZL 8 Jv.nd) (Zf (ZL 9 Jv.nd) YX))))
  (ZF (ZV (Zi (pa2 (pv 8) (ZZ DB hr (pa5 (pv 0) (pv 1) (pv 2) (pv 9) (ZX Va (pv 4) ZD)))))))))),?_⟩
 dsimp only [Yo,Cx.nox,Cx.wish];show let a:=_;let b:=ZK _ a;let c:=_;let d:=ZK (Zv _ c _) b;let e:=_;let f:=Zv _ e _;let g:=_;let h:=ZK (Zv _ g _) f;let i:=ZK _ h;let j:=ZK (Vg _ _ i) d;ZK _ j _ _ _
 intros
 have en:(((n + 1:Nat):Int) - 1)=((n:Nat):Int):=by omega
 refine ⟨sl 0,fun bl hbl=>?_⟩;refine up_in hbl _ fun H1 s1 g1=>?_;obtain ⟨sA,hA,ls,nn,hW,hS,hH,hL,l3⟩:=id hw;obtain ⟨o,kvs,h1,h2,h3⟩:=id hS;have kl:=G3 h2;refine ⟨_,Wr.shapes (s1 _ _ hW),sA,o,kvs,rfl,s1 _ _ h1,?_⟩
 let I:Nat->St->Hp->Prop:=fun i U Hi=>SM ks y H bl (ks.map (·.1)) (2 * i) Hi/\∃ z6 z7,U= [some (.ref p),some (.ref wA),some (.ref a),some (.str y),some (.int ((n + 1:Nat):Int)),some (.ref bl),z6,z7,none,none]
 refine NE I ⟨⟨s1, [], [],g1,rfl,Om _,HasL.nil,fun q hq=>nomatch hq⟩,_,_,rfl⟩ (fun i U Hi _ z=>z.1.1 _ _ h1) ?_ ?_
 .rintro BB RR i kv U Hi hkv ⟨sm,z6,z7,rfl⟩
  have si:=sm.1;obtain ⟨x,s,hx,ek⟩:=MK h2 hkv;rw [ek];have hxm:x∈ks.map (·.1):=O1.mpr ⟨(x,s),Oo hx,rfl⟩;obtain ⟨sh,hsh⟩:=Ys hxm;obtain ⟨v,hv,hvd⟩:=h3 x sh hsh;have hvi:=hvd.mono si;have i6:i < 6:=by have:=(Ol.mp hkv).1;omega
  refine ⟨_,Wr.shapes (si _ _ hW),v, .inl ⟨kvs,Sum.inr x, .inr ⟨o,si _ _ h1⟩,rfl,hv.symm⟩,?_⟩
  cases sh with
  | tags ts=>
   obtain ⟨ps,l,rfl,hp,hl⟩:=Vx hvi;refine ⟨_,_,SqT.of hp,rfl,rfl,_,rfl,Zs (by decide +kernel) (Zs (by decide) ?_)⟩;refine ⟨_,_,SqT.of hp,rfl,rfl,_,rfl,Zs (by decide +kernel) (Zs (by decide) ?_)⟩;exact ⟨sm.up (by omega),_,_,rfl⟩
  | pair e g=>
   obtain ⟨ps,rfl,hp⟩:=VP hvi;dsimp only [YZ];refine YS (fun U' H2=>SM ks y H bl (ks.map (·.1)) (2 * i + 1) H2/\H2 ps=some (.tup [.str "pair", .str e, .str g])/\U'= [some (.ref p),some (.ref wA),some (.ref a),some (.str y),some (.int ((n + 1:Nat):Int)),some (.ref bl),some (.str x),some (.ref ps),none,none]) ?_ ?_
   .rintro U' H2 ⟨sm2,hp2,rfl⟩
    refine ⟨_,_,SqT.of hp2,rfl,rfl,_,rfl,Z7 (by decide +kernel) ?_⟩;refine ⟨_,_,SqT.of hp2,rfl,rfl,_,rfl,?_⟩;refine Yc (fun c1=>?_) (fun c1=>⟨sm2.up (by omega),_,_,rfl⟩);have c2:g=y:=by have:=of_decide_eq_true c1;injection this
    obtain ⟨_,zs,qs,a1,a2,a3,_⟩:=id sm2;refine ⟨.inl ⟨rfl,_,SqL.of a1⟩,sl 2,fun tt htt=>?_⟩;refine ⟨bl,zs,_,rfl,rfl,ZH htt _ _ _ a1,ZI (by omega),?_⟩;exact ⟨(sm2.app hbl (.inr ⟨rfl,e,c2 ▸ hsh⟩) hxm htt a1).up (by omega),_,_,rfl⟩
   .intro N key
    refine ⟨_,_,SqT.of hp,rfl,rfl,_,rfl,Z7 (by decide +kernel) ?_⟩;refine ⟨_,_,SqT.of hp,rfl,rfl,_,rfl,?_⟩;refine Yc (fun c1=>?_) (fun c1=>key _ _ ⟨sm.up (by omega),hp,rfl⟩);have c2:e=y:=by have:=of_decide_eq_true c1;injection this
    obtain ⟨_,zs,qs,a1,a2,a3,_⟩:=id sm;refine ⟨.inl ⟨rfl,_,SqL.of a1⟩,sl 2,fun tt htt=>?_⟩;refine ⟨bl,zs,_,rfl,rfl,ZH htt _ _ _ a1,ZI (by omega),?_⟩;refine key _ _ ⟨(sm.app hbl (.inl ⟨rfl,g,c2 ▸ hsh⟩) hxm htt a1).up (by omega),?_,rfl⟩;have hp6:=ZH htt (.tup [.str "one", .str x]) _ _ hp;have a6:=ZH htt (.tup [.str "one", .str x]) _ _ a1;rw [ZE (fun z=>by rw [z,a6] at hp6;cases hp6)];exact hp6
 .rintro U Hi ⟨sm,z6,z7,rfl⟩
  obtain ⟨si,zs,qs,a1,a2,a3,a4,a5⟩:=id sm;refine ⟨sl 0,fun e1 he1=>?_⟩;refine up_in he1 _ fun H2 s2 ge=>?_;have s02:=si.trans s2;have st2:=hs.sm s02;have wr2:=hw.mono s02;have af2:=ha.mono s02 (Om _);refine ⟨.lst (qs.map sgD), .lst [],YG (s2 _ _ a1) (a4.mono s2),YG ge HasL.nil,KP _,_,rfl,?_⟩;rw [Gv]
  cases qs with
  | nil=>
   refine Z7 (by simp) ?_;exact ⟨p,wA,a,lA,y,ks,hds,kv,c,d,m,rfl,st2,wr2,af2,hm,kk,k6,hy,q.go s02.gb (.inl rfl)⟩
  | cons q1 qs=>
   have l1:(q1::qs).length=qs.length + 1:=rfl;refine Zs (by simp) ?_;refine ⟨bl,_,rfl, .inl (SqL.of (s2 _ _ a1)),p,_,rfl,st2,by omega,by omega,fun r H3 r0 r1' b3 s3=>?_⟩;obtain ⟨mm,v,hv1,hv2⟩:=Je r0 r1';have gb3:GB p wA H2 H3:=b3.sb.gb
   have nbp:bl≠p:=fun e=>by
    obtain ⟨_,_,_,_,h⟩:=hs;rw [e,h] at hbl;cases hbl
   obtain ⟨dd,hd1,hd2⟩:=(a4.mono s2).get hv1;rw [On] at hd1
   cases hq:(q1::qs)[mm]? with
   | none=>rw [hq] at hd1;cases hd1
   | some pr=>
    rw [hq] at hd1;cases hd1;obtain ⟨so,ho⟩:=a5 pr (Oo hq);obtain ⟨t2,rfl,ht2⟩:=UZ hd2;have tk3:=gb3.tk st2 wr2;refine ⟨_,_,SqL.of (b3.sb _ _ nbp (s2 _ _ a1)),hv2,?_⟩;refine ⟨_,SqT.of (tk3 _ _ ht2),rfl,?_⟩;refine ⟨p,wA,a,lA,pr.2,ks,hds,kv,c,d,m,by dsimp only;rw [en];rfl,s3,wr2.sb b3.sb st2,af2.gb gb3 st2 wr2,by omega,kk,k6,ho,fun u5 H5 b5 l5 gb5 st5 wr5 ln5 hu5 ok5 dp5 kd5=>?_⟩;refine ⟨sl 2,fun t3 ht3=>?_⟩;have s7:=ZH ht3 (.tup [.str pr.1,u5]);have ln:LN H lA l5:=LN.trans (.inl rfl) ln5 (s02.gb.trans gb3) st5 wr5;have gb:GB p wA H (upd H5 t3 (.tup [.str pr.1,u5])):=((s02.gb.trans gb3).trans gb5).trans s7.gb;rcases so with ⟨so,sb⟩ | ⟨so,sb⟩
    .refine q _ _ (.one b5) l5 gb (st5.sm s7) (wr5.mono s7) ln ?_ (by unfold Bd.ok;exact ok5) (by unfold Bd.dep;omega) (let ⟨_,e⟩:=sb;Kd.one e kd5)
     unfold Bd.dat;rw [so];exact Zk ZC (HasL.cons Zn (HasL.one (by rw [so] at s7;exact hu5.mono s7)))
    .refine q _ _ (.other b5) l5 gb (st5.sm s7) (wr5.mono s7) ln ?_ (by unfold Bd.ok;exact ok5) (by unfold Bd.dep;omega) (let ⟨_,e⟩:=sb;Kd.other e kd5)
     unfold Bd.dat;rw [so];exact Zk ZC (HasL.cons Zn (HasL.one (by rw [so] at s7;exact hu5.mono s7)))
end
end K4
namespace L2
open PySem PySem.Spec PyProof.Rows
section
theorem BK:VB X (.builtin "len") (fun xs H Q=> ∃ a kvs,xs= [V.ref a]/\Rd H a (.dK kvs)/\Q (.int kvs.length) H):=by
 intro pins s U H xs us Q I r h;obtain ⟨a,kvs,rfl,ha,q⟩:=h;obtain ⟨u,rfl,ru⟩:=vals1 r;cases ru;exact Lx I ha fun t s' I'=>⟨.int kvs.length,H,I',⟨t,rfl⟩,q⟩
theorem XS(hc:X.calm=true):VB X (.type "list") (fun xs H Q=> ∃ a kvs,xs= [.ref a]/\Rd H a (.dK kvs)/\∀ l,H l=none->Q (.ref l) (upd H l (.lst (kvs.map fun kv=>kV kv.1)))):=by
 intro pins s U H xs us Q I r h;obtain ⟨a,kvs,rfl,ha,q⟩:=h;obtain ⟨u,rfl,ru⟩:=vals1 r;cases ru;obtain ⟨hz,lo,vs,rv,hd⟩:=XI I.hok ha;obtain ⟨ep,hat⟩:=hd.dictAt;have hlen:=rv.length;refine W.kdl_call (W.kdl_dict (knd:=Z2 X.prog X.w) (kvs:=vs) (ep:=ep) lo) (I.ok.hd hc) hat (by rw [<-hlen];exact hz) fun h' tk acc c hk hl hacc=>?_;refine ⟨.ref s.heap.objs.size,_,I.laid (o:= .lst (kvs.map fun kv=>kV kv.1)) hk (Om _) ⟨by rw [Oh];exact hz,acc.toList,c,?_,by rw [Array.toArray_toList];exact hl⟩,rfl,q _ (I.hok.fresh (Om _))⟩;obtain ⟨hn,hp⟩:=hacc;refine Ji (by simp [hn,hlen]) fun j x u e1 e2=>?_;obtain ⟨k,y,hy,hk'⟩:=hp j u (by rw [<-Array.getElem?_toList];exact e2);rw [On] at e1
 cases hkv:kvs[j]? with
 | none=>rw [hkv] at e1;cases e1
 | some kv=>
  rw [hkv] at e1;cases e1;have hkeys:=rv.keys;have e3:(kvs.map (·.1))[j]?=(vs.map (·.1))[j]?:=by rw [hkeys]
  rw [On,On,hkv,hy] at e3;have e4:kv.1=k:=Oy e3;have hk2:J9 kv.1 u=true:=by rw [e4];exact hk'
  rcases Z4 hk2 with ⟨i,t,e5,e6⟩ | ⟨z,t,e5,e6⟩
  .show RelV (kV kv.1) u
   rw [e5,e6];exact ⟨t,rfl⟩
  .show RelV (kV kv.1) u
   rw [e5,e6];exact ⟨t,rfl⟩
theorem MW:VB X (.type "dict") (fun xs H Q=> ∃ a kvs,xs= [.ref a]/\Rd H a (.dK kvs)/\∀ l,H l=none->Q (.ref l) (upd H l (.dK kvs))):=by
 intro pins s U H xs us Q I r h;obtain ⟨a,kvs,rfl,ha,q⟩:=h;obtain ⟨u,rfl,ru⟩:=vals1 r;cases ru;obtain ⟨hz,lo,vs,rv,hd⟩:=XI I.hok ha;have hlen:=rv.length;refine kt_call_dict (knd:=Z2 X.prog X.w) lo hd (by rw [<-hlen];exact hz) fun h' hd' sb=>?_;refine ⟨.ref s.heap.objs.size,_,I.laid (a:=s.heap.objs.size) (o:= .dK kvs) (fun b o e=>?_) (Om _) (WK hz (beq_eq_false_iff_ne.mpr (Ne.symm (O9 I.big))) rv hd'),rfl,q _ (I.hok.fresh (Om _))⟩;exact (sb.2 b (O9 (Ow e))).trans (Oj _ e)
end
theorem Km{o:Option V}(h:(!o.isSome)=true):o=none:=by
 cases o with
 | none=>rfl
 | some v=>cases h
theorem RF:∀ {ls:List Str},nm∈ls->∃ j:Nat,ls[j]?=some nm/\∀ m:Nat,m < j->ls[m]?≠some nm
 | [],h=>nomatch h
 | l::ls,h=>by
  by_cases e:l=nm
  .exact ⟨0,by rw [e];rfl,fun m hm=>absurd hm (by omega)⟩
  .obtain ⟨j,h1,h2⟩:=RF (ls:=ls) ((O8.mp h).resolve_left fun z=>e z.symm)
   refine ⟨j + 1,h1,fun m hm=>?_⟩
   cases m with
   | zero=>exact fun z=>e (Oy z)
   | succ m=>exact h2 m (by omega)
theorem Ei:putK [((Sum.inr "shapes" :Key),a),(Sum.inr "heads",b),(Sum.inr "lets",c),(Sum.inr "left",d)] (Sum.inr "lets") v= [((Sum.inr "shapes" :Key),a),(Sum.inr "heads",b),(Sum.inr "lets",v),(Sum.inr "left",d)]:=rfl
theorem Md:putK [((Sum.inr "shapes" :Key),a),(Sum.inr "heads",b),(Sum.inr "lets",c),(Sum.inr "left",d)] (Sum.inr "left") v= [((Sum.inr "shapes" :Key),a),(Sum.inr "heads",b),(Sum.inr "lets",c),(Sum.inr "left",v)]:=rfl
theorem Wr.set(g:Wr H w ks hds lA)(e:H w=some (wrD sA hA lA n)){ls:List Str}(n':Int)(h:H l'=some (.lst (ls.map V.str)))(h3:ls.length<=3):Wr (upd H w (wrD sA hA l' n')) w ks hds l':=by
 obtain ⟨sA',hA',ls',m,a1,a2,a3,a4,a5⟩:=g;rw [e] at a1;have z:=Oy a1;unfold wrD at z;injection z with z1;injection z1 with z2 z3;injection z2 with _ z4;injection z4 with z5;injection z3 with z6 _;injection z6 with _ z7;injection z7 with z8;subst z5 z8;have tk:TK H (upd H w (wrD sA hA l' n')):=fun b zs q=>by rw [ZE (fun z=>by rw [z,e] at q;cases q)];exact q
 obtain ⟨o,kvs,b1,b2,b3⟩:=a2;obtain ⟨o',kvs',c1,c2,c3⟩:=a3;refine ⟨sA,hA,ls,n',ZC,⟨o,kvs,?_,b2,fun y s q=>let ⟨v,e1,e2⟩:=b3 y s q;⟨v,e1,YU tk _ (Shp.st _) e2⟩⟩,⟨o',kvs',?_,c2,fun kv hk=>let ⟨f,ps,k,e1,e2,e3⟩:=c3 kv hk;⟨f,ps,k,e1,YU tk _ (JC _ _) e2,e3⟩⟩,?_,h3⟩
 .rw [ZE (fun z=>by rw [z,e] at b1;cases b1)];exact b1
 .rw [ZE (fun z=>by rw [z,e] at c1;cases c1)];exact c1
 .rw [ZE (fun z=>by rw [z,e] at h;cases h)];exact h
theorem N6:GB p w H (upd H w o):=fun b u _ n2 e=>by rw [ZE n2];exact e
theorem Bv{kvs:List (Key × V)}(h:kv∈putK kvs k v):kv∈kvs \/ kv=(k,v):=by
 unfold putK at h
 split at h
 .obtain ⟨q,hq,e⟩:=O1.mp h
  by_cases z:q.1=k
  .rw [if_pos z] at e;exact .inr (by rw [<-e,z])
  .rw [if_neg z] at e;exact .inl (by rw [<-e];exact hq)
 .rcases O2.mp h with h | h
  .exact .inl h
  .exact .inr (Ox.mp h)
theorem Ts(kvs:List (Key × V))(k:Key)(v:V):(putK kvs k v).length<=kvs.length + 1:=by
 unfold putK
 split
 .rw [Oh];omega
 .rw [Os];exact Om _
end L2
namespace K4
open PySem L2
section
theorem X2:Za ["stream","world","around","kind","deep","names","name","lets","own","inner","first"] ["stream","world","around","kind","deep"] (ZJ E4):=Zu
theorem Lm:List.Nodup [("one" :Str),"around"]:=by decide +kernel
theorem Kh(B:Blt mg)(F:Fun K "_law_let" "_law_let" E4 f fd)(DT:Df P w K mg base (L + 3) "_law_take" ["stream","many"] Yl)(DC:Df P w K mg base (L + 3) "_law_choose" gps (spG (n + 1)))(DB:Df P w K mg base (L + 3) "_law_body" gps (spG n)):
  ZQ P w K mg base CX0 (L + 3 + 1) f fd gps (spG (n + 1)):=by
 refine F.oq X2 fun cdv A outer s H vs Q E hr h=>?_;obtain ⟨p,wA,a,lA,y,ks,hds,kv,c,d,m,rfl,hs,hw,ha,hm,kk,k6,hy,q⟩:=h;have hu:=Y3 hr;have hr3:=hr.mono (show 2<=L + 3 by omega);refine ⟨_,ZA (Xj (i0:=5) ["one"] [2] X2.nd rfl (Or.inl rfl) (Yk (Zd hu (pv 1) ZY (fun _ _=>rfl))) (YO (i:=0) (by decide)) (fun cl C fp s H=>ZL 0 Lm rfl (Or.inl rfl) (Or.inr rfl))
   (fun cl C fp s H=>Vp (JJ hu (pv 0) (pv 1))) (fun cl C fp s H=>pv 0))
  (ZA (Zg (ZN (X8 hr3) (pv 5) (Zp YK) (ZW _)) (ZF (ZV (ZZ DC hr (pa5 (pv 0) (pv 1) (pv 2) (pv 3) (pv 4))))) ZO)
  (ZA (ZM 6 X2.nd (ZT Zh (pv 5) (ZZ DT hr (pa2 (pv 0) (ZU ZP rfl B.len PySem.boot_len (pa1 (pv 5))))) (fun _ _=>rfl)))
  (ZA (ZM 7 X2.nd (Zm YH rfl B.list Z9 (pa1 (Zd hu (pv 1) ZY (fun _ _=>rfl)))))
  (ZA (Ye (JI PySem.F.plainAttrs_list PySem.F.slot_list_remove PySem.F.type_list_remove Nu (pv 7) (pa1 (pv 6))))
  (ZA (YF hu (pv 1) ZY (pv 7) rfl)
  (ZA (ZM 8 X2.nd (ZT Zh (Zm (XS rfl) rfl B.list Z9 (pa1 (Zd hu (pv 1) ZY (fun _ _=>rfl)))) (ZZ DT hr (pa2 (pv 0) (ZU BK rfl B.len PySem.boot_len (pa1 (Zd hu (pv 1) ZY (fun _ _=>rfl)))))) (fun _ _=>rfl)))
  (ZA (ZM 9 X2.nd (Zm MW rfl B.dict Jd (pa1 (pv 2))))
  (ZA (Gu (YF hu (pv 9) (pv 6) (pv 8) rfl))
  (ZA (ZM 10 X2.nd (ZZ DB hr (pa5 (pv 0) (pv 1) (pv 9) (pv 8) (ZX Va (pv 4) ZD))))
  (ZF (ZV (Zi (pa5 ZY (pv 6) (pv 8) (pv 10) (ZZ DB hr (pa5 (pv 0) (pv 1) (pv 9) (pv 3) (ZX Va (pv 4) ZD)))))))))))))))),?_⟩
 dsimp only [Yo,Cx.nox,Cx.wish];show let a:=_;let b:=ZK _ a;let c:=ZK _ b;let d:=ZK _ c;let e:=ZK _ d;let f:=ZK _ e;let g:=ZK _ f;let h:=ZK _ g;let i:=ZK _ h;let j:=_;let k:=ZK (Zv _ j _) i;ZK _ k _ _ _
 intros
 have en:(((n + 1:Nat):Int) - 1)=((n:Nat):Int):=by omega
 obtain ⟨sA,hA,ls,nn,hW,hS,hH,hL,l3⟩:=id hw;obtain ⟨o,kvs,h1,h2,h3⟩:=id hS;obtain ⟨oA,ha1,ha2,ha3⟩:=id ha;have kl:=G3 h2;have lls:(ls.map V.str).length=ls.length:=Oh _;refine ⟨_,Wr.lets hW,⟨_,SqL.of hL⟩,?_⟩;refine V0 ls.length (ZI (by omega)) (fun i vs H'=>H'=H/\vs.length<=i/\∃ ns:List Str,vs=ns.map V.str/\∀ z∈ns,z∈ls/\Zl kv (Sum.inr z)=none) ⟨rfl,Om _, [],rfl,(fun z hz=>nomatch hz)⟩ (fun i vs H' z=>z.2.1) ?_ ?_ ?_ ?_
 .rintro i vs H' hi ⟨rfl,_⟩
  exact ⟨_, .str ls[i],SqL.of hL,by rw [On,Oi hi];rfl⟩
 .rintro vs H' ⟨rfl,_⟩
  exact ⟨_,SqL.of hL,by omega⟩
 .rintro i vs H' x H'' R hi ⟨rfl,z2,ns,rfl,z4⟩ yl rT rF
  obtain ⟨rfl,yy⟩:=yl;obtain ⟨x,hxm,rfl⟩:=Ug (yy _ (SqL.of hL));refine ⟨_, .inl ⟨kv,Sum.inr x, .inr ⟨oA,ha1⟩,rfl,rfl⟩,_,rfl,?_⟩;refine Yc (fun c1=>rT _ _ ⟨rfl,by simp at z2 |-;omega,ns++ [x],by rw [Oq];rfl,fun z hz=>?_⟩) (fun c1=>rF _ ⟨rfl,by omega,ns,rfl,z4⟩);rcases O2.mp hz with hz | hz
  .exact z4 z hz
  .cases Ox.mp hz
   exact ⟨hxm,Km c1⟩
 rintro vs H' r1 ⟨rfl,z2,ns,rfl,z4⟩ hr1;have ll:(ns.map V.str).length=ns.length:=Oh _;refine up_in hr1 _ fun H1 s1 g1=>?_;refine ⟨sl 0,fun e1 he1=>?_⟩;have s2:=ZH he1 (.lst []);have g2:=s2 _ _ g1;have ge:upd H1 e1 (.lst []) e1=some (.lst []):=ZC;generalize upd H1 e1 (.lst [])=H2 at s2 g2 ge |-;have s02:=s1.trans s2;have st2:=hs.sm s02;have wr2:=hw.mono s02;refine ⟨.lst (ns.map Dat.str), .lst [],Kw g2,YG ge HasL.nil,Xt _,_,rfl,?_⟩;rw [Gv]
 cases ns with
 | nil=>
  refine Z7 (by simp) ?_;exact ⟨p,wA,a,lA,y,ks,hds,kv,c,d,m,rfl,st2,wr2,ha.mono s02 (Om _),hm,kk,k6,hy,q.go s02.gb (.inl rfl)⟩
 | cons n1 ns=>
  have l1:((n1::ns).map V.str).length=ns.length + 1:=by simp
  rw [l1] at z2;refine Zs (by simp) ?_;refine ⟨r1,_,rfl, .inl (SqL.of g2),p,_,rfl,st2,by omega,by omega,fun r H3 r0 r1' b3 s3=>?_⟩;obtain ⟨mm,v,hv1,hv2⟩:=Je r0 r1';obtain ⟨nm,hnm,rfl⟩:=Ug hv1;have gb3:GB p wA H2 H3:=b3.sb.gb;have g03:GB p wA H' H3:=s02.gb.trans gb3;have wr3:=wr2.sb b3.sb st2;have hW3:=b3.sb _ _ (hw.ne hs) (s02 _ _ hW);have hL3:=b3.sb _ _ (Yd hs hL) (s02 _ _ hL);refine ⟨_,_,SqL.of (b3.sb _ _ (Yd st2 g2) g2),hv2,?_⟩;refine ⟨_,Wr.lets hW3,lA,_,rfl, .inl (SqL.of hL3),fun l4 hl4=>?_⟩;refine up_in hl4 _ fun H4 s4 g4=>?_;obtain ⟨j,hj,hno⟩:=RF (z4 nm hnm).1;refine ⟨.inl ⟨rfl,_,SqL.of g4⟩,l4,ls,nm,j,rfl,rfl,g4,hj,hno,?_⟩;have s5:Same H3 (upd H4 l4 (.lst ((ls.eraseIdx j).map V.str))):=s4.putN hl4;have g5:upd H4 l4 (.lst ((ls.eraseIdx j).map V.str)) l4=some (.lst ((ls.eraseIdx j).map V.str)):=ZC;generalize upd H4 l4 (.lst ((ls.eraseIdx j).map V.str))=H5 at s5 g5 |-;have wr5:=wr3.mono s5;have hW5:=s5 _ _ hW3;refine ⟨_,VJ.k (k:=Sum.inr "lets") hW5 (ZI (by show 4<=1000;decide)),?_⟩;rw [Ei];have wr6:Wr (upd H5 wA (wrD sA hA l4 nn)) wA ks hds l4:=wr5.set hW5 nn g5 (by have:=List.length_eraseIdx_le ls j;omega);have hW6:upd H5 wA (wrD sA hA l4 nn) wA=some (wrD sA hA l4 nn):=ZC;have gb6:GB p wA H5 (upd H5 wA (wrD sA hA l4 nn)):=N6;have st6:Zo (upd H5 wA (wrD sA hA l4 nn)) p:=(s3.sm s5).keep (ZE (Ne.symm (hw.ne hs)));show ZK _ _ _ _ (upd H5 wA (wrD sA hA l4 nn));generalize upd H5 wA (wrD sA hA l4 nn)=H6 at wr6 hW6 gb6 st6 |-;have g06:GB p wA H' H6:=(g03.trans s5.gb).trans gb6;have np4:l4≠p:=s3.ne hl4;have nw4:l4≠wA:=fun e=>by rw [e,hW3] at hl4;cases hl4
  have ln6:LN H' lA l4:= .inr (g03.free np4 nw4 hl4);have h16:=g06 _ _ (Yv hs h1) (hw.ne_frz h1) h1;have ha6:=g06 _ _ (Yv hs ha1) (hw.ne_frz ha1) ha1;refine ⟨_,Wr.shapes hW6,sA,kvs,rfl, .inr ⟨o,h16⟩,fun l7 hl7=>?_⟩;have s7:=ZH hl7 (.lst (kvs.map fun kv=>kV kv.1));have g7:upd H6 l7 (.lst (kvs.map fun kv=>kV kv.1)) l7=some (.lst (kvs.map fun kv=>kV kv.1)):=ZC;have np7:l7≠p:=st6.ne hl7;generalize upd H6 l7 (.lst (kvs.map fun kv=>kV kv.1))=H7 at s7 g7 |-;have kpos:0 < ks.length:=by obtain ⟨k,hk,_⟩:=O1.mp hy;exact List.length_pos_of_mem hk
  refine ⟨_,Wr.shapes (s7 _ _ hW6),sA,kvs,rfl, .inr ⟨o,s7 _ _ h16⟩,p,_,rfl,st6.sm s7,by omega,by omega,fun r8 H8 r80 r81 b8 s8=>?_⟩;obtain ⟨m8,v8,hv3,hv4⟩:=Je (xs:=kvs.map fun kv=>kV kv.1) r80 (by rw [Oh];exact r81)
  obtain ⟨own,ho,rfl⟩:∃ own,own∈ks.map (·.1)/\v8= .str own:=by
   rw [On] at hv3
   cases ek:kvs[m8]? with
   | none=>rw [ek] at hv3;cases hv3
   | some kv1=>
    rw [ek] at hv3;obtain ⟨x,s,hx,e2⟩:=MK h2 ek;refine ⟨x,O1.mpr ⟨(x,s),Oo hx,rfl⟩,?_⟩;have:=(Oy hv3).symm;rw [this];show kV kv1.1=_;rw [e2];rfl
  refine ⟨_,_,SqL.of (b8.sb _ _ np7 g7),hv4,?_⟩;have gb8:GB p wA H7 H8:=b8.sb.gb;have wr8:=(wr6.mono s7).sb b8.sb (st6.sm s7);have ha8:=gb8 _ _ (Yv (st6.sm s7) (s7 _ _ ha6)) ((wr6.mono s7).ne_frz (s7 _ _ ha6)) (s7 _ _ ha6);refine ⟨a,kv,rfl, .inr ⟨oA,ha8⟩,fun i9 hi9=>?_⟩;refine up_in hi9 _ fun H9 s9 g9=>?_;refine ⟨_,VJ.k (k:=Sum.inr nm) g9 (ZI (by omega)),i9,_,ZC,fun o10=>?_⟩;have s10:Same H8 (upd (upd H9 i9 (.dK (putK kv (Sum.inr nm) (.str own)))) i9 (.frz o10 (.dK (putK kv (Sum.inr nm) (.str own))))):=(s9.putN hi9).putN hi9;have g10:upd (upd H9 i9 (.dK (putK kv (Sum.inr nm) (.str own)))) i9 (.frz o10 (.dK (putK kv (Sum.inr nm) (.str own)))) i9=some (.frz o10 (.dK (putK kv (Sum.inr nm) (.str own)))):=ZC;generalize upd (upd H9 i9 (.dK (putK kv (Sum.inr nm) (.str own)))) i9 (.frz o10 (.dK (putK kv (Sum.inr nm) (.str own))))=H10 at s10 g10 |-
  have af10:AF H10 i9 (ks.map (·.1)) (m + 1) (putK kv (Sum.inr nm) (.str own)):=⟨o10,g10,by have:=Ts kv (Sum.inr nm) (.str own);omega,fun k1 hk=>by
   rcases Bv hk with z | z
   .exact ha3 k1 z
   .exact ⟨nm,own,z,ho⟩⟩
  have st10:=s8.sm s10;have wr10:=wr8.mono s10;have g10b:GB p wA H' H10:=((g06.trans s7.gb).trans gb8).trans s10.gb;have lnA:LN H' lA l4:=ln6;refine ⟨p,wA,i9,l4,own,ks,hds,_,c,d,m + 1,by dsimp only;rw [en];rfl,st10,wr10,af10,by omega,kk,k6,ho,fun u1 H11 b1 l11 gb11 st11 wr11 ln11 hu11 ok11 dp11 kd11=>?_⟩;refine ⟨p,wA,i9,l11,y,ks,hds,_,c,d,m + 1,by dsimp only;rw [en];rfl,st11,wr11,af10.gb gb11 st10 wr10,by omega,kk,k6,hy,fun u2 H12 b2 l12 gb12 st12 wr12 ln12 hu12 ok12 dp12 kd12=>?_⟩;refine ⟨sl 5,fun t3 ht3=>?_⟩;have s13:=ZH ht3 (.tup [.str "let", .str nm, .str own,u1,u2]);refine q _ _ (.letb nm own b1 b2) l12 (((g10b.trans gb11).trans gb12).trans s13.gb) (st12.sm s13) (wr12.mono s13) (lnA.trans (ln11.trans ln12 gb11 st12 wr12) g10b st12 wr12) ?_ (by unfold Bd.ok;exact ⟨ok11,ok12⟩) (by unfold Bd.dep;omega) (Kd.letb (z4 nm hnm).2 ho kd11 kd12);unfold Bd.dat;exact Zk ZC (HasL.cons Zn (HasL.cons Zn (HasL.cons Zn (HasL.cons ((YU (gb12.tk st11 wr11) _ (Bd.st _) hu11).mono s13) (HasL.one (hu12.mono s13))))))
end
section
theorem X3:Za ["stream","world","around","kind","deep","way","shape","one"] ["stream","world","around","kind","deep"] (ZJ Tn):=Zu
theorem Dk(F:Fun K "_law_body" "_law_body" Tn f fd)(DP:Df P w K mg base L "_law_plain" ["stream","world","around","kind"] (VD 3)):ZQ P w K mg base CX0 (L + 1) f fd gps (spG 0):=by
 refine F.oq X3 fun cdv A outer s H vs Q E hr h=>?_;obtain ⟨p,wA,a,lA,y,ks,hds,kv,c,d,m,rfl,hs,hw,ha,hm,kk,k6,hy,q⟩:=h;have hu:=Y3 hr;refine ⟨_,ZA (YF hu (pv 1) ZY (ZX Va (Zd hu (pv 1) ZY (fun _ _=>rfl)) ZD) rfl)
  (ZA (Zg (PW.pt (VX (ZN YN (pv 4) ZD (ZW _)) (VM (ZN Wj (Zd hu (pv 1) ZY (fun _ _=>rfl)) ZD (ZW _))))) (ZF (ZV (ZZ DP hr (pa4 (pv 0) (pv 1) (pv 2) (pv 3))))) ZO)
  (ZA Y2 (ZA Y2 (ZA Y2 (ZA Y2 (ZA Y2 (ZA Y2 (ZA Y2 (ZF Y2))))))))),?_⟩
 obtain ⟨sA,hA,ls,nn,hW,hS,hH,hL,l3⟩:=id hw;have dy:=kk.small hy;refine ⟨_,Wr.left hW,_,VJ.k (k:=Sum.inr "left") hW (ZI (by show 4<=1000;decide)),?_⟩;rw [Md];have wr1:Wr (upd H wA (wrD sA hA lA (nn - 1))) wA ks hds lA:=hw.set hW (nn - 1) hL l3;have gb1:GB p wA H (upd H wA (wrD sA hA lA (nn - 1))):=N6;have st1:Zo (upd H wA (wrD sA hA lA (nn - 1))) p:=hs.keep (ZE (Ne.symm (hw.ne hs)));show ZK _ _ _ _ (upd H wA (wrD sA hA lA (nn - 1)));generalize upd H wA (wrD sA hA lA (nn - 1))=H1 at wr1 gb1 st1 |-;refine ⟨rfl,_,rfl,Z7 (by decide) (Z7 rfl ?_)⟩;exact ⟨p,wA,a,lA,y,ks,hds,kv,c,d,rfl,st1,wr1,(ha.gb gb1 hs hw).mono (Same.refl _) (by omega),kk,hy,by omega,(q.go gb1 (.inl rfl)).le (by omega)⟩
theorem Fd(F:Fun K "_law_body" "_law_body" Tn f fd)(DT:Df P w K mg base L "_law_take" ["stream","many"] Yl)(DP:Df P w K mg base L "_law_plain" ["stream","world","around","kind"] (VD 3))(DC:Df P w K mg base L "_law_choose" gps (spG (n + 1)))(DR:Df P w K mg base L "_law_part" gps (spG (n + 1)))(DL:Df P w K mg base L "_law_let" gps (spG (n + 1)))(DA:Df P w K mg base L "_law_ask" gps (spG (n + 1)))(DB:Df P w K mg base L "_law_body" gps (spG n)):
  ZQ P w K mg base CX0 (L + 1) f fd gps (spG (n + 1)):=by
 refine F.oq X3 fun cdv A outer s H vs Q E hr h=>?_;obtain ⟨p,wA,a,lA,y,ks,hds,kv,c,d,m,rfl,hs,hw,ha,hm,kk,k6,hy,q⟩:=h;have hu:=Y3 hr;refine ⟨_,ZA (YF hu (pv 1) ZY (ZX Va (Zd hu (pv 1) ZY (fun _ _=>rfl)) ZD) rfl)
  (ZA (Zg (PW.pt (VX (ZN YN (pv 4) ZD (ZW _)) (VM (ZN Wj (Zd hu (pv 1) ZY (fun _ _=>rfl)) ZD (ZW _))))) (ZF (ZV (ZZ DP hr (pa4 (pv 0) (pv 1) (pv 2) (pv 3))))) ZO)
  (ZA (ZM 5 X3.nd (ZZ DT hr (pa2 (pv 0) ZD)))
  (ZA (Zg (ZN YN (pv 5) ZD (ZW _)) (ZF (ZV (ZZ DP hr (pa4 (pv 0) (pv 1) (pv 2) (pv 3))))) ZO)
  (ZA (Zg (ZN Wj (pv 5) ZD (ZW _)) (ZF (ZV (ZZ DC hr (pa5 (pv 0) (pv 1) (pv 2) (pv 3) (pv 4))))) ZO)
  (ZA (Zg (ZN Wj (pv 5) ZD (ZW _)) (ZF (ZV (ZZ DR hr (pa5 (pv 0) (pv 1) (pv 2) (pv 3) (pv 4))))) ZO)
  (ZA (Zg (ZN YN (pv 5) ZD (ZW _)) (ZF (ZV (ZZ DL hr (pa5 (pv 0) (pv 1) (pv 2) (pv 3) (pv 4))))) ZO)
  (ZA (ZM 6 X3.nd (Zd hu (Zd hu (pv 1) ZY (fun _ _=>rfl)) (pv 3) (fun _ _=>rfl)))
  (ZA (Zg (PW.pt (Vo (ZN YN (ZT Zc (pv 6) ZD) ZY (ZW _)) (VE (ZN YN (pv 5) ZD (ZW _)))))
   (ZA (ZM 7 X3.nd (ZZ DB hr (pa5 (pv 0) (pv 1) (pv 2) (ZT Zc (pv 6) ZD) (ZX Va (pv 4) ZD))))
   (ZF (ZV (Zi (pa3 ZY (pv 7) (ZZ DB hr (pa5 (pv 0) (pv 1) (pv 2) (ZT Zc (pv 6) ZD) (ZX Va (pv 4) ZD)))))))) ZO)
  (ZF (ZV (ZZ DA hr (pa5 (pv 0) (pv 1) (pv 2) (pv 3) (pv 4))))))))))))),?_⟩
 dsimp only [Yo,Cx.nox,Cx.wish];show let a:=_;let b:=_;let c:=ZK _ b;let d:=ZK (Zv _ c _) a;let e:=ZK _ d;let f:=_;let g:=ZK (Zv _ f _) e;let h:=_;let i:=ZK (Zv _ h _) g;let j:=_;let k:=ZK (Zv _ j _) i;let l:=_;let m:=ZK (Zv _ l _) k;let n:=ZK _ m;let o:=_;let p:=ZK (Zv _ o _) n;ZK _ p _ _ _
 intros
 obtain ⟨sA,hA,ls,nn,hW,hS,hH,hL,l3⟩:=id hw;have en:(((n + 1:Nat):Int) - 1)=((n:Nat):Int):=by omega
 have dy:=kk.small hy;refine ⟨_,Wr.left hW,_,VJ.k (k:=Sum.inr "left") hW (ZI (by show 4<=1000;decide)),?_⟩;rw [Md];have wr1:Wr (upd H wA (wrD sA hA lA (nn - 1))) wA ks hds lA:=hw.set hW (nn - 1) hL l3;have gb1:GB p wA H (upd H wA (wrD sA hA lA (nn - 1))):=N6;have st1:Zo (upd H wA (wrD sA hA lA (nn - 1))) p:=hs.keep (ZE (Ne.symm (hw.ne hs)));have hW1:upd H wA (wrD sA hA lA (nn - 1)) wA=some (wrD sA hA lA (nn - 1)):=ZC;show ZK _ _ _ _ (upd H wA (wrD sA hA lA (nn - 1)));generalize upd H wA (wrD sA hA lA (nn - 1))=H1 at wr1 gb1 st1 hW1 |-;have af1:=ha.gb gb1 hs hw;refine ⟨rfl,_,rfl,Zs (fun z=>by have:=of_decide_eq_true z;injection this;omega) ?_⟩;refine ⟨_,Wr.left hW1,_,rfl,?_⟩;refine Yc (fun c0=>?_) (fun c0=>?_)
 .exact ⟨p,wA,a,lA,y,ks,hds,kv,c,d,rfl,st1,wr1,af1.mono (Same.refl _) (by omega),kk,hy,by omega,(q.go gb1 (.inl rfl)).le (by omega)⟩
 refine ⟨p,12,rfl,st1,by decide,by decide,fun r H2 r0 r1 b2 s2=>?_⟩;have gb2:GB p wA H1 H2:=b2.sb.gb;have wr2:=wr1.sb b2.sb st1;have af2:=af1.gb gb2 st1 wr1;have q2:=q.go (gb1.trans gb2) (.inl rfl);refine ⟨rfl,_,rfl,?_⟩;refine Yc (fun c1=>?_) (fun c1=>?_)
 .exact ⟨p,wA,a,lA,y,ks,hds,kv,c,d,rfl,s2,wr2,af2.mono (Same.refl _) (by omega),kk,hy,by omega,q2.le (by omega)⟩
 refine ⟨_,rfl,?_⟩;refine Yc (fun c2=>?_) (fun c2=>?_)
 .exact ⟨p,wA,a,lA,y,ks,hds,kv,c,d,m,rfl,s2,wr2,af2,hm,kk,k6,hy,q2⟩
 refine ⟨_,rfl,?_⟩;refine Yc (fun c3=>?_) (fun c3=>?_)
 .exact ⟨p,wA,a,lA,y,ks,hds,kv,c,d,m,rfl,s2,wr2,af2,hm,kk,k6,hy,q2⟩
 refine ⟨rfl,_,rfl,?_⟩;refine Yc (fun c4=>?_) (fun c4=>?_)
 .exact ⟨p,wA,a,lA,y,ks,hds,kv,c,d,m,rfl,s2,wr2,af2,hm,kk,k6,hy,q2⟩
 have ask:spG (n + 1) [.ref p, .ref wA, .ref a, .str y, .int ((n + 1:Nat):Int)] H2 Q E0:=⟨p,wA,a,lA,y,ks,hds,kv,c,d,m,rfl,s2,wr2,af2,hm,kk,k6,hy,q2⟩;obtain ⟨sh,hsh⟩:=Ys hy;obtain ⟨sA2,hA2,ls2,nn2,hW2,hS2,_⟩:=id wr2;obtain ⟨o,kvs,h1,h2,h3⟩:=id hS2;obtain ⟨v,hv,hvd⟩:=h3 y sh hsh;have k1:=kk.at hsh;refine ⟨_,Wr.shapes hW2,v, .inl ⟨kvs,Sum.inr y, .inr ⟨o,h1⟩,rfl,hv.symm⟩,?_⟩
 cases sh with
 | tags ts=>
  obtain ⟨ps,l,rfl,hp,hl⟩:=Vx hvd;refine ⟨_,_,SqT.of hp,rfl,rfl,_,rfl,Zs (by decide +kernel) (Zs (by decide) ?_)⟩;exact ask
 | pair e g=>
  obtain ⟨t1,t2,t3,t4,t5,t6⟩:=k1;obtain ⟨ps,rfl,hp⟩:=VP hvd;refine ⟨_,_,SqT.of hp,rfl,rfl,_,rfl,Z7 (by decide +kernel) ?_⟩;refine ⟨rfl,_,rfl,?_⟩;refine Yc (fun c5=>?_) (fun c5=>ask);refine ⟨_,_,SqT.of hp,rfl,p,wA,a,lA,e,ks,hds,kv,c,d,m,by dsimp only;rw [en];rfl,s2,wr2,af2,by omega,kk,k6,t1,fun u1 H3 b1 l3' gb3 st3 wr3 ln3 hu3 ok3 dp3 kd3=>?_⟩;refine ⟨_,_,SqT.of (gb3.tk s2 wr2 _ _ hp),rfl,p,wA,a,l3',g,ks,hds,kv,c,d,m,by dsimp only;rw [en];rfl,st3,wr3,af2.gb gb3 s2 wr2,by omega,kk,k6,t2,fun u2 H4 b2' l4' gb4 st4 wr4 ln4 hu4 ok4 dp4 kd4=>?_⟩;refine ⟨sl 3,fun t ht=>?_⟩;have s5:=ZH ht (.tup [.str "pair",u1,u2]);refine q2 _ _ (.pair b1 b2') l4' ((gb3.trans gb4).trans s5.gb) (st4.sm s5) (wr4.mono s5) (ln3.trans ln4 gb3 st4 wr4) ?_ (by unfold Bd.ok;exact ⟨ok3,ok4⟩) (by unfold Bd.dep;omega) (Kd.pair hsh kd3 kd4);unfold Bd.dat;exact Zk ZC (HasL.cons Zn (HasL.cons ((YU (gb4.tk st3 wr3) _ (Bd.st _) hu3).mono s5) (HasL.one (hu4.mono s5))))
end
section
theorem R7:ZQ P w K mg base CX0 L f fd ["stream","world","around","kind"] (VD 0):= .none fun vs H Q E h=>by
 obtain ⟨_,_,_,_,_,_,_,_,_,_,_,_,_,_,_,_,hd,_⟩:=h;exact Nat.not_lt_zero _ hd
theorem X7(B:Blt mg)(DT:∀ n,Df P w K mg base (n + 2) "_law_take" ["stream","many"] Yl)(F:Fun K "_law_plain" "_law_plain" X4 f fd)(bG:Binds K fd ["stream","world","around","kind"] [])(mG:mg "_law_plain" =some (.ref f)):
  ∀ n,ZQ P w K mg base CX0 (0 + 3 + n) f fd ["stream","world","around","kind"] (VD n)
 | 0=>R7
 | n + 1=>DJ (L:=0) B F ((DT (1 + n)).up (by omega)) (X7 B DT F bG mG n) bG mG
theorem F0(B:Blt mg)(DT:∀ n,Df P w K mg base (n + 2) "_law_take" ["stream","many"] Yl)(FP:Fun K "_law_plain" "_law_plain" X4 fP dP)(bP:Binds K dP ["stream","world","around","kind"] [])(mP:mg "_law_plain" =some (.ref fP))(FS:Fun K "_law_some" "_law_some" Mq fS dS)(bS:Binds K dS gps [])(mS:mg "_law_some" =some (.ref fS))(FC:Fun K "_law_choose" "_law_choose" Xh fC dC)(bC:Binds K dC gps [])(mC:mg "_law_choose" =some (.ref fC))(FA:Fun K "_law_ask" "_law_ask" E5 fA dA)(bA:Binds K dA gps [])(mA:mg "_law_ask" =some (.ref fA))(FR:Fun K "_law_part" "_law_part" Gk fR dR)(bR:Binds K dR gps [])(mR:mg "_law_part" =some (.ref fR))(FL:Fun K "_law_let" "_law_let" E4 fL dL)(bL:Binds K dL gps [])(mL:mg "_law_let" =some (.ref fL))(FB:Fun K "_law_body" "_law_body" Tn fB dB)(bB:Binds K dB gps [])(mB:mg "_law_body" =some (.ref fB)):
  ∀ n,Df P w K mg base (8 + 4 * n) "_law_some" gps (spG n)/\Df P w K mg base (8 + 4 * n) "_law_body" gps (spG n):=by
 have DP:Df P w K mg base 6 "_law_plain" ["stream","world","around","kind"] (VD 3):=⟨fP,dP,mP,FP.kp,bP,X7 B DT FP bP mP 3⟩;intro n
 induction n with
 | zero=>
  have DB:Df P w K mg base 7 "_law_body" gps (spG 0):=⟨fB,dB,mB,FB.kp,bB,Dk FB DP⟩;exact ⟨⟨fS,dS,mS,FS.kp,bS,M0 FS (DT 5) (DP.up (by decide)) DB⟩,DB.up (by decide)⟩
 | succ n ih=>
  obtain ⟨iS,iB⟩:=ih;have DC:Df P w K mg base (8 + 4 * n + 1) "_law_choose" gps (spG (n + 1)):=⟨fC,dC,mC,FC.kp,bC,Nr B FC ((DT (6 + 4 * n)).up (by omega)) iS iB⟩;have DA:Df P w K mg base (6 + 4 * n + 2 + 1) "_law_ask" gps (spG (n + 1)):=⟨fA,dA,mA,FA.kp,bA,Kk (L:=6 + 4 * n) B FA ((DT (6 + 4 * n)).up (by omega)) (DP.up (by omega)) (iS.up (by omega))⟩;have DR:Df P w K mg base (6 + 4 * n + 3 + 1) "_law_part" gps (spG (n + 1)):=⟨fR,dR,mR,FR.kp,bR,DQ (L:=6 + 4 * n) B FR ((DT (7 + 4 * n)).up (by omega)) (DC.up (by omega)) (iB.up (by omega))⟩;have DL:Df P w K mg base (6 + 4 * n + 3 + 1) "_law_let" gps (spG (n + 1)):=⟨fL,dL,mL,FL.kp,bL,Kh (L:=6 + 4 * n) B FL ((DT (7 + 4 * n)).up (by omega)) (DC.up (by omega)) (iB.up (by omega))⟩;have DB:Df P w K mg base (10 + 4 * n + 1) "_law_body" gps (spG (n + 1)):=⟨fB,dB,mB,FB.kp,bB,Fd (L:=10 + 4 * n) FB ((DT (8 + 4 * n)).up (by omega)) (DP.up (by omega)) (DC.up (by omega)) (DR.up (by omega)) (DL.up (by omega)) (DA.up (by omega)) (iB.up (by omega))⟩;exact ⟨⟨fS,dS,mS,FS.kp,bS,(M0 (L:=11 + 4 * n) FS ((DT (9 + 4 * n)).up (by omega)) (DP.up (by omega)) (DB.up (by omega))).mono (by omega)⟩,DB.up (by omega)⟩
end
end K4
namespace L2
open PySem
abbrev Hd:=Str × List (Str × Str) × Str
def WdS(y:Str):Prop:=1<=y.length/\y.length<=8/\∀ c∈y.cps.toList,97<=c/\c < 97 + 26
def Zx(c:Str->Nat)(ps:List (Str × Str)):Nat:=ps.foldl (fun r p=>r * c p.2) 1
theorem JT(c:Str->Nat)(ps:List (Str × Str))(p:Str × Str):Zx c (ps++ [p])=Zx c ps * c p.2:=by unfold Zx;rw [List.foldl_append];rfl
structure Ed(ns:List Str)(c:Str->Nat)(top:Nat)(h:Hd):Prop where
 len:h.2.1.length<=3
 kin:∀ p∈h.2.1,p.2∈ns
 own:h.2.2∈ns
 nd:(h.2.1.map (·.1)).Nodup
 spl:∀ p∈h.2.1,WdS p.1
 rows:Zx c h.2.1<=top
def HL(H:Hp)(kvs:List (Key × V))(hs:List Hd):Prop:=kvs.map (·.1)=hs.map (fun h=>(Sum.inr h.1:Key))/\HasL H (kvs.map (·.2)) (hs.map fun h=>hdD h.2.1 h.2.2)
theorem D2:∀ hs:List Hd,Dat.sts (hs.map fun h=>hdD h.2.1 h.2.2)=true
 | []=>by unfold List.map Dat.sts;rfl
 | h::hs=>by rw [O0];unfold Dat.sts;rw [D2 hs,JC];rfl
theorem HL.tk(h:HL H kvs hs)(t:TK H H'):HL H' kvs hs:=⟨h.1,Zj t _ (D2 hs) h.2⟩
theorem HL.len(h:HL H kvs hs):kvs.length=hs.length:=by
 have e:=congrArg List.length h.1;rw [Oh,Oh] at e;exact e
theorem HL.snoc(h:HL H kvs hs)(g:Has H v (hdD ps k)):HL H (kvs++ [(Sum.inr f,v)]) (hs++ [(f,ps,k)]):=by
 refine ⟨by rw [Oq,Oq,h.1];rfl,?_⟩;rw [Oq,Oq];exact HasL.append h.2 (HasL.one g)
theorem UN{kvs:List (Key × V)}(h:k ∉ kvs.map (·.1)):Zl kvs k=none:=by
 unfold Zl
 rw [List.find?_eq_none.mpr (fun kv hk=>by
  intro z;exact h (O1.mpr ⟨kv,hk,of_decide_eq_true z⟩))]
 rfl
theorem Nt{ys:List Str}(nd:ys.Nodup)(h:ys[i]?=some y):y ∉ ys.take i:=by
 have e:=take_snoc h;have s:(ys.take i++ [y]).Nodup:=by rw [<-e];exact nd.sublist (List.take_sublist _ _)
 exact fun z=>(List.nodup_append.mp s).2.2 y z y (Ox.mpr rfl) rfl
theorem Ml{ys:List Str}{m:Nat}(h:(ys.map V.str)[m]?=some v):∃ y,ys[m]?=some y/\v= .str y:=by
 rw [On] at h
 cases e:ys[m]? with
 | none=>rw [e] at h;cases h
 | some y=>rw [e] at h;exact ⟨y,rfl,(Oy h).symm⟩
theorem Wds.wdS(w:Wds 97 ys)(h:y∈ys):WdS y:=⟨(w.len y h).1,(w.len y h).2,w.abc y h⟩
theorem Ls(g:GB p q H H')(hp:H p=some u)(hq:H q=some v)(nu:∀ xs,u≠ .tup xs)(nv:∀ xs,v≠ .tup xs):TK H H':=fun b xs h=>g b _ (fun e=>by rw [e,hp] at h;exact nu xs (Oy h)) (fun e=>by rw [e,hq] at h;exact nv xs (Oy h)) h
theorem Zo.at(s:Zo H p):∃ xs,H p=some (.lst xs):=let ⟨_,_,_,_,h⟩:=s;⟨_,h⟩
theorem UJ(g:GB p q H H')(s:Zo H p)(hq:H q=some v)(nv:∀ xs,v≠ .tup xs):TK H H':=by
 obtain ⟨xs,h⟩:=s.at;exact Ls g h hq (fun _ z=>by cases z) nv
theorem KN(h0:0<=r)(h1:r < 6):∃ k:Nat,k<=3/\atI [V.int 0, .int 1, .int 1, .int 2, .int 2, .int 3] r=some (.int (k:Nat)):=by
 have:r=0 \/ r=1 \/ r=2 \/ r=3 \/ r=4 \/ r=5:=by omega
 rcases this with rfl | rfl | rfl | rfl | rfl | rfl
 .exact ⟨0,by decide,rfl⟩
 .exact ⟨1,by decide,rfl⟩
 .exact ⟨1,by decide,rfl⟩
 .exact ⟨2,by decide,rfl⟩
 .exact ⟨2,by decide,rfl⟩
 .exact ⟨3,by decide,rfl⟩
theorem M6{ks:List (Str × Shp)}{m:Nat}(h:HasL H xs (ks.map Yf))(e:xs[m]?=some v):∃ a u y,v= .ref a/\H a=some (.tup [.str y,u])/\y∈ks.map (·.1):=by
 obtain ⟨d,hd,hv⟩:=h.get e;rw [On] at hd
 cases ek:ks[m]? with
 | none=>rw [ek] at hd;cases hd
 | some k=>
  rw [ek] at hd;cases hd;obtain ⟨a,u,rfl,h1,h2⟩:=Vy (y:=k.1) (s:=k.2) hv;exact ⟨a,u,k.1,rfl,h1,O1.mpr ⟨k,Oo ek,rfl⟩⟩
end L2
namespace K4
open PySem L2
section
theorem VT:Za ["stream","kinds","counts","most","top","names","asks","name","words","rows","parameters","k","kind"] ["stream","kinds","counts","most","top"] (ZJ Ru):=Zu
def GR:Sp:=fun vs H Q _=> ∃ (p kl cn:Addr) (most top:Nat) (ks:List (Str × Shp)) (c d:Str->Nat) (xs:List V),vs= [.ref p, .ref kl, .ref cn, .int most, .int top]/\Zo H p/\0 < most/\most<=8/\0 < top/\top<=1000/\kl≠p/\cn≠p/\H kl=some (.lst xs)/\HasL H xs (ks.map Yf)/\
 KK 30 c d ks/\0 < ks.length/\ks.length<=6/\Ns H cn ks c/\∀ (hA:Addr) (kvs:List (Key × V)) (hs:List Hd) (H':Hp),SameB p H H'->Zo H' p->H hA=none->hA≠p->H' hA=some (.dK kvs)->0 < hs.length->hs.length<=8->HL H' kvs hs->Wds 97 (hs.map (·.1))->(∀ h∈hs,Ed (ks.map (·.1)) c top h)->Q (.ref hA) H'
theorem De(B:Blt mg)(F:Fun K "_law_heads" "_law_heads" Ru f fd)(DT:Df P w K mg base n "_law_take" ["stream","many"] Yl)(DS:Df P w K mg base n "_law_small" ["stream","many"] JR):
  ZQ P w K mg base CX0 (n + 1) f fd ["stream","kinds","counts","most","top"] GR:=by
 refine F.oq VT fun cdv A outer s H vs Q E hr h=>?_;obtain ⟨p,kl,cn,most,top,ks,c,d,xs,rfl,hs,m0,m7,t0,t3,nkp,ncp,hkl,hxs,kk,k0,k6,hns,q⟩:=h;have hu:=Y3 hr;refine ⟨_,ZA (ZM 5 VT.nd (ZZ DS hr (pa2 (pv 0) (ZX YC ZD (ZZ DT hr (pa2 (pv 0) (pv 3)))))))
  (ZA (ZM 6 VT.nd Yn)
  (ZA (Yb PassesOwn.never rfl (Yk (pv 5)) (ZL 7 VT.nd)
   (ZA (ZM 8 VT.nd (ZZ DS hr (pa2 (pv 0) ZD)))
   (ZA (ZM 9 VT.nd ZD)
   (ZA (ZM 10 VT.nd (Zp YK))
   (ZA (Yb PassesOwn.never rfl (VN rfl B.range (pa1 (ZT Zh (Zp (pa6 ZD ZD ZD ZD ZD ZD)) (ZZ DT hr (pa2 (pv 0) ZD)) (fun _ _=>rfl)))) (ZL 11 VT.nd)
    (ZA (ZM 12 VT.nd (ZT Zc (ZT Zh (pv 1) (ZZ DT hr (pa2 (pv 0) (ZU ZP rfl B.len PySem.boot_len (pa1 (pv 1))))) (fun _ _=>rfl)) ZD))
    (ZF (Zg (ZN UV (ZX Y7 (pv 9) (Zd hu (pv 2) (pv 12) (fun _ _=>rfl))) (pv 4) (ZW _))
     (ZA (ZM 9 VT.nd (ZX Y7 (pv 9) (Zd hu (pv 2) (pv 12) (fun _ _=>rfl))))
     (ZF (Ye (JI PySem.F.plainAttrs_list PySem.F.slot_list_append PySem.F.type_list_append Yp (pv 10) (pa1 (Zi (pa2 (ZT Zh (pv 8) (pv 11) (fun _ _=>rfl)) (pv 12)))))))) ZO))))
   (ZF (YF hu (pv 6) (pv 7) (Zi (pa2 (Zm Yq rfl B.tuple Yh (pa1 (pv 10))) (ZT Zc (ZT Zh (pv 1) (ZZ DT hr (pa2 (pv 0) (ZU ZP rfl B.len PySem.boot_len (pa1 (pv 1))))) (fun _ _=>rfl)) ZD))) rfl)))))))
  (ZF (ZV (pv 6))))),?_⟩
 dsimp only [Yo,Cx.nox,Cx.wish];show let a:=_;let b:=_;let c:=_;let d:=ZK _ c;let e:=Zv _ d _;let f:=ZK _ e;let g:=ZK (Vg _ _ f) b;let h:=ZK _ g;let i:=ZK _ h;let j:=ZK _ i;let k:=ZK (Vg _ _ j) a;let l:=ZK _ k;ZK _ l _ _ _
 intros
 have lx:=hxs.length;rw [Oh] at lx;refine ⟨p,most,rfl,hs,by omega,by omega,fun r H1 r0 r1 b1 s1=>?_⟩;obtain ⟨rn,rfl⟩:∃ m:Nat,r=m:=⟨r.toNat,by omega⟩;refine ⟨p,1 + rn,(by show [V.ref p,V.int (1 + (rn:Int))]= [V.ref p,V.int ((1 + rn:Nat):Int)];push_cast;rfl),s1,by omega,fun nm ys H2 b2 s2 f2 np2 hnm hly wds=>?_⟩;intro aA haA;have sb2:SameB p H H2:=b1.sb.trans b2;have s3:=ZH haA (.dK []);have g3:upd H2 aA (.dK []) aA=some (.dK []):=ZC;have nap:aA≠p:=s2.ne haA;have fa:H aA=none:=sb2.free nap haA;generalize upd H2 aA (.dK [])=H3 at s3 g3 |-;have sb3:SameB p H H3:=sb2.trans s3.sb;have hnm3:=s3 _ _ hnm;have nma:nm≠aA:=ZG hnm haA;have kla:kl≠aA:=ZG hkl fa;obtain ⟨kc,hkc,hcv⟩:=id hns;have cna:cn≠aA:=ZG hkc fa;have ly:(ys.map V.str).length=ys.length:=Oh _;refine ⟨⟨_,SqL.of hnm3⟩,?_⟩
 let I:Nat->St->Hp->Prop:=fun i U Hi=>GB p aA H3 Hi/\Zo Hi p/\∃ kvs hs,Hi aA=some (.dK kvs)/\HL Hi kvs hs/\hs.map (fun h:Hd=>h.1)=ys.take i/\(∀ h∈hs,Ed (ks.map fun k:Str × Shp=>k.1) c top h)/\∃ z7 z8 z9 z10 z11 z12,U= [some (.ref p),some (.ref kl),some (.ref cn),some (.int most),some (.int top),some (.ref nm),some (.ref aA),z7,z8,z9,z10,z11,z12]
 refine J3 (xs:=ys.map V.str) I
  ⟨GB.refl _ _ _,s2.sm s3, [], [],g3,⟨rfl,HasL.nil⟩,rfl,(fun kv hk=>nomatch hk),_,_,_,_,_,_,rfl⟩ (fun i U Hi _ z=>SqL.of (z.1 _ _ np2 nma hnm3)) ?_ ?_
 .rintro BB RR i x U Hi hx ⟨gi,si,kvs,hs',hai,hli,lki,hpi,z7,z8,z9,z10,z11,z12,rfl⟩
  obtain ⟨name,hname,rfl⟩:=Ml hx
  have lkv:kvs.length<=i:=by
   have e:=congrArg List.length lki;rw [Oh,Ou] at e;have e2:=hli.len;omega
  have ilt:i < 8:=by have:=(Ol.mp hx).1;omega
  refine ⟨p,3,rfl,si,by decide,fun wl wy H4 b4 s4 f4 np4 hwl lwy wdy=>?_⟩;refine ⟨sl 0,fun pl hpl=>?_⟩;have s5:=ZH hpl (.lst []);have g5:upd H4 pl (.lst []) pl=some (.lst []):=ZC;have npp:pl≠p:=s4.ne hpl;have ha4:=b4 _ _ nap hai;have npa:pl≠aA:=(ZG ha4 hpl).symm;have nwl:wl≠pl:=ZG hwl hpl;have kl4:=b4 _ _ nkp (gi _ _ nkp kla (sb3 _ _ nkp hkl));have cn4:=b4 _ _ ncp (gi _ _ ncp cna (sb3 _ _ ncp hkc));have nklp:kl≠pl:=ZG kl4 hpl;have ncnp:cn≠pl:=ZG cn4 hpl;generalize upd H4 pl (.lst [])=H5 at s5 g5 |-;refine ⟨sl 6,fun sx hsx=>?_⟩;have s6:=ZH hsx (.lst [.int 0, .int 1, .int 1, .int 2, .int 2, .int 3]);have g6:upd H5 sx (.lst [.int 0, .int 1, .int 1, .int 2, .int 2, .int 3]) sx=some (.lst [.int 0, .int 1, .int 1, .int 2, .int 2, .int 3]):=ZC;have nsp:sx≠p:=(s4.sm s5).ne hsx;generalize upd H5 sx (.lst [.int 0, .int 1, .int 1, .int 2, .int 2, .int 3])=H6 at s6 g6 |-;refine ⟨p,6,rfl,(s4.sm s5).sm s6,by decide,by decide,fun r7 H7 r70 r71 b7 s7=>?_⟩;obtain ⟨kN,hkN,hat⟩:=KN r70 r71;refine ⟨_,_,SqL.of (b7.sb _ _ nsp g6),hat,_,rfl,by omega,by omega,?_⟩;have s47:SameB p H4 H7:=(s5.sb.trans s6.sb).trans b7.sb;have pl7:=b7.sb _ _ npp (s6 _ _ g5);have wl7:=s47 _ _ np4 hwl;have kl7:=s47 _ _ nkp kl4;have cn7:=s47 _ _ ncp cn4;have sb7:GB p aA H3 H7:=(gi.trans b4.gb).trans s47.gb
  have hx7:HasL H7 xs (ks.map Yf):=by
   refine Zj (fun b zs h=>?_) _ (YB ks) hxs;have h3:=sb3 b _ (Zt hs h) h;exact sb7 b _ (Zt hs h) (fun e=>by rw [e,fa] at h;cases h) h3
  let I:Nat->St->Hp->Prop:=fun j U Hj=>GB p pl H7 Hj/\Zo Hj p/\∃ (zs:List V) (ps:List (Str × Str)) (rw':Nat),Hj pl=some (.lst zs)/\zs.length=ps.length/\ps.length<=j/\HasL Hj zs (ps.map fun p=> .tup [.str p.1, .str p.2])/\(∀ p∈ps,p.2∈ks.map fun k:Str × Shp=>k.1)/\(ps.map fun p:Str × Str=>p.1).Sublist (wy.take j)/\rw'<=1000/\(rw'=Zx c ps/\rw'<=top)/\∃ z11 z12,
   U= [some (.ref p),some (.ref kl),some (.ref cn),some (.int most),some (.int top),some (.ref nm),some (.ref aA),some (.str name),some (.ref wl),some (.int (rw':Nat)),some (.ref pl),z11,z12]
  refine Ub (n:=((kN:Nat):Int).toNat) I ⟨GB.refl _ _ _,s7, [], [],1,pl7,rfl,Om _,HasL.nil,(fun p hp=>nomatch hp),List.nil_sublist _,by decide,⟨rfl,t0⟩,_,_,rfl⟩ ?_ ?_
  .rintro BB RR j U Hj hj ⟨gj,sj,zs,ps,rw',hplj,lz,lp,hzs,hpn,hsub,hrw,hrc,z11,z12,rfl⟩
   have hj3:j < 3:=by omega
   have klj:=gj _ _ nkp nklp kl7;have tkj:TK H7 Hj:=UJ gj s7 pl7 (fun _ z=>by cases z);refine ⟨kl,_,rfl, .inl (SqL.of klj),p,_,rfl,sj,by omega,by omega,fun r8 H8 r80 r81 b8 s8=>?_⟩;obtain ⟨m8,v8,hv1,hv2⟩:=Je r80 r81;obtain ⟨ka,ku,y,rfl,hka,hy⟩:=M6 (Zj tkj _ (YB ks) hx7) hv1;have kc:=(kk.small hy).2;have cyv:=hcv y hy;have gb8:GB p pl Hj H8:=b8.sb.gb;refine ⟨_,_,SqL.of (b8.sb _ _ nkp klj),hv2,_,_,SqT.of (b8.sb _ _ (Zt sj hka) hka),rfl,?_⟩;have cn8:=b8.sb _ _ ncp (gj _ _ ncp ncnp cn7);have dg:YD H8 cn (.str y) (some (.int (c y:Nat))):=by rw [<-cyv];exact YD.k (k:=Sum.inr y) cn8
   have mul:((rw':Nat):Int) * ((c y:Nat):Int)=((rw' * c y:Nat):Int):=by push_cast;rfl
   have mle:rw' * c y<=1000 * 30:=Nat.mul_le_mul hrw kc;refine ⟨_,dg, .inl ⟨by omega,by omega⟩,_,rfl,?_⟩;have pl8:=b8.sb _ _ npp hplj;refine Yc (fun c1=>?_) (fun c1=>?_)
   .have c1':((rw':Nat):Int) * ((c y:Nat):Int)<=(top:Int):=of_decide_eq_true c1
    rw [mul] at c1';refine ⟨_,dg, .inl ⟨by omega,by omega⟩,?_⟩;have wl8:=b8.sb _ _ np4 (gj _ _ np4 nwl wl7);have hjw:j < wy.length:=by omega
    have aw:atI (wy.map V.str) ((0:Int) + (j:Int))=some (.str wy[j]):=by
     rw [Int.zero_add];exact YA (by rw [On,Oi hjw];rfl)
    refine ⟨.inl ⟨rfl,_,SqL.of pl8⟩,_,_,SqL.of wl8,aw,sl 2,fun t9 ht9=>?_⟩;refine up_in ht9 _ fun H9 s9 g9=>?_;have pl9:=s9 _ _ pl8;refine ⟨pl,zs,_,rfl,rfl,pl9,ZI (by omega),?_⟩;have gbw:GB p pl H9 (upd H9 pl (.lst (zs++ [.ref t9]))):=N6;have tk9:TK H9 (upd H9 pl (.lst (zs++ [.ref t9]))):=UJ gbw (s8.sm s9) pl9 (fun _ z=>by cases z);have tkA:TK Hj (upd H9 pl (.lst (zs++ [.ref t9]))):=fun b us h=>tk9 _ _ (s9 _ _ (b8.sb _ _ (Zt sj h) h));refine ⟨((gj.trans gb8).trans s9.gb).trans gbw,(s8.sm s9).keep (ZE (Ne.symm npp)),zs++ [.ref t9],ps++ [(wy[j],y)],rw' * c y,ZC,by simp [lz],by simp;omega,?_,fun pr hpr=>?_,?_,by omega,⟨by rw [JT,<-hrc.1],by omega⟩,_,_,by rw [<-mul];rfl⟩
    .rw [Oq]
     refine HasL.append (Zj tkA _ ?_ hzs) (HasL.one (XY (tk9 _ _ g9)));have:=JC ps "";unfold hdD Dat.st Dat.sts at this;rw [O4] at this;have t1:=this.1;unfold Dat.st at t1;exact t1
    .rcases O2.mp hpr with z | z
     .exact hpn pr z
     .cases Ox.mp z
      exact hy
    .rw [Oq,show wy.take (j + 1)=wy.take j++ [wy[j]] from take_snoc (Oi hjw)]
     exact List.Sublist.append hsub (List.Sublist.refl _)
   .refine ⟨gj.trans gb8,s8,zs,ps,rw',pl8,lz,by omega,Zj (fun b us h=>b8.sb _ _ (Zt sj h) h) _ ?_ hzs,hpn,hsub.trans (List.take_sublist_take_left (by omega)),hrw,hrc,_,_,rfl⟩
    have:=JC ps "";unfold hdD Dat.st Dat.sts at this;rw [O4] at this;have t1:=this.1;unfold Dat.st at t1;exact t1
  .rintro U Hj ⟨gj,sj,zs,ps,rw',hplj,lz,lp,hzs,hpn,hsub,hrw,hrc,z11,z12,rfl⟩
   have lp3:ps.length<=3:=by omega
   refine ⟨pl,zs,rfl, .inl ⟨SqL.of hplj,fun t8 ht8=>?_⟩⟩;refine up_in ht8 _ fun H8 s8 g8=>?_;have kl8:=s8 _ _ (gj _ _ nkp nklp kl7);have tk8:TK H7 H8:=fun b us h=>s8 _ _ (UJ gj s7 pl7 (fun _ z=>by cases z) _ _ h);refine ⟨kl,_,rfl, .inl (SqL.of kl8),p,_,rfl,sj.sm s8,by omega,by omega,fun r9 H9 r90 r91 b9 s9=>?_⟩;obtain ⟨m9,v9,hv1,hv2⟩:=Je r90 r91;obtain ⟨ka,ku,y,rfl,hka,hy⟩:=M6 (Zj tk8 _ (YB ks) hx7) hv1;have tk9:TK H8 H9:=fun b us h=>b9.sb _ _ (Zt (sj.sm s8) h) h;refine ⟨_,_,SqL.of (b9.sb _ _ nkp kl8),hv2,_,_,SqT.of (tk9 _ _ hka),rfl,sl 2,fun tA htA=>?_⟩;refine up_in htA _ fun HA sA gA=>?_;have gAll:GB p pl H7 HA:=((gj.trans s8.gb).trans b9.sb.gb).trans sA.gb;have aA7:=s47 _ _ nap ha4;have aAA:=gAll _ _ nap (Ne.symm npa) aA7;refine ⟨_,VJ.k (k:=Sum.inr name) aAA (ZI (by omega)),?_⟩;have gbw:GB p aA HA (upd HA aA (.dK (putK kvs (Sum.inr name) (.ref tA)))):=N6;have stA:Zo HA p:=s9.sm sA;have tkW:TK HA (upd HA aA (.dK (putK kvs (Sum.inr name) (.ref tA)))):=UJ gbw stA aAA (fun _ z=>by cases z)
   have frH:∀ b o,b≠p->b≠aA->H3 b=some o->HA b=some o:=fun b o n1 n2 e=>by
    have e4:=b4 b o n1 (gi b o n1 n2 e);exact gAll b o n1 (ZG e4 hpl) (s47 b o n1 e4)
   have tkI:TK Hi HA:=fun b us h=>by
    have e4:=b4 b _ (Zt si h) h;exact gAll b _ (Zt si h) (ZG e4 hpl) (s47 b _ (Zt si h) e4)
   refine ⟨fun b o n1 n2 e=>gbw b o n1 n2 (frH b o n1 n2 e),stA.keep (ZE (Ne.symm nap)),putK kvs (Sum.inr name) (.ref tA),hs'++ [(name,ps,y)],ZC,?_,by rw [Oq,lki,take_snoc hname];rfl,fun h hh=>?_,_,_,_,_,_,_,rfl⟩
   .have ek:putK kvs (Sum.inr name) (.ref tA)=kvs++ [(Sum.inr name, .ref tA)]:=Jn _ (UN (by
     rw [hli.1];intro z;obtain ⟨h',hh',e'⟩:=O1.mp z;have e2:h'.1=name:=Sum.inr.inj e';refine Nt wds.nd hname ?_;rw [<-lki];exact O1.mpr ⟨h',hh',e2⟩))
    refine Eq.mpr (congrArg (fun l=>HL (upd HA aA (.dK (putK kvs (Sum.inr name) (.ref tA)))) l (hs'++ [(name,ps,y)])) ek) ((hli.tk (fun b us h=>tkW _ _ (tkI _ _ h))).snoc ?_);unfold hdD;refine Zk (tkW _ _ gA) (HasL.cons (Zk (tkW _ _ (sA _ _ (tk9 _ _ g8))) ?_) (HasL.one Zn));have:=JC ps "";unfold hdD Dat.st Dat.sts at this;rw [O4] at this;have t1:=this.1;unfold Dat.st at t1;exact Zj (fun b us h=>tkW _ _ (sA _ _ (tk9 _ _ (s8 _ _ h)))) _ t1 hzs
   .rcases O2.mp hh with z | z
    .exact hpi h z
    .cases Ox.mp z
     exact ⟨lp3,hpn,hy,(wdy.nd.sublist (List.take_sublist _ _)).sublist hsub,fun p hp=>wdy.wdS (PK (hsub.subset (O1.mpr ⟨p,hp,rfl⟩))),by show Zx c ps<=top;rw [<-hrc.1];exact hrc.2⟩
 .rintro U Hi ⟨gi,si,kvs,hs',hai,hli,lki,hpi,z7,z8,z9,z10,z11,z12,rfl⟩
  rw [ly,List.take_length] at lki;have lh:hs'.length=ys.length:=by rw [<-lki,Oh]
  refine q aA kvs hs' Hi (fun b o n1 e=>gi b o n1 (ZG e fa) (sb3 b o n1 e)) si fa nap hai (by omega) (by omega) hli (by rw [lki];exact wds) hpi
end
end K4
namespace L2
open PySem
theorem By:∀ {ps:List (Str × Str)}{xs:List V},HasL H xs (ps.map fun p=> .tup [.str p.1, .str p.2])->∃ (ts:List Addr),xs=ts.map V.ref/\W4 K H ts (ps.map fun p=>((Sum.inr p.1:Key),V.str p.2))
 | [],xs,h=>by
  obtain rfl:=VY h;exact ⟨[],rfl,rfl,fun i a k y e=>by simp at e⟩
 | q::ps,xs,h=>by
  rw [O0] at h;obtain ⟨x,r,rfl,h1,h2⟩:=Z0 h;obtain ⟨t,rfl,ht⟩:=UZ h1;obtain ⟨ts,rfl,tl,tp⟩:=By (K:=K) h2;refine ⟨t::ts,rfl,by simp [tl],fun i b k y e1 e2=>?_⟩
  cases i with
  | zero=>
   have e1':some t=some b:=e1;have e2':some ((Sum.inr q.1:Key),V.str q.2)=some (k,y):=e2;cases e1';cases e2';exact SqT.of ht
  | succ i=>exact tp i b k y e1 e2
abbrev Dd:=Hd × Bd
def VR(x:Dd):Dat:= .tup [.str x.1.1, .tup (x.1.2.1.map fun p=> .tup [.str p.1, .str p.2]), .str x.1.2.2,x.2.dat]
def kvP(ps:List (Str × Str)):List (Key × V):=ps.map fun p=>((Sum.inr p.1:Key),V.str p.2)
def XH(hs:List Hd):Hds:=fun f=>(hs.find? fun h=>decide (h.1=f)).map (·.2)
structure Ef(ks:List (Str × Shp))(hs:List Hd)(x:Dd):Prop where
 kd:Kd ks (XH hs) (kvP x.1.2.1) x.1.2.2 x.2
 ok:x.2.ok
 dep:x.2.dep<=11
 size:x.2.size<=40
theorem VU(ps:List (Str × Str)):Dat.sts (ps.map fun p=>Dat.tup [.str p.1, .str p.2])=true:=by
 have:=JC ps "";unfold hdD Dat.st Dat.sts at this;rw [O4] at this;have t1:=this.1;unfold Dat.st at t1;exact t1
theorem NL(x:Dd):(VR x).st=true:=by
 unfold VR;simp [Dat.st,Dat.sts,VU,Bd.st]
theorem Jc:∀ ds:List Dd,Dat.sts (ds.map VR)=true
 | []=>by unfold List.map Dat.sts;rfl
 | x::ds=>by rw [O0];unfold Dat.sts;rw [Jc ds,NL];rfl
theorem RD(nd:(hs.map (·.1)).Nodup)(m:h∈hs):XH hs h.1=some h.2:=by
 induction hs with
 | nil=>exact nomatch m
 | cons g hs ih=>
  rw [O0,List.nodup_cons] at nd;unfold XH;rw [List.find?_cons];rcases O8.mp m with e | e
  .subst e;simp
  .have ne: ¬ g.1=h.1:=fun q=>nd.1 (by rw [q];exact O1.mpr ⟨_,e,rfl⟩)
   rw [decide_eq_false ne];exact ih nd.2 e
theorem Mg:∀ {kvs:List (Key × V)},(kvs.map (·.1)).Nodup->∀ {kv:Key × V},kv∈kvs->Zl kvs kv.1=some kv.2
 | [],_,kv,m=>nomatch m
 | g::kvs,nd,kv,m=>by
  rw [O0,List.nodup_cons] at nd;unfold Zl;rw [List.find?_cons];rcases O8.mp m with e | e
  .subst e;simp
  .have ne: ¬ g.1=kv.1:=fun q=>nd.1 (by rw [q];exact O1.mpr ⟨_,e,rfl⟩)
   rw [decide_eq_false ne];exact Mg nd.2 e
theorem HL.at(h:HL H kvs hs)(nd:(hs.map (·.1)).Nodup){i:Nat}(e:kvs[i]?=some kv):∃ g:Hd,hs[i]?=some g/\kv.1=Sum.inr g.1/\Has H kv.2 (hdD g.2.1 g.2.2)/\Zl kvs (Sum.inr g.1)=some kv.2:=by
 have nk:(kvs.map (·.1)).Nodup:=by
  rw [h.1];unfold List.Nodup at nd |-;rw [List.pairwise_map] at nd |-;exact nd.imp fun hab q=>hab (Sum.inr.inj q)
 have e1:(kvs.map (·.1))[i]?=(hs.map (fun h=>(Sum.inr h.1:Key)))[i]?:=by rw [h.1]
 rw [On,On,e] at e1
 cases eg:hs[i]? with
 | none=>rw [eg] at e1;cases e1
 | some g=>
  rw [eg] at e1;have e2:kv.1=Sum.inr g.1:=Oy e1;obtain ⟨d,d1,d2⟩:=h.2.get (show (kvs.map (·.2))[i]?=some kv.2 by rw [On,e];rfl);rw [On,eg] at d1;cases d1;exact ⟨g,rfl,e2,d2,by rw [<-e2];exact Mg nk (Oo e)⟩
theorem Zo.tkB(s:Zo H p)(b:SameB p H H'):TK H H':=fun c xs h=>b c _ (Zt s h) h
theorem KB(h0:0<=r)(h1:r < 2):∃ k:Nat,k<=2/\atI [V.int 0, .int 2] r=some (.int (k:Nat)):=by
 have:r=0 \/ r=1:=by omega
 rcases this with rfl | rfl
 .exact ⟨0,by decide,rfl⟩
 .exact ⟨2,by decide,rfl⟩
end L2
namespace K4
open PySem L2
section
theorem BO:bootBuiltins "min" =some (.builtin "min"):=by decide +kernel
theorem VZ:Za ["cell","most","many","top","left","stream","kinds","counts","asks","lets","definitions","f","around","world","body"] ["cell","most","many","top","left"] (ZJ Bq):=Zu
def Rf:Sp:=fun vs H Q _=> ∃ (cell:Int) (most many top:Nat) (left:Int),vs= [.int cell, .int most, .int many, .int top, .int left]/\0 < most/\most<=6/\0 < many/\many<=8/\30<=top/\top<=1000/\
 ∀ (r kl dl:Addr) (ks:List (Str × Shp)) (c d:Str->Nat) (hs:List Hd) (ds:List Dd) (xs zs:List V) (H':Hp),Same H H'->H' r=some (.tup [.ref kl, .ref dl])->H' kl=some (.lst xs)->HasL H' xs (ks.map Yf)->KK 30 c d ks->(ks.map (·.1)).Nodup->0 < ks.length->ks.length<=6->KG ks->H' dl=some (.lst zs)->HasL H' zs (ds.map VR)->ds.map (·.1)=hs->0 < hs.length->hs.length<=8->Wds 97 (hs.map (·.1))->(∀ h∈hs,Ed (ks.map (·.1)) c top h)->(∀ x∈ds,Ef ks hs x)->Q (.ref r) H'
theorem Fc(B:Blt mg)(mm:mg "min" =none)(F:Fun K "_law_book" "_law_book" Bq f fd)(DM:Df P w K mg base n "_law_stream" ["cell"] Xu)(DT:Df P w K mg base n "_law_take" ["stream","many"] Yl)(DS:Df P w K mg base n "_law_small" ["stream","many"] JR)(DK:Df P w K mg base n "_law_kinds" ["stream","most","top"] GJ)(DH:Df P w K mg base n "_law_heads" ["stream","kinds","counts","most","top"] GR)(DB:Df P w K mg base n "_law_body" gps (spG 9))(DP:Df P w K mg base n "_law_plain" ["stream","world","around","kind"] (VD 3))(DZ:Df P w K mg base n "_law_size" ["body"] (Uh 12)):
  ZQ P w K mg base CX0 (n + 1) f fd ["cell","most","many","top","left"] Rf:=by
 refine F.oq VZ fun cdv A outer s H vs Q E hr h=>?_;obtain ⟨cell,most,many,top,left,rfl,m0,m6,n0,n7,t0,t3,q⟩:=h;have hu:=Y3 hr;refine ⟨_,ZA (ZM 5 VZ.nd (ZZ DM hr (pa1 (pv 0))))
  (ZA (V9 (ZZ DK hr (pa3 (pv 5) (pv 1) (ZU (BJ rfl) rfl mm BO (pa2 (pv 3) ZD)))) (Yr (n:=2) rfl (Zf (ZL 6 VZ.nd) (Zf (ZL 7 VZ.nd) YX))))
  (ZA (Gu (ZM 8 VZ.nd (ZZ DH hr (pa5 (pv 5) (pv 6) (pv 7) (pv 2) (pv 3)))))
  (ZA (ZM 9 VZ.nd (ZZ DS hr (pa2 (pv 5) ZD)))
  (ZA (V9 (ZT Zh (pv 9) (ZT Zh (Zp (pa2 ZD ZD)) (ZZ DT hr (pa2 (pv 5) ZD)) (fun _ _=>rfl)) (fun _ _=>rfl)) (Gw (pv 9) ZD set_list))
  (ZA (ZM 10 VZ.nd (Zp YK))
  (ZA (Yb PassesOwn.never rfl (Jo (pv 8)) (ZL 11 VZ.nd)
   (ZA (Gu (ZM 12 VZ.nd (Zm (U3 rfl) rfl B.dict Jd (pa1 (ZT Zc (Zd hu (pv 8) (pv 11) (fun _ _=>rfl)) ZD)))))
   (ZA (Gu (ZM 13 VZ.nd (FH (UU ZY (Zm (r:=R6 K) (WO rfl) rfl B.dict Jd (pa1 (pv 6))) (UU ZY (pv 8) (UU ZY (pv 9) (UU ZY (pv 4) FD)))) rfl rfl (by simp) (by decide))))
   (ZA (ZM 14 VZ.nd (ZZ DB hr (pa5 (pv 5) (pv 13) (pv 12) (ZT Zc (Zd hu (pv 8) (pv 11) (fun _ _=>rfl)) ZD) ZD)))
   (ZA (Zg (ZN Vt (ZZ DZ hr (pa1 (pv 14))) ZD (ZW _))
    (ZF (ZM 14 VZ.nd (ZZ DP hr (pa4 (pv 5) (pv 13) (pv 12) (ZT Zc (Zd hu (pv 8) (pv 11) (fun _ _=>rfl)) ZD))))) ZO)
   (ZF (Ye (JI PySem.F.plainAttrs_list PySem.F.slot_list_append PySem.F.type_list_append Yp (pv 10) (pa1 (Zi (pa4 (pv 11) (ZT Zc (Zd hu (pv 8) (pv 11) (fun _ _=>rfl)) ZD) (ZT Zc (Zd hu (pv 8) (pv 11) (fun _ _=>rfl)) ZD) (pv 14))))))))))))
  (ZF (ZV (Zi (pa2 (pv 6) (pv 10))))))))))),?_⟩
 dsimp only [Yo,Cx.nox,Cx.wish];show let a:=_;let b:=_;let c:=_;let d:=ZK (Zv _ c _) b;let e:=ZK _ d;let f:=ZK _ e;let g:=ZK _ f;let h:=ZK (Vg _ _ g) a;let i:=ZK _ h;let j:=ZK _ i;let k:=ZK _ j;let l:=ZK _ k;let m:=ZK _ l;ZK _ m _ _ _
 intros
 have emin:(if (30:Int) < (top:Int) then (30:Int) else (top:Int))=((30:Nat):Int):=by split <;> omega
 refine ⟨cell,rfl,fun p H1 fp b1 s1=>?_⟩;refine ⟨_,_,rfl,p,most,30,by rw [emin];rfl,s1,m0,m6,by decide,fun r2 kl cn ks c d xs H2 b2 s2 f2 nr2 hr2 fkl nkp hkl hxs kk nd k0 k6 kg fcn ncp hns=>?_⟩;refine ⟨_,SqT.of hr2,rfl,?_⟩;refine ⟨p,kl,cn,many,top,ks,c,d,xs,rfl,s2,n0,n7,by omega,t3,nkp,ncp,hkl,hxs,kk,k0,k6,hns,fun hA kvs hs H3 b3 s3 fhA nhp hhA lk0 lkv hp wdh hok=>?_⟩;refine ⟨hA,kvs,hhA,fun oH=>?_⟩;have b4:SameB p H2 (upd H3 hA (.frz oH (.dK kvs))):=fun b o n e=>by rw [ZE (ZG e fhA)];exact b3 b o n e
 have g4:upd H3 hA (.frz oH (.dK kvs)) hA=some (.frz oH (.dK kvs)):=ZC;have st4:Zo (upd H3 hA (.frz oH (.dK kvs))) p:=s3.keep (ZE (Ne.symm nhp));have tk4:TK H3 (upd H3 hA (.frz oH (.dK kvs))):=fun b us h=>by rw [ZE (fun e=>by rw [e,hhA] at h;cases h)];exact h
 have hp4:=hp.tk tk4;generalize upd H3 hA (.frz oH (.dK kvs))=H4 at b4 g4 st4 hp4 |-;refine ⟨p,3,rfl,st4,by decide,fun lA ly H5 b5 s5 flA nlp hlA lly wdl=>?_⟩;refine ⟨sl 2,fun sx hsx=>?_⟩;have s6:=ZH hsx (.lst [.int 0, .int 2]);have g6:upd H5 sx (.lst [.int 0, .int 2]) sx=some (.lst [.int 0, .int 2]):=ZC;have nsp:sx≠p:=s5.ne hsx;generalize upd H5 sx (.lst [.int 0, .int 2])=H6 at s6 g6 |-;refine ⟨p,2,rfl,s5.sm s6,by decide,by decide,fun r7 H7 r70 r71 b7 s7=>?_⟩;obtain ⟨kN,hkN,hat⟩:=KB r70 r71;have lA7:H7 lA=some (.lst (ly.map V.str)):=b7.sb _ _ nlp (s6 _ _ hlA);have kl3:kN < ly.length:=by omega
 have lml:(ly.map V.str).length=ly.length:=Oh _;have aw:atI (ly.map V.str) ((kN:Nat):Int)=some (.str ly[kN]):=YA (by rw [On,Oi kl3];rfl)
 have ix2:ixN (ly.map V.str).length 2=some 2:=by
  unfold ixN;rw [if_pos (by decide),if_pos (by omega)];rfl
 refine ⟨_,_,SqL.of (b7.sb _ _ nsp g6),hat,_,_,SqL.of lA7,aw,lA,_,2,2,rfl,rfl,lA7,ix2,?_⟩;have emap:(ly.map V.str).set 2 (.str ly[kN])=(ly.set 2 ly[kN]).map V.str:=by rw [List.map_set]
 rw [emap]
 have b8:SameB p H4 (upd H7 lA (.lst ((ly.set 2 ly[kN]).map V.str))):=fun b o n e=>by
  rw [ZE (ZG e flA)];exact b7.sb b o n (s6 b o (b5 b o n e))
 have g8:upd H7 lA (.lst ((ly.set 2 ly[kN]).map V.str)) lA=some (.lst ((ly.set 2 ly[kN]).map V.str)):=ZC;have st8:Zo (upd H7 lA (.lst ((ly.set 2 ly[kN]).map V.str))) p:=s7.keep (ZE (Ne.symm nlp));generalize upd H7 lA (.lst ((ly.set 2 ly[kN]).map V.str))=H8 at b8 g8 st8 |-;refine ⟨sl 0,fun dl hdl=>?_⟩;have s9:=ZH hdl (.lst []);have g9:upd H8 dl (.lst []) dl=some (.lst []):=ZC;have ndp:dl≠p:=st8.ne hdl;have nld:lA≠dl:=ZG g8 hdl;have kl8:=b8 _ _ nkp (b4 _ _ nkp hkl);have hA8:=b8 _ _ nhp g4;have nkd:kl≠dl:=ZG kl8 hdl;have nhd:hA≠dl:=ZG hA8 hdl;generalize upd H8 dl (.lst [])=H9 at s9 g9 |-;have b49:SameB p H4 H9:=b8.trans s9.sb;have b29:SameB p H2 H9:=b4.trans b49;have st9:=st8.sm s9;have hx9:HasL H9 xs (ks.map Yf):=Zj (s2.tkB b29) _ (YB ks) hxs;have hp9:HL H9 kvs hs:=hp4.tk (st4.tkB b49);have lkh:=hp9.len;have kl9:=s9 _ _ kl8;have hA9:=s9 _ _ hA8;have lA9:=s9 _ _ g8
 have sH9:Same H H9:=fun b o e=>by
  have n1:=ZG e fp;exact b29 b o n1 (b2 b o n1 ((b1 b n1).trans e))
 have sH8:Same H H8:=fun b o e=>by
  have n1:=ZG e fp;exact b8 b o n1 (b4 b o n1 (b2 b o n1 ((b1 b n1).trans e)))
 have fdl:H dl=none:=sH8.free hdl;refine ⟨hA,oH,kvs,rfl,hA9,?_⟩
 let I:Nat->St->Hp->Prop:=fun i U Hi=>GB p dl H9 Hi/\Zo Hi p/\∃ (zs:List V) (ds:List Dd),Hi dl=some (.lst zs)/\HasL Hi zs (ds.map VR)/\ds.map (fun x:Dd=>x.1)=hs.take i/\(∀ x∈ds,Ef ks hs x)/\∃ z11 z12 z13 z14,U= [some (.int cell),some (.int most),some (.int many),some (.int top),some (.int left),some (.ref p),some (.ref kl),some (.ref cn),some (.ref hA),some (.ref lA),some (.ref dl),z11,z12,z13,z14]
 refine NE I
  ⟨GB.refl _ _ _,st9, [], [],g9,HasL.nil,rfl,(fun z hz=>nomatch hz),_,_,_,_,rfl⟩ (fun i U Hi _ z=>z.1 _ _ nhp nhd hA9) ?_ ?_
 .rintro BB RR i kv U Hi hkv ⟨gi,si,zs,ds,hdi,hzi,lzi,dfi,z11,z12,z13,z14,rfl⟩
  have hkm:=Oo hkv;have i8:i < 8:=by have:=(Ol.mp hkv).1;omega
  have tki:TK H9 Hi:=UJ gi st9 g9 (fun _ z=>by cases z);have hpi:=hp9.tk tki;obtain ⟨⟨fn,ps,k⟩,hgi,ek1,hh,hv⟩:=hpi.at wdh.nd hkv;have hgm:=Oo hgi;obtain ⟨p3,pk,hk,psn,psw,psr⟩:=hok _ hgm;have hfd:XH hs fn=some (ps,k):=RD wdh.nd hgm
  have lzs:zs.length<=i:=by
   have e1:=hzi.length;have e2:=congrArg List.length lzi;rw [Oh] at e1 e2;rw [Ou] at e2;omega
  rw [ek1];dsimp only at hh hv p3 pk hk psn;generalize kv.2=v at hh hv;obtain ⟨t,l,xp,rfl,ht,hl,hxs'⟩:=MN hh;have hAi:=gi _ _ nhp nhd hA9;have kli:=gi _ _ nkp nkd kl9;have lAi:=gi _ _ nlp nld lA9;obtain ⟨tp,rfl,prs⟩:=By (K:=K) hxs';replace prs:W4 K Hi tp (kvP ps):=prs;have lps:(kvP ps).length=ps.length:=Oh _
  have ndk:((kvP ps).map (·.1)).Nodup:=by
   unfold kvP;rw [List.map_map];unfold List.Nodup at psn |-;rw [List.pairwise_map] at psn |-;exact psn.imp fun hab q=>hab (Sum.inr.inj q)
  have dg:∀ {Hx:Hp},Hx hA=some (.frz oH (.dK kvs))->YD Hx hA (.str fn) (some (.ref t)):=fun e=> .inl ⟨kvs,Sum.inr fn, .inr ⟨oH,e⟩,rfl,hv.symm⟩;refine ⟨_,dg hAi,_,_,SqT.of ht,rfl,l,tp,_,rfl,hl,prs,ndk,fun aA haA=>⟨aA,_,ZC,fun oA=>?_⟩⟩;rw [Ej];refine up_in haA _ fun H10 s10 g10=>?_
  have af10:AF H10 aA (ks.map (·.1)) 3 (kvP ps):=⟨oA,g10,by omega,fun kv hk'=>by
   obtain ⟨pr,hpr,e⟩:=O1.mp hk';exact ⟨pr.1,pr.2,e.symm,pk pr hpr⟩⟩
  intro wA hwA;have sK:TK H9 (upd H10 wA (.dK [])):=fun b us h=>ZH hwA _ _ _ (s10 _ _ (tki _ _ h));obtain ⟨ts,kvsK,exs,prK,ek,hshK⟩:=Ux (K:=K) (Zj sK _ (YB ks) hx9);refine ⟨kl,ts,kvsK,rfl,SqL.of (by rw [<-exs];exact ZH hwA _ _ _ (s10 _ _ kli)),prK,M7 ek nd,fun shA hshA=>?_⟩;have nsw:shA≠wA:=fun e=>by rw [e,ZC] at hshA;cases hshA
  have hsh10:H10 shA=none:=by rw [ZE nsw] at hshA;exact hshA
  refine ?_;refine ⟨by rw [ZE (Ne.symm nsw),ZC], [(Sum.inr "shapes", .ref shA),(Sum.inr "heads", .ref hA),(Sum.inr "lets", .ref lA),(Sum.inr "left", .int left)],rfl,by show 4<=15;decide,?_⟩;refine ⟨shA,kvsK,by rw [ZE nsw,ZC],fun oS=>?_⟩
  have tkW0:TK (upd H10 wA (.dK [])) (upd (upd (upd (upd H10 wA (.dK [])) shA (.dK kvsK)) wA (wrD shA hA lA left)) shA (.frz oS (.dK kvsK))):=fun b us h=>by
   have n1:b≠wA:=fun e=>by rw [e,ZC] at h;cases h
   have n2:b≠shA:=fun e=>by rw [e,hshA] at h;cases h
   rw [ZE n2,ZE n1,ZE n2];exact h
  have s12:Same H10 (upd (upd (upd (upd H10 wA (.dK [])) shA (.dK kvsK)) wA (wrD shA hA lA left)) shA (.frz oS (.dK kvsK))):=((((Same.refl H10).putN hwA).putN hsh10).putN hwA).putN hsh10;have g12:upd (upd (upd (upd H10 wA (.dK [])) shA (.dK kvsK)) wA (wrD shA hA lA left)) shA (.frz oS (.dK kvsK)) shA=some (.frz oS (.dK kvsK)):=ZC;have w12:upd (upd (upd (upd H10 wA (.dK [])) shA (.dK kvsK)) wA (wrD shA hA lA left)) shA (.frz oS (.dK kvsK)) wA=some (wrD shA hA lA left):=by rw [ZE (Ne.symm nsw),ZC]
  show ZK _ _ _ _ (upd (upd (upd (upd H10 wA (.dK [])) shA (.dK kvsK)) wA (wrD shA hA lA left)) shA (.frz oS (.dK kvsK)));generalize upd (upd (upd (upd H10 wA (.dK [])) shA (.dK kvsK)) wA (wrD shA hA lA left)) shA (.frz oS (.dK kvsK))=H12 at s12 g12 w12 tkW0 |-;have tkW:=tkW0;have sI:Same Hi H12:=s10.trans s12;have st12:=si.sm sI
  have hHF:HF Hi hA (ks.map (·.1)) (XH hs):=⟨oH,kvs,hAi,by omega,fun k1 hk'=>by
   obtain ⟨j1,hj1⟩:=List.mem_iff_getElem?.mp hk';obtain ⟨g1,a1,a2,a3,_⟩:=hpi.at wdh.nd hj1;have m1:=Oo a1;exact ⟨g1.1,g1.2.1,g1.2.2,a2,a3,(hok _ m1).len,(hok _ m1).kin,(hok _ m1).own,RD wdh.nd m1⟩⟩
  have wr12:Wr H12 wA ks (XH hs) lA:=⟨shA,hA,_,left,w12,⟨oS,kvsK,g12,ek,fun y s e=>let ⟨v,e1,e2⟩:=hshK y s e;⟨v,e1,YU tkW _ (Shp.st _) e2⟩⟩,hHF.mono sI,sI _ _ lAi,by rw [List.length_set];omega⟩
  have hwi:Hi wA=none:=by
   cases e:Hi wA with
   | none=>rfl
   | some u=>rw [s10 _ _ e] at hwA;cases hwA
  refine ⟨_,dg (sI _ _ hAi),_,_,SqT.of (sI _ _ ht),rfl,p,wA,aA,lA,k,ks,XH hs,kvP ps,c,d,3,rfl,st12,wr12,af10.mono s12 (Om _),by decide,kk,k6,hk,fun u1 H13 b13 l13 gb13 st13 wr13 ln13 hu13 ok13 dp13 kd13=>?_⟩;have sb13:SameB p Hi H13:=fun b o n e=>gb13 b o n (ZG e hwi) (sI b o e);dsimp only [YZ];refine YS (fun U' H'=> ∃ (v:V) (b:Bd),SameB p Hi H'/\Zo H' p/\Has H' v b.dat/\Ef ks hs ((fn,ps,k),b)/\U'= [some (.int cell),some (.int most),some (.int many),some (.int top),some (.int left),some (.ref p),some (.ref kl),some (.ref cn),some (.ref hA),some (.ref lA),some (.ref dl),some (.str fn),some (.ref aA),some (.ref wA),some v]) ?_ ?_
  .rintro U' H' ⟨v,b,sb,st,hb,okb,rfl⟩
   have tkH:=si.tkB sb;have dl':=sb _ _ ndp hdi;refine ⟨.inl ⟨rfl,_,SqL.of dl'⟩,_,dg (sb _ _ nhp hAi),_,_,SqT.of (tkH _ _ ht),rfl,_,dg (sb _ _ nhp hAi),_,_,SqT.of (tkH _ _ ht),rfl,sl 4,fun tt htt=>?_⟩;refine up_in htt _ fun HT sT gT=>?_;have dlT:=sT _ _ dl';refine ⟨dl,zs,_,rfl,rfl,dlT,ZI (by omega),?_⟩;have gbw:GB p dl HT (upd HT dl (.lst (zs++ [.ref tt]))):=N6;have tkw:TK HT (upd HT dl (.lst (zs++ [.ref tt]))):=UJ gbw (st.sm sT) dlT (fun _ z=>by cases z);refine ⟨fun b o n1 n2 e=>gbw b o n1 n2 (sT b o (sb b o n1 (gi b o n1 n2 e))),(st.sm sT).keep (ZE (Ne.symm ndp)),zs++ [.ref tt],ds++ [((fn,ps,k),b)],ZC,?_,by rw [Oq,lzi,take_snoc hgi];rfl,fun z hz=>?_,_,_,_,_,rfl⟩
   .rw [Oq]
    refine HasL.append (Zj (fun b us h=>tkw _ _ (sT _ _ (tkH _ _ h))) _ (Jc ds) hzi) (HasL.one ?_);unfold VR;exact Zk (tkw _ _ gT) (HasL.cons Zn (HasL.cons (Zk (tkw _ _ (sT _ _ (tkH _ _ hl))) (Zj (fun b us h=>tkw _ _ (sT _ _ (tkH _ _ h))) _ (VU ps) hxs')) (HasL.cons Zn (HasL.one (YU (fun b us h=>tkw _ _ (sT _ _ h)) _ (Bd.st _) hb)))))
   .rcases O2.mp hz with hz | hz
    .exact dfi z hz
    .cases Ox.mp hz
     exact okb
  .intro N key
   refine ⟨u1,b13,rfl,hu13,ok13,by omega,by omega,fun H14 s14=>?_⟩;refine ⟨_,rfl,?_⟩;have sb14:SameB p Hi H14:=sb13.trans s14.sb;refine Yc (fun c1=>?_) (fun c1=>key _ _ ⟨u1,b13,sb14,st13.sm s14,hu13.mono s14,⟨kd13,ok13,by show b13.dep<=11;omega,?_⟩,rfl⟩)
   .have wr14:=wr13.mono s14
    have st14:=st13.sm s14;have dk:=kk.small hk;refine ⟨_,dg (sb14 _ _ nhp hAi),_,_,SqT.of (si.tkB sb14 _ _ ht),rfl,p,wA,aA,l13,k,ks,XH hs,kvP ps,c,d,rfl,st14,wr14,((af10.mono s12 (Om _)).gb gb13 st12 wr12).mono s14 (by decide),kk,hk,by omega,fun u5 H15 b15 l15 gb15 st15 wr15 ln15 hu15 ok15 dp15 kd15=>?_⟩;have sz:b15.size<=6 ^ 2:=Bd.size_le 2 b15 (by omega) ok15;exact key _ _ ⟨u5,b15,fun b o n e=>gb15 b o n (ZG e hwi) (sb14 b o n e),st15,hu15,⟨kd15,ok15,by show b15.dep<=11;omega,by show b15.size<=40;omega⟩,rfl⟩
   .have c1': ¬ ((40:Int) < ((b13.size:Nat):Int)):=fun z=>c1 (decide_eq_true z)
    show b13.size<=40;omega
 .rintro U Hi ⟨gi,si,zs,ds,hdi,hzi,lzi,dfi,z11,z12,z13,z14,rfl⟩
  refine ⟨sl 2,fun t ht=>?_⟩;have sT:=ZH ht (.tup [.ref kl, .ref dl]);have tki:TK H9 Hi:=UJ gi st9 g9 (fun _ z=>by cases z);rw [lkh,List.take_length] at lzi;exact q t kl dl ks c d hs ds xs zs _ (fun b o e=>sT _ _ (gi b o (ZG e fp) (ZG e fdl) (sH9 b o e))) ZC (sT _ _ (gi _ _ nkp nkd kl9)) (Zj (fun b us h=>sT _ _ (tki _ _ h)) _ (YB ks) hx9) kk nd k0 k6 kg (sT _ _ hdi) (hzi.mono sT) lzi lk0 lkv wdh hok dfi
end
end K4
namespace L2
open PySem
def WF(o c:Nat):Bool:=decide (o<=c) && decide (c < o + 26)
def Ym(o:Nat)(x:Str):Bool:=decide (1<=x.length) && (decide (x.length<=8) && x.cps.toList.all (WF o))
theorem Nv(o c:Nat):decide (c∈(alpha o).cps.toList)=WF o c:=by
 have e:(alpha o).cps.toList=(List.range 26).map (o + ·):=by show ((List.range 26).map (o + ·)).toArray.toList=_;rw [List.toList_toArray]
 rw [e];unfold WF;rw [Bool.eq_iff_iff,decide_eq_true_eq,O4,decide_eq_true_eq,decide_eq_true_eq,O1]
 constructor
 .rintro ⟨a,ha,rfl⟩
  have:=List.mem_range.mp ha;omega
 .rintro ⟨h1,h2⟩
  exact ⟨c - o,List.mem_range.mpr (by omega),by omega⟩
theorem Mf{x:Str}(h1:1<=x.length)(h8:x.length<=8)(hc:∀ c∈x.cps.toList,o<=c/\c < o + 26):Ym o x=true:=by
 unfold Ym WF;rw [decide_eq_true h1,decide_eq_true h8,Bool.true_and,Bool.true_and,List.all_eq_true];intro c m;obtain ⟨a,b⟩:=hc c m;rw [decide_eq_true a,decide_eq_true b];rfl
theorem ZQ.sub{K:W.Frag}(F:ZQ P w K mg base CX k f fd ps sp)(h:∀ vs H Q E,sp' vs H Q E->sp vs H Q E):ZQ P w K mg base CX k f fd ps sp':=
 ⟨fun vs H Q E q=>F.len vs H Q E (h vs H Q E q),fun A outer s H args us vs Q E a b c d q=>F.run A outer s H args us vs Q E a b c d (h vs H Q E q)⟩
theorem ZQ.or{K:W.Frag}(F:ZQ P w K mg base CX k f fd ps sp)(G:ZQ P w K mg base CX k f fd ps sp'):ZQ P w K mg base CX k f fd ps (fun vs H Q E=>sp vs H Q E \/ sp' vs H Q E):=
 ⟨fun vs H Q E q=>q.elim (F.len vs H Q E) (G.len vs H Q E),fun A outer s H args us vs Q E a b c d q=>q.elim (F.run A outer s H args us vs Q E a b c d) (G.run A outer s H args us vs Q E a b c d)⟩
end L2
namespace K4
open PySem L2
section
def Xa:Sp:=fun vs H Q _=> ∃ (x:Str) (o:Nat),vs= [.str x, .str (alpha o)]/\x.length<=20/\∀ H',Same H H'->Q (.bl (Ym o x)) H'
theorem Ew:Za ["text","letters"] ["text","letters"] (ZJ Rl):=Zu
theorem Lj:List.Nodup [("sign" :Str),"letters"]:=by decide +kernel
theorem Lk:List.Nodup [("sign" :Str)]:=by decide +kernel
def La:R2:=fun x y H Q=> ∃ i j,x= .str i/\y= .str j/\Q (.bl (!(Builtin.Str.occurrences j i 0 j.length 1).isEmpty)) H
theorem B8{X:Cx}:OpR X (compareOp .In) La:=Nh
theorem Ea{K:W.Frag}{x:Str}{o:Nat}{H:Hp}{Q:VK}{U:St}{te:TE}(te':∀ c H1 R,R (.str (alpha o)) H1->te (U.set 0 (some c)) H1 R)(hz:0 < U.length)(lx:x.length<=20)(q:∀ H',Same H H'->Q (.bl (x.cps.toList.all (WF o))) H'):
  W5 (Its x) (YZ 0) (tOp La (UB 0) te) U (fun v H1=> ∃ (p:Addr) (bs:List Bool), [v]= [.ref p]/\SqL K H1 p (bs.map V.bl)/\Q (.bl (bs.all id)) H1) H:=by
 have lz:x.cps.size=x.length:=rfl;have lt:x.cps.toList.length=x.length:=Array.length_toList
 refine YQ x.length (ZI (by omega)) (fun i vs H'=>Same H H'/\i<=x.length/\vs=((x.cps.toList.take i).map (WF o)).map V.bl) ⟨Same.refl _,O7 _,rfl⟩ (fun i vs H' z=>by
  obtain ⟨_,z1,z2⟩:=z;rw [z2,Oh,Oh,Ou];omega) ?_ ?_ ?_ ?_
 .intro i vs H' hi z
  exact hi
 .intro vs H' z
  exact Om _
 .intro i vs H' v H'' R hi z yl hR
  obtain ⟨rfl,c,hcc,rfl⟩:=yl;show W6 (U.set 0 (some (V.str ⟨#[c]⟩)))[0]? _;rw [List.getElem?_set_self hz];refine te' _ _ _ ⟨_,_,rfl,rfl,?_⟩;rw [StrLaws.found_one,Nv];have hg:x.cps.toList[i]?=some c:=by rw [Array.getElem?_toList];exact hcc
  refine hR _ _ ⟨z.1,hi,?_⟩;rw [z.2.2,take_snoc hg,Oq,Oq];rfl
 .intro vs H' p z hp
  refine ⟨p,x.cps.toList.map (WF o),rfl,SqL.of (by rw [ZC,z.2.2,PD (by omega)]),?_⟩;rw [show (x.cps.toList.map (WF o)).all id=x.cps.toList.all (WF o) by rw [List.all_map];rfl];exact q _ (z.1.trans (ZH hp _))
theorem DD(B:Blt mg)(F:Fun K "is_spelt" "is_spelt" Rl f fd)(hL:mg "LONGEST" =some u)(rL:RelV (.int 8) u):ZQ P w K mg base CX0 (n + 1) f fd ["text","letters"] Xa:=by
 refine F.oq Ew fun cdv A outer s H vs Q E hr h=>?_;obtain ⟨x,o,rfl,lx,q⟩:=h;refine ⟨_,ZA (Zg (Yz (Yi (VO rfl B.isi rfl B.str U5 (pv 0)))) (ZF (ZV Vr)) ZO)
  (ZF (ZV (JV (B4 UV UV ZD (ZU Vd rfl B.len PySem.boot_len (pa1 (pv 0))) (Yx rfl hL rL))
   (Jp (ZU (WP rfl) rfl B.all U8 (pa1 (Y4 ["sign"] [1] (B1 (pv 0)) (YO (i:=0) (by decide))
    (fun cl C fp s H=>ZL 0 Lj rfl (Or.inl rfl) (Or.inr rfl)) (fun cl C fp s H=>Yy B8 (pv 0) (pv 1) rfl)))))))),?_⟩
 show let a:=_;let b:=_;ZK (Zv _ b _) a _ _ _
 intros
 refine ⟨_,_,_,_,rfl, .str x,Dv K "str",_,rfl,?_⟩;refine Zs (by simp) ?_;have ls:x.length<=sizeLine:=PF (ZI (by omega));refine ⟨x,rfl,ls,_,rfl,?_⟩
 by_cases h1:1<=x.length
 .refine Z7 (by simp;omega) ?_
  refine ⟨_,rfl,?_⟩
  by_cases h8:x.length<=8
  .refine Z7 (by simp;omega) ?_
   refine ⟨x,rfl,?_⟩;refine Ea (fun c H1 R q=>q) (Nat.zero_lt_succ _) lx fun H' s'=>?_;have e:Ym o x=x.cps.toList.all (WF o):=by unfold Ym;simp [h1,h8]
   rw [<-e];exact q _ s'
  .refine Zs (by simp;omega) ?_
   have e:Ym o x=false:=by unfold Ym;simp [h8]
   rw [e] at q;exact q _ (Same.refl _)
 .refine Zs (by simp;omega) ?_
  have e:Ym o x=false:=by unfold Ym;simp [h1]
  rw [e] at q;refine ⟨_,rfl,?_⟩;refine Zs (by simp) ?_;exact q _ (Same.refl _)
def Jk:Sp:=fun vs H Q _=> ∃ (x:Str),vs= [.str x]/\x.length<=20/\∀ H',Same H H'->Q (.bl (Ym 97 x)) H'
def UC(o:Nat):Sp:=fun vs H Q _=> ∃ (x:Str),vs= [.str x]/\1<=x.length/\x.length<=8/\(∀ c∈x.cps.toList,o<=c/\c < o + 26)/\∀ H',Same H H'->Q (.bl true) H'
theorem NQ:∀ vs H Q E,UC 97 vs H Q E->Jk vs H Q E:=fun vs H Q E ⟨x,e,l1,l8,hc,q⟩=>⟨x,e,by omega,fun H' s=>by rw [Mf l1 l8 hc];exact q H' s⟩
theorem Bh:Za ["text"] ["text"] (ZJ Gq):=Zu
theorem Nq(F:Fun K "is_name" "is_name" Gq f fd)(G:ZQ P w K mg base CX0 n g gd ["text","letters"] Xa)(bG:Binds K gd ["text","letters"] [])(kG:W.keepIn K (.ref g)=true)(mG:mg "is_spelt" =some (.ref g))(hL:mg "SMALL" =some u)(rL:RelV (.str (Str.ofString "abcdefghijklmnopqrstuvwxyz")) u):ZQ P w K mg base CX0 (n + 1) f fd ["text"] Jk:=by
 refine F.oq Bh fun cdv A outer s H vs Q E hr h=>?_;obtain ⟨x,rfl,lx,q⟩:=h;refine ⟨_,ZF (ZV (Zy G hr rfl mG kG bG .nil YM (pa2 (pv 0) (Yx rfl hL rL)))),?_⟩;refine ⟨x,97,?_,lx,q⟩;rw [<-Ui];rfl
theorem E1:Za ["text"] ["text"] (ZJ Rt):=Zu
theorem Dc(F:Fun K "is_tag" "is_tag" Rt f fd)(G:ZQ P w K mg base CX0 n g gd ["text","letters"] Xa)(bG:Binds K gd ["text","letters"] [])(kG:W.keepIn K (.ref g)=true)(mG:mg "is_spelt" =some (.ref g))(hL:mg "GREAT" =some u)(rL:RelV (.str (Str.ofString "ABCDEFGHIJKLMNOPQRSTUVWXYZ")) u):ZQ P w K mg base CX0 (n + 1) f fd ["text"] (UC 65):=by
 refine F.oq E1 fun cdv A outer s H vs Q E hr h=>?_;obtain ⟨x,rfl,l1,l8,hc,q⟩:=h;refine ⟨_,ZF (ZV (Zy G hr rfl mG kG bG .nil YM (pa2 (pv 0) (Yx rfl hL rL)))),?_⟩;refine ⟨x,65,?_,by omega,fun H' s=>by rw [Mf l1 l8 hc];exact q H' s⟩;rw [<-Wp];rfl
theorem Ez:Za ["text"] ["text"] (ZJ Bi):=Zu
theorem DX(B:Blt mg)(F:Fun K "_law_word" "_law_word" Bi f fd):ZQ P w K mg base CX0 (n + 1) f fd ["text"] Jk:=by
 refine F.oq Ez fun cdv A outer s H vs Q E hr h=>?_;obtain ⟨x,rfl,lx,q⟩:=h;refine ⟨_,ZA (Zg (PW.pt (VX (ZN Wj (ZU Vd rfl B.len PySem.boot_len (pa1 (pv 0))) ZD (ZW _)) (VM (ZN Vt (ZU Vd rfl B.len PySem.boot_len (pa1 (pv 0))) ZD (ZW _))))) (ZF (ZV Vr)) ZO)
  (ZF (ZV (ZU (WP rfl) rfl B.all U8 (pa1 (Y4 ["sign"] [] (B1 (pv 0)) (YO (i:=0) (by decide))
    (fun cl C fp s H=>ZL 0 Lk rfl (Or.inl rfl) (Or.inr rfl)) (fun cl C fp s H=>Yy B8 (pv 0) ZY rfl)))))),?_⟩
 show let a:=_;let b:=_;ZK (Zv _ b _) a _ _ _
 intros
 have ls:x.length<=sizeLine:=PF (ZI (by omega));refine ⟨x,rfl,ls,_,rfl,?_⟩
 by_cases h1:1<=x.length
 .refine Zs (by simp;omega) ?_
  refine ⟨x,rfl,ls,_,rfl,?_⟩
  by_cases h8:x.length<=8
  .refine Zs (by simp;omega) ?_
   refine ⟨x,rfl,?_⟩;refine Ea (o:=97) (fun c H1 R q=>by rw [<-Ui] at q;exact q) (Nat.zero_lt_succ _) lx fun H' s'=>?_;have e:Ym 97 x=x.cps.toList.all (WF 97):=by unfold Ym;simp [h1,h8]
   rw [<-e];exact q _ s'
  .refine Z7 (by simp;omega) ?_
   have e:Ym 97 x=false:=by unfold Ym;simp [h8]
   rw [e] at q;exact q _ (Same.refl _)
 .refine Z7 (by simp;omega) ?_
  have e:Ym 97 x=false:=by unfold Ym;simp [h1]
  rw [e] at q;exact q _ (Same.refl _)
end
end K4
namespace L2
open PySem
def UI(ks:List (Str × Shp)):Nat->Str->Nat
 | 0,_=>0
 | n + 1,y=>match Yw ks y with
  | none=>0
  | some (.tags _)=>1
  | some (.pair a b)=>1 + UI ks n a + UI ks n b
def VQ(t:Str):Shp->Bool
 | .tags ts=>decide (t∈ts)
 | .pair _ _=>false
def Y8(a b:Str):Shp->Bool
 | .tags _=>false
 | .pair c e=>decide (c=a) && decide (e=b)
def Vc(ks:List (Str × Shp))(t:Str):Option Str:=(ks.find? fun k=>VQ t k.2).map (·.1)
def VF(ks:List (Str × Shp))(a b:Str):Option Str:=(ks.find? fun k=>Y8 a b k.2).map (·.1)
theorem J6{α:Type}(p:α->Bool)(l:List α)(x:α):(l++ [x]).find? p=(l.find? p).or (if p x=true then some x else none):=by
 rw [List.find?_append]
 congr 1
 rw [List.find?_cons];cases p x <;> simp
theorem Ul(h:z∈ks.map (·.1)):Yw (ks++ [x]) z=Yw ks z:=by
 obtain ⟨s,hs⟩:=Ys h;unfold Yw at hs |-;rw [J6]
 cases e:ks.find? fun k=>decide (k.1=z) with
 | none=>rw [e] at hs;cases hs
 | some k=>rfl
theorem NY(h:z ∉ ks.map (·.1)):Yw ks z=none:=by
 cases e:Yw ks z with
 | none=>rfl
 | some s=>exact absurd (O1.mpr ⟨_,UQ e,rfl⟩) h
theorem X0(h:z ∉ ks.map (·.1)):Yw (ks++ [(z,s)]) z=some s:=by
 have q:=NY h;unfold Yw at q |-;rw [J6]
 cases e:ks.find? fun k=>decide (k.1=z) with
 | none=>simp
 | some k=>rw [e] at q;cases q
theorem VW(h:KK top c d ks)(x:Str × Shp):∀ (n:Nat) (z:Str),z∈ks.map (·.1)->Zb (ks++ [x]) n z=Zb ks n z
 | 0,_,_=>rfl
 | n + 1,z,hz=>by
  obtain ⟨s,hs⟩:=Ys hz;rw [Jt hs,Jt ((Ul hz).trans hs)]
  cases s with
  | tags ts=>rfl
  | pair a b=>
   obtain ⟨h1,h2,_⟩:=h.at hs;show (W.non::_)=(W.non::_);rw [VW h x n a h1,VW h x n b h2]
def hOf(ks:List (Str × Shp))(n:Nat):Shp->Nat
 | .tags _=>1
 | .pair a b=>1 + UI ks n a + UI ks n b
theorem UY(h:Yw ks y=some s):UI ks (n + 1) y=hOf ks n s:=by
 conv=>lhs;unfold UI
 rw [h];cases s <;> rfl
theorem JL(h:KK top c d ks)(x:Str × Shp):∀ (n:Nat) (z:Str),z∈ks.map (·.1)->UI (ks++ [x]) n z=UI ks n z
 | 0,_,_=>rfl
 | n + 1,z,hz=>by
  obtain ⟨s,hs⟩:=Ys hz;rw [UY hs,UY ((Ul hz).trans hs)]
  cases s with
  | tags ts=>rfl
  | pair a b=>
   obtain ⟨h1,h2,_⟩:=h.at hs;show 1 + _ + _=1 + _ + _;rw [JL h x n a h1,JL h x n b h2]
theorem Jy(h:KK top c d ks):∀ (n m:Nat) (y:Str),y∈ks.map (·.1)->d y < n->d y < m->UI ks n y=UI ks m y
 | 0,_,_,_,h1,_=>absurd h1 (Nat.not_lt_zero _)
 | _ + 1,0,_,_,_,h2=>absurd h2 (Nat.not_lt_zero _)
 | n + 1,m + 1,y,hy,h1,h2=>by
  obtain ⟨s,hs⟩:=Ys hy;have k1:=h.at hs;rw [UY hs,UY hs]
  cases s with
  | tags ts=>rfl
  | pair a b=>
   obtain ⟨q1,q2,q3,q4,q5,q6⟩:=k1;have m1:=Nat.le_max_left (d a) (d b);have m2:=Nat.le_max_right (d a) (d b);show 1 + _ + _=1 + _ + _;rw [Jy h n m a q1 (by omega) (by omega),Jy h n m b q2 (by omega) (by omega)]
structure KA6 where
 t:Addr
 dx:Addr
 sh:Addr
 wo:Addr
 he:Addr
 pd:Addr
 tk:Addr
 pk:Addr
structure KC where
 sh:List (Key × V)
 wo:List (Key × V)
 he:List (Key × V)
 pd:List (Key × V)
 tk:List (Key × V)
 pk:List (List Key × V)
def XR(A:KA6):List (Str × V):= [("shapes", .ref A.sh),("worths", .ref A.wo),("heights", .ref A.he),("pairs_deep", .ref A.pd),("tag_kinds", .ref A.tk),("pair_kinds", .ref A.pk)]
def KA6.ds(A:KA6):List Addr:= [A.sh,A.wo,A.he,A.pd,A.tk,A.pk]
structure KD(H:Hp)(C:Addr)(A:KA6)(S:KC):Prop where
 ins:H A.t=some (.ins C A.dx (XR A))
 sh:H A.sh=some (.dK S.sh)
 wo:H A.wo=some (.dK S.wo)
 he:H A.he=some (.dK S.he)
 pd:H A.pd=some (.dK S.pd)
 tk:H A.tk=some (.dK S.tk)
 pk:H A.pk=some (.dT S.pk)
 nd:A.ds.Nodup
structure KR(H:Hp)(S:KC)(ks:List (Str × Shp))(d:Str->Nat):Prop where
 ke:S.sh.map (·.1)=ks.map (fun k=>Sum.inr k.1)
 sh:∀ y s,Yw ks y=some s->∃ v,Zl S.sh (Sum.inr y)=some v/\Has H v s.dat
 wo:∀ y∈ks.map (·.1),∃ l xs,Zl S.wo (Sum.inr y)=some (.ref l)/\H l=some (.lst xs)/\HasL H xs ((Zb ks 3 y).map W.dat)
 he:∀ y∈ks.map (·.1),Zl S.he (Sum.inr y)=some (.int (UI ks 3 y:Nat))
 pd:∀ y∈ks.map (·.1),Zl S.pd (Sum.inr y)=some (.int (d y:Nat))
 tk:∀ x:Str,Zl S.tk (Sum.inr x)=(Vc ks x).map V.str
 pk:∀ a b:Str,Zl S.pk [Sum.inr a,Sum.inr b]=(VF ks a b).map V.str
 ln:S.sh.length<=4 * ks.length/\S.wo.length<=4 * ks.length/\S.he.length<=4 * ks.length/\S.pd.length<=4 * ks.length/\S.tk.length<=4 * ks.length/\S.pk.length<=4 * ks.length
def KI(H:Hp)(C t:Addr)(ks:List (Str × Shp))(d:Str->Nat):Prop:= ∃ A S,A.t=t/\KD H C A S/\KR H S ks d
theorem KD.mono(k:KD H C A S)(e:Same H H'):KD H' C A S:=⟨e _ _ k.ins,e _ _ k.sh,e _ _ k.wo,e _ _ k.he,e _ _ k.pd,e _ _ k.tk,e _ _ k.pk,k.nd⟩
def TL(H H':Hp):Prop:=(∀ b xs,H b=some (.tup xs)->H' b=some (.tup xs))/\∀ b xs,H b=some (.lst xs)->H' b=some (.lst xs)
theorem Same.tl(e:Same H H'):TL H H':=⟨fun b xs h=>e _ _ h,fun b xs h=>e _ _ h⟩
theorem TL.trans(a:TL H H1)(b:TL H1 H2):TL H H2:=⟨fun c xs h=>b.1 _ _ (a.1 _ _ h),fun c xs h=>b.2 _ _ (a.2 _ _ h)⟩
mutual
theorem Has.tl{H H':Hp}(e:TL H H'):∀ (d:Dat) {v:V},Has H v d->Has H' v d
 | .non,_,h=>by unfold Has at h |-;exact h
 | .bl _,_,h=>by unfold Has at h |-;exact h
 | .int _,_,h=>by unfold Has at h |-;exact h
 | .str _,_,h=>by unfold Has at h |-;exact h
 | .tup ds,_,h=>by
  unfold Has at h |-;obtain ⟨a,xs,h1,h2,h3⟩:=h;exact ⟨a,xs,h1,e.1 _ _ h2,HasL.tl e ds h3⟩
 | .lst ds,_,h=>by
  unfold Has at h |-;obtain ⟨a,xs,h1,h2,h3⟩:=h;exact ⟨a,xs,h1,e.2 _ _ h2,HasL.tl e ds h3⟩
theorem HasL.tl{H H':Hp}(e:TL H H'):∀ (ds:List Dat) {xs:List V},HasL H xs ds->HasL H' xs ds
 | [], [],h=>by unfold HasL;trivial
 | [],_::_,h=>by unfold HasL at h;exact h.elim
 | _::_, [],h=>by unfold HasL at h;exact h.elim
 | d::ds,x::xs,h=>by
  unfold HasL at h |-;exact ⟨Has.tl e d h.1,HasL.tl e ds h.2⟩
end
theorem KR.tl(k:KR H S ks d)(e:TL H H'):KR H' S ks d:=
 ⟨k.ke,fun y s h=>let ⟨v,h1,h2⟩:=k.sh y s h;⟨v,h1,Has.tl e _ h2⟩,fun y h=>let ⟨l,xs,h1,h2,h3⟩:=k.wo y h;⟨l,xs,h1,e.2 _ _ h2,HasL.tl e _ h3⟩,k.he,k.pd,k.tk,k.pk,k.ln⟩
theorem KI.mono(k:KI H C t ks d)(e:Same H H'):KI H' C t ks d:=by
 obtain ⟨A,S,h1,h2,h3⟩:=k;exact ⟨A,S,h1,h2.mono e,h3.tl e.tl⟩
inductive Th where
 | non | str (x:Str) | oth | tupn | pair (a b:Th)
theorem UX(x:Str)(ts:List Str):inV (.str x) (ts.map V.str)=decide (x∈ts):=by
 induction ts with
 | nil=>rfl
 | cons t ts ih=>
  have e:inV (.str x) ((t::ts).map V.str)=((t==x) || inV (.str x) (ts.map V.str)):=rfl;rw [e,ih]
  by_cases h:t=x
  .subst h;simp
  .have h': ¬ x=t:=fun q=>h q.symm
   simp [h,h']
theorem J0(ts:List Str):(ts.map V.str).all Ua=true:=by
 induction ts with
 | nil=>rfl
 | cons t ts ih=>simp only [O0,List.all_cons,ih];rfl
structure KCl(K:W.Frag)(C:Addr):Prop where
 cl:Cls K C
 sh:Y1 K C "shapes"
 wo:Y1 K C "worths"
 he:Y1 K C "heights"
 pd:Y1 K C "pairs_deep"
 tk:Y1 K C "tag_kinds"
 pk:Y1 K C "pair_kinds"
theorem MS(A:KA6):(XR A).lookup ("shapes" :Str)=some (V.ref A.sh):=rfl
theorem EH(A:KA6):(XR A).lookup ("worths" :Str)=some (V.ref A.wo):=rfl
theorem Fx(A:KA6):(XR A).lookup ("heights" :Str)=some (V.ref A.he):=rfl
theorem Fw(A:KA6):(XR A).lookup ("pairs_deep" :Str)=some (V.ref A.pd):=rfl
theorem Lv(A:KA6):(XR A).lookup ("tag_kinds" :Str)=some (V.ref A.tk):=rfl
theorem Lw(A:KA6):(XR A).lookup ("pair_kinds" :Str)=some (V.ref A.pk):=rfl
end L2
namespace K4
open PySem L2
section
variable{f g C:Addr}
def Xb(C:Addr):Sp:=fun vs H Q _=> ∃ (t:Addr) (ks:List (Str × Shp)) (d:Str->Nat),vs= [.ref t]/\KI H C t ks d/\∀ l H',Same H H'->H l=none->H' l=some (.lst (ks.map fun k=>V.str k.1))->Q (.ref l) H'
theorem Ey:Za ["self"] ["self"] (ZJ Ro):=Zu
theorem DV(B:Blt mg)(T:KCl K C)(F:Fun K "names" "Kinds.names" Ro f fd):ZQ P w K mg base CX0 (n + 1) f fd ["self"] (Xb C):=by
 refine F.oq Ey fun cdv A outer s H vs Q E hr h=>?_;obtain ⟨t,ks,d,rfl,⟨A',S,rfl,kd,kr⟩,q⟩:=h;refine ⟨_,ZF (ZV (Zm (WN rfl) rfl B.list Z9 (pa1 (Z6 (pv 0) rfl)))),?_⟩;refine ⟨C,_,_,_,kd.ins,T.cl,T.sh,MS _,_,_,rfl,kd.sh,fun l hl=>?_⟩;refine q l _ (ZH hl _) hl ?_;rw [ZC];have e:(S.sh.map fun kv=>kV kv.1)=(S.sh.map (·.1)).map kV:=by rw [List.map_map];rfl
 rw [e,kr.ke,List.map_map]
 rfl
def Vh(C:Addr):Sp:=fun vs H Q _=> ∃ (t:Addr) (ks:List (Str × Shp)) (d:Str->Nat) (y:Str),vs= [.ref t, .str y]/\KI H C t ks d/\y∈ks.map (·.1)/\
 ∀ l xs H',Same H H'->H l=none->H' l=some (.lst xs)->HasL H' xs ((Zb ks 3 y).map W.dat)->Q (.ref l) H'
theorem Ri:Za ["self","kind"] ["self","kind"] (ZJ Uo):=Zu
theorem T1(B:Blt mg)(T:KCl K C)(F:Fun K "worths_of" "Kinds.worths_of" Uo f fd):ZQ P w K mg base CX0 (n + 1) f fd ["self","kind"] (Vh C):=by
 refine F.oq Ri fun cdv A outer s H vs Q E hr h=>?_;obtain ⟨t,ks,d,y,rfl,⟨A',S,rfl,kd,kr⟩,hy,q⟩:=h;have hu:=Y3 hr;obtain ⟨l,xs,h1,h2,h3⟩:=kr.wo y hy;refine ⟨_,ZF (ZV (Zm YH rfl B.list Z9 (pa1 (Zd hu (Z6 (pv 0) rfl) (pv 1) (fun _ _=>rfl))))),?_⟩;refine ⟨C,_,_,_,kd.ins,T.cl,T.wo,EH _,_,by rw [<-h1];exact YD.k (k:=Sum.inr y) kd.wo,l,xs,rfl, .inl (SqL.of h2),fun r hr'=>?_⟩;have s1:=ZH hr' (.lst xs);exact q r xs _ s1 hr' ZC (h3.mono s1)
end
end K4
namespace L2
open PySem
end L2
namespace L2
open PySem PySem.Spec PyProof.Rows
structure BA where
 t:Addr
 dx:Addr
 so:Addr
 td:Addr
 rd:Addr
 tn:Addr
def XM(A:BA):List (Str × V):= [("sorts", .ref A.so),("told", .ref A.td),("rows", .ref A.rd),("turns", .ref A.tn)]
def psD(ps:List (Str × Str)):Dat:= .tup (ps.map fun p=> .tup [.str p.1, .str p.2])
def Xq(x:Dd):Dat:= .tup [psD x.1.2.1, .str x.1.2.2,x.2.dat]
structure BD(H:Hp)(C CK:Addr)(A:BA)(kv:List (Key × V))(ks:List (Str × Shp))(d:Str->Nat)(ds:List Dd):Prop where
 ins:H A.t=some (.ins C A.dx (XM A))
 so:KI H CK A.so ks d
 td:H A.td=some (.dK kv)
 ke:kv.map (·.1)=ds.map (fun x=>(Sum.inr x.1.1:Key))
 va:HasL H (kv.map (·.2)) (ds.map Xq)
 nd:(ds.map fun x=>x.1.1).Nodup
structure BCl(K:W.Frag)(C:Addr):Prop where
 cl:Cls K C
 so:Y1 K C "sorts"
 td:Y1 K C "told"
 rd:Y1 K C "rows"
 tn:Y1 K C "turns"
theorem Ft(A:BA):(XM A).lookup ("sorts" :Str)=some (V.ref A.so):=rfl
theorem Lu(A:BA):(XM A).lookup ("told" :Str)=some (V.ref A.td):=rfl
end L2
namespace K4
open PySem L2
end K4
namespace L2
open PySem
def KFr(A:KA6)(H H':Hp):Prop:= ∀ b o,b ∉ A.ds->H b=some o->H' b=some o
theorem KFr.refl(A:KA6)(H:Hp):KFr A H H:=fun _ _ _ h=>h
theorem KFr.trans(a:KFr A H H1)(b:KFr A H1 H2):KFr A H H2:=fun c o hc h=>b c o hc (a c o hc h)
theorem Same.kfr(e:Same H H'):KFr A H H':=fun b o _ h=>e b o h
theorem KFr.put(a:KFr A H H')(hx:x∈A.ds)(o:HO):KFr A H (upd H' x o):=fun b u hb h=>by
 have ne:b≠x:=fun z=>by rw [z] at hb;exact hb hx
 rw [ZE ne];exact a b u hb h
theorem KFr.tl(a:KFr A H H')(k:KD H C A S):TL H H':=by
 have no:∀ b u,H b=some u->(∀ l,u≠ .dK l)->(∀ l,u≠ .dT l)->b ∉ A.ds:=fun b u hb n1 n2 hm=>by
  simp only [KA6.ds,O8,List.not_mem_nil,or_false] at hm;rcases hm with z | z | z | z | z | z
  .rw [z,k.sh] at hb;exact n1 _ (Oy hb).symm
  .rw [z,k.wo] at hb;exact n1 _ (Oy hb).symm
  .rw [z,k.he] at hb;exact n1 _ (Oy hb).symm
  .rw [z,k.pd] at hb;exact n1 _ (Oy hb).symm
  .rw [z,k.tk] at hb;exact n1 _ (Oy hb).symm
  .rw [z,k.pk] at hb;exact n2 _ (Oy hb).symm
 exact ⟨fun b xs h=>a b _ (no b _ h (fun l=>by intro z;cases z) (fun l=>by intro z;cases z)) h,fun b xs h=>a b _ (no b _ h (fun l=>by intro z;cases z) (fun l=>by intro z;cases z)) h⟩
theorem KA6.apart{A:KA6}(n:A.ds.Nodup):(A.sh≠A.wo/\A.sh≠A.he/\A.sh≠A.pd/\A.sh≠A.tk/\A.sh≠A.pk)/\(A.wo≠A.he/\A.wo≠A.pd/\A.wo≠A.tk/\A.wo≠A.pk)/\(A.he≠A.pd/\A.he≠A.tk/\A.he≠A.pk)/\(A.pd≠A.tk/\A.pd≠A.pk)/\A.tk≠A.pk:=by
 simpa [KA6.ds] using n
section
theorem KD.put_sh(k:KD H C A S)(l:List (Key × V)):KD (upd H A.sh (.dK l)) C A {S with sh:=l}:=by
 obtain ⟨⟨n1,n2,n3,n4,n5⟩,_⟩:=KA6.apart k.nd;exact ⟨(ZE (YY k.ins k.sh (by intro z;cases z))).trans k.ins,ZC,(ZE n1.symm).trans k.wo,(ZE n2.symm).trans k.he,(ZE n3.symm).trans k.pd,(ZE n4.symm).trans k.tk,(ZE n5.symm).trans k.pk,k.nd⟩
theorem KD.put_wo(k:KD H C A S)(l:List (Key × V)):KD (upd H A.wo (.dK l)) C A {S with wo:=l}:=by
 obtain ⟨⟨n1,_⟩,⟨n2,n3,n4,n5⟩,_⟩:=KA6.apart k.nd;exact ⟨(ZE (YY k.ins k.wo (by intro z;cases z))).trans k.ins,(ZE n1).trans k.sh,ZC,(ZE n2.symm).trans k.he,(ZE n3.symm).trans k.pd,(ZE n4.symm).trans k.tk,(ZE n5.symm).trans k.pk,k.nd⟩
theorem KD.put_he(k:KD H C A S)(l:List (Key × V)):KD (upd H A.he (.dK l)) C A {S with he:=l}:=by
 obtain ⟨⟨_,n1,_⟩,⟨n2,_⟩,⟨n3,n4,n5⟩,_⟩:=KA6.apart k.nd;exact ⟨(ZE (YY k.ins k.he (by intro z;cases z))).trans k.ins,(ZE n1).trans k.sh,(ZE n2).trans k.wo,ZC,(ZE n3.symm).trans k.pd,(ZE n4.symm).trans k.tk,(ZE n5.symm).trans k.pk,k.nd⟩
theorem KD.put_pd(k:KD H C A S)(l:List (Key × V)):KD (upd H A.pd (.dK l)) C A {S with pd:=l}:=by
 obtain ⟨⟨_,_,n1,_⟩,⟨_,n2,_⟩,⟨n3,_⟩,⟨n4,n5⟩,_⟩:=KA6.apart k.nd;exact ⟨(ZE (YY k.ins k.pd (by intro z;cases z))).trans k.ins,(ZE n1).trans k.sh,(ZE n2).trans k.wo,(ZE n3).trans k.he,ZC,(ZE n4.symm).trans k.tk,(ZE n5.symm).trans k.pk,k.nd⟩
theorem KD.put_tk(k:KD H C A S)(l:List (Key × V)):KD (upd H A.tk (.dK l)) C A {S with tk:=l}:=by
 obtain ⟨⟨_,_,_,n1,_⟩,⟨_,_,n2,_⟩,⟨_,n3,_⟩,⟨n4,_⟩,n5⟩:=KA6.apart k.nd;exact ⟨(ZE (YY k.ins k.tk (by intro z;cases z))).trans k.ins,(ZE n1).trans k.sh,(ZE n2).trans k.wo,(ZE n3).trans k.he,(ZE n4).trans k.pd,ZC,(ZE n5.symm).trans k.pk,k.nd⟩
theorem KD.put_pk(k:KD H C A S)(l:List (List Key × V)):KD (upd H A.pk (.dT l)) C A {S with pk:=l}:=by
 obtain ⟨⟨_,_,_,_,n1⟩,⟨_,_,_,n2⟩,⟨_,_,n3⟩,⟨_,n4⟩,n5⟩:=KA6.apart k.nd;exact ⟨(ZE (YY k.ins k.pk (by intro z;cases z))).trans k.ins,(ZE n1).trans k.sh,(ZE n2).trans k.wo,(ZE n3).trans k.he,(ZE n4).trans k.pd,(ZE n5).trans k.tk,ZC,k.nd⟩
end
theorem JB{α:Type}{l:List α}{x a:α}(h:l[i]?=some a):x∈l.take (i + 1)↔x∈l.take i \/ x=a:=by
 rw [take_snoc h,O2,Ox]
end L2
namespace K4
open PySem L2
section
variable{f g C:Addr}
def Ra(C:Addr):Sp:=fun vs H Q _=> ∃ (A:KA6) (S:KC) (y:Str) (l:Addr) (ts:List Str),vs= [.ref A.t, .str y, .ref l]/\KD H C A S/\H l=some (.tup (ts.map V.str))/\1<=ts.length/\ts.length<=4/\Wds 65 ts/\(∀ x∈ts,Zl S.tk (Sum.inr x)=none)/\
 S.tk.length<=100/\S.wo.length<=100/\S.he.length<=100/\S.pd.length<=100/\
 ∀ H' tk' r,KFr A H H'->KD H' C A ⟨S.sh,putK S.wo (Sum.inr y) (.ref r),putK S.he (Sum.inr y) (.int 1),putK S.pd (Sum.inr y) (.int 0),tk',S.pk⟩->
  (∀ x:Str,Zl tk' (Sum.inr x)=if x∈ts then some (.str y) else Zl S.tk (Sum.inr x))->tk'.length<=S.tk.length + 4->H' r=some (.lst (.non::ts.map V.str))->Q .non H'
theorem Be:Za ["self","name","tags","tag"] ["self","name","tags"] (ZJ Bk):=Zu
theorem FU(B:Blt mg)(T:KCl K C)(F:Fun K "take_tags" "Kinds.take_tags" Bk f fd)(hM:mg "MOST_TAGS" =some u)(rM:RelV (.int 4) u)(G:ZQ P w K mg base CX0 n g gd ["text"] (UC 65))(bG:Binds K gd ["text"] [])(kG:W.keepIn K (.ref g)=true)(mG:mg "is_tag" =some (.ref g)):ZQ P w K mg base CX0 (n + 1) f fd ["self","name","tags"] (Ra C):=by
 refine F.oq Be fun cdv A outer s H vs Q E hr h=>?_;obtain ⟨A',S,y,l,ts,rfl,kd,hl,l1,l4,wt,tn,b1,b2,b3,b4,q⟩:=h;have hu:=Y3 hr;refine ⟨_,ZA (Zg (Yz (Tt UV UV ZD (ZU ZP rfl B.len PySem.boot_len (pa1 (pv 2))) (Yx rfl hM rM))) (ZF Y2) ZO)
  (ZA (Yb PassesOwn.never rfl (JA (pv 2)) (ZL 3 Be.nd)
   (ZA (Zg (Yz (Yi (Zy G hr rfl mG kG bG .nil YM (pa1 (pv 3))))) (ZF Y2) ZO)
   (ZA (Zg (Vp (Ut hu (pv 3) (Z6 (pv 0) rfl))) (ZF Y2) ZO)
   (ZF (YF hu (Z6 (pv 0) rfl) (pv 3) (pv 1) rfl)))))
  (ZA (YF hu (Z6 (pv 0) rfl) (pv 1) (ZX Vu (Zp (pa1 Y0)) (Zm YH rfl B.list Z9 (pa1 (pv 2)))) rfl)
  (ZA (YF hu (Z6 (pv 0) rfl) (pv 1) ZD rfl)
  (ZF (YF hu (Z6 (pv 0) rfl) (pv 1) ZD rfl))))),?_⟩
 show let a:=_;let b:=ZK _ a;let c:=ZK _ b;let d:=_;let e:=_;let f:=ZK (Zv _ e _) d;let g:=_;let h:=ZK (Zv _ g _) f;let i:=ZK (Vg _ _ h) c;let j:=_;ZK (Zv _ j _) i _ _ _
 intros
 have lt:(ts.map V.str).length=ts.length:=Oh _;refine ⟨l,_,rfl, .inr (SqT.of hl),_,rfl,?_⟩;refine Z7 (by simp;omega) ?_;refine ⟨_,rfl,?_⟩;refine Zs (by simp;omega) ?_;refine ⟨⟨_,SqT.of hl⟩,?_⟩
 let I:Nat->St->Hp->Prop:=fun i U H'=>KFr A' H H'/\∃ tk' z,KD H' C A' {S with tk:=tk'}/\(∀ x:Str,Zl tk' (Sum.inr x)=if x∈ts.take i then some (.str y) else Zl S.tk (Sum.inr x))/\tk'.length<=S.tk.length + i/\H' l=some (.tup (ts.map V.str))/\
  U= [some (.ref A'.t),some (.str y),some (.ref l),z]
 refine Uy (xs:=ts.map V.str) I ⟨KFr.refl _ _,S.tk,_,kd,fun x=>by simp,Om _,hl,rfl⟩ ?_ ?_ ?_
 .rintro i U H' _ ⟨_,tk',z,_,_,_,hl',_⟩
  exact SqT.of hl'
 .rintro BB RR i v U H' hv ⟨fr,tk',z,kd',tv,tl,hl',rfl⟩
  rw [On] at hv
  cases hx:ts[i]? with
  | none=>rw [hx] at hv;cases hv
  | some x=>
   rw [hx] at hv;cases hv;have mx:x∈ts:=Oo hx
   have nx:x ∉ ts.take i:=fun hm=>by
    have q':(ts.take i++ [x]).Nodup:=by rw [<-take_snoc hx];exact wt.nd.sublist (List.take_sublist _ _)
    exact (List.nodup_append.mp q').2.2 x hm x (by simp) rfl
   have ilt:=(Ol.mp hx).1;obtain ⟨w1,w8⟩:=wt.len x mx;refine ⟨x,rfl,w1,w8,wt.abc x mx,fun H2 s2=>⟨_,rfl,?_⟩⟩;refine Zs (by simp) ?_;have kd2:=kd'.mono s2
   have gx:YD H2 A'.tk (.str x) none:=by
    have e:=tv x;rw [if_neg nx,tn x mx] at e;rw [<-e];exact YD.k (k:=Sum.inr x) kd2.tk
   refine ⟨C,_,_,_,kd2.ins,T.cl,T.tk,Lv _,_,gx,_,rfl,?_⟩;refine Zs (by simp) ?_;refine ⟨C,_,_,_,kd2.ins,T.cl,T.tk,Lv _,_,VJ.k (k:=Sum.inr x) kd2.tk (ZI (by show tk'.length<=1000;omega)),?_⟩;have hl2:=s2 _ _ hl';refine ⟨(fr.trans s2.kfr).put (by simp [KA6.ds]) _,putK tk' (Sum.inr x) (.str y),_,kd2.put_tk _,fun x'=>?_,?_,?_,rfl⟩
   .rw [VC]
    by_cases e:x'=x
    .subst e
     rw [if_pos rfl,if_pos ((JB hx).mpr (.inr rfl))]
    .rw [if_neg (fun z=>e (Sum.inr.inj z)),tv x']
     have:(x'∈ts.take (i + 1))↔x'∈ts.take i:=⟨fun z=>((JB hx).mp z).resolve_right e,fun z=>(JB hx).mpr (.inl z)⟩
     by_cases m:x'∈ts.take i
     .rw [if_pos m,if_pos (this.mpr m)]
     .rw [if_neg m,if_neg (fun z=>m (this.mp z))]
   .have:=YL tk' (Sum.inr x) (.str y);omega
   .rw [ZE (YY hl2 kd2.tk (by intro z;cases z))];exact hl2
 .rintro U H' ⟨fr,tk',z,kd',tv,tl,hl',rfl⟩
  rw [lt] at tl;rw [PD (by omega)] at tv;refine ⟨sl 1,fun p1 hp1=>⟨l,_,rfl, .inr (SqT.of ((ZH hp1 _) _ _ hl')),fun p2 hp2=>?_⟩⟩;refine ⟨p1,p2,_,_,rfl,rfl,(ZE (ZG ZC hp2)).trans ZC,ZC,PF (ZI (by simp;omega)),fun p3 hp3=>?_⟩;have sx:Same H' _:=((ZH hp1 (.lst [V.non])).trans (ZH hp2 (.lst (ts.map V.str)))).trans (ZH hp3 (.lst ([V.non]++ ts.map V.str)));have hp:upd (upd (upd H' p1 (.lst [V.non])) p2 (.lst (ts.map V.str))) p3 (.lst ([V.non]++ ts.map V.str)) p3=some (.lst (.non::ts.map V.str)):=ZC;generalize upd (upd (upd H' p1 (.lst [V.non])) p2 (.lst (ts.map V.str))) p3 (.lst ([V.non]++ ts.map V.str))=H2 at sx hp |-;have kd2:=kd'.mono sx;refine ⟨C,_,_,_,kd2.ins,T.cl,T.wo,EH _,_,VJ.k (k:=Sum.inr y) kd2.wo (ZI (by show S.wo.length<=1000;omega)),?_⟩;have kd3:=kd2.put_wo (putK S.wo (Sum.inr y) (.ref p3));have hp':upd H2 A'.wo (.dK (putK S.wo (Sum.inr y) (.ref p3))) p3=some (.lst (.non::ts.map V.str)):=by rw [ZE (YY hp kd2.wo (by intro z;cases z))];exact hp
  refine ⟨C,_,_,_,kd3.ins,T.cl,T.he,Fx _,_,VJ.k (k:=Sum.inr y) kd3.he (ZI (by show S.he.length<=1000;omega)),?_⟩;have kd4:=kd3.put_he (putK S.he (Sum.inr y) (.int 1));refine ⟨C,_,_,_,kd4.ins,T.cl,T.pd,Fw _,_,VJ.k (k:=Sum.inr y) kd4.pd (ZI (by show S.pd.length<=1000;omega)),?_⟩;have kd5:=kd4.put_pd (putK S.pd (Sum.inr y) (.int 0));refine q _ tk' p3 ?_ kd5 tv (by omega) ?_
  .exact ((((fr.trans sx.kfr).put (by simp [KA6.ds]) _).put (by simp [KA6.ds]) _).put (by simp [KA6.ds]) _)
  .have h3:=hp'
   have h4:upd (upd H2 A'.wo (.dK (putK S.wo (Sum.inr y) (.ref p3)))) A'.he (.dK (putK S.he (Sum.inr y) (.int 1))) p3=some (.lst (.non::ts.map V.str)):=by rw [ZE (YY h3 kd3.he (by intro z;cases z))];exact h3
   rw [ZE (YY h4 kd4.pd (by intro z;cases z))];exact h4
end
end K4
namespace L2
open PySem
structure Pt(H:Hp)(S:KC)(e:Str)(us:List W)(h p:Nat):Prop where
 sh:(Zl S.sh (Sum.inr e)).isSome=true
 wo:∃ l xs,Zl S.wo (Sum.inr e)=some (.ref l)/\H l=some (.lst xs)/\HasL H xs (us.map W.dat)
 he:Zl S.he (Sum.inr e)=some (.int h)
 pd:Zl S.pd (Sum.inr e)=some (.int p)
end L2
namespace K4
open PySem L2
section
variable{f g C:Addr}
def GD(C:Addr):Sp:=fun vs H Q _=> ∃ (A:KA6) (S:KC) (y e g:Str) (us vs':List W) (he hg pe pg:Nat),vs= [.ref A.t, .str y, .str e, .str g]/\KD H C A S/\Pt H S e us he pe/\Pt H S g vs' hg pg/\Zl S.pk [Sum.inr e,Sum.inr g]=none/\
 1 + max pe pg<=2/\1 + us.length * vs'.length<=30/\us.length<=30/\vs'.length<=30/\S.pk.length<=100/\S.wo.length<=100/\S.he.length<=100/\S.pd.length<=100/\e≠y/\g≠y/\
 ∀ H' r,KFr A H H'->KD H' C A ⟨S.sh,putK S.wo (Sum.inr y) (.ref r),putK S.he (Sum.inr y) (.int (1 + he + hg:Nat)),putK S.pd (Sum.inr y) (.int (1 + max pe pg:Nat)),S.tk,putK S.pk [Sum.inr e,Sum.inr g] (.str y)⟩->
  (∃ xs,H' r=some (.lst xs)/\HasL H' xs ((W.non::us.flatMap fun u=>vs'.map fun v=>W.pair u v).map W.dat))->Q .non H'
theorem Ge:Za ["self","name","one","other","deep","worths"] ["self","name","one","other"] (ZJ Rn):=Zu
theorem Io:List.Nodup [("first" :Str),"second","self","other"]:=by decide +kernel
theorem DU(B:Blt mg)(T:KCl K C)(F:Fun K "take_pair" "Kinds.take_pair" Rn f fd)(hM:mg "MOST_PAIRS_DEEP" =some u1)(rM:RelV (.int 2) u1)(hM2:mg "MOST_WORTHS" =some u2)(rM2:RelV (.int 30) u2):
  ZQ P w K mg base CX0 (n + 1) f fd ["self","name","one","other"] (GD C):=by
 refine F.oq Ge fun cdv A outer s H vs Q E hr h=>?_;obtain ⟨A',S,y,e,g,us,vs',he,hg,pe,pg,rfl,kd,pte,ptg,pn,d2,c30,ul,vl,b0,b1,b2,b3,ney,ngy,q⟩:=h;have hu:=Y3 hr;refine ⟨_,ZA (Zg (PW.pt (VX (Vp (JJ hu (pv 2) (Z6 (pv 0) rfl))) (VM (Vp (JJ hu (pv 3) (Z6 (pv 0) rfl)))))) (ZF Y2) ZO)
  (ZA (Zg (Vp (Ut hu (Zi (pa2 (pv 2) (pv 3))) (Z6 (pv 0) rfl))) (ZF Y2) ZO)
  (ZA (ZM 4 Ge.nd (ZX YC ZD (ZU (U2 rfl) rfl B.max U6 (pa2 (Zd hu (Z6 (pv 0) rfl) (pv 2) (fun _ _=>rfl)) (Zd hu (Z6 (pv 0) rfl) (pv 3) (fun _ _=>rfl))))))
  (ZA (Zg (ZN Vt (pv 4) (Yx rfl hM rM) (ZW _)) (ZF Y2) ZO)
  (ZA (ZM 5 Ge.nd (ZX Vu (Zp (pa1 Y0)) (FJ (wi2:=Dz K (Ib (LP K (UB 2) "worths") (UB 3))) [0,3] (Yk (Zd hu (Z6 (pv 0) rfl) (pv 2) (fun _ _=>rfl)))
    (fun cl C fp s H=>ZL 0 Io rfl (Or.inl rfl) (Or.inr rfl)) (fun cl C fp s H=>Yk (Zd hu (Z6 (pv 2) rfl) (pv 3) (fun _ _=>rfl))) (fun cl C fp s H=>ZL 1 Io rfl (Or.inl rfl) (Or.inr rfl))
    (fun cl C fp s H=>Zi (pa2 (pv 0) (pv 1))))))
  (ZA (Zg (ZN Vt (ZU ZP rfl B.len PySem.boot_len (pa1 (pv 5))) (Yx rfl hM2 rM2) (ZW _)) (ZF Y2) ZO)
  (ZA (YF hu (Z6 (pv 0) rfl) (Zi (pa2 (pv 2) (pv 3))) (pv 1) rfl)
  (ZA (YF hu (Z6 (pv 0) rfl) (pv 1) (pv 5) rfl)
  (ZA (YF hu (Z6 (pv 0) rfl) (pv 1) (ZX YC (ZX YC ZD (Zd hu (Z6 (pv 0) rfl) (pv 2) (fun _ _=>rfl))) (Zd hu (Z6 (pv 0) rfl) (pv 3) (fun _ _=>rfl))) rfl)
  (ZF (YF hu (Z6 (pv 0) rfl) (pv 1) (pv 4) rfl)))))))))),?_⟩
 show let a:=_;let b:=ZK _ a;let c:=ZK _ b;let d:=ZK _ c;let e:=_;let f:=ZK (Zv _ e _) d;let g:=ZK _ f;let h:=_;let i:=ZK (Zv _ h _) g;let j:=ZK _ i;let k:=_;let l:=ZK (Zv _ k _) j;let m:=_;ZK (Zv _ m _) l _ _ _
 intros
 have fl:∀ {H2:Hp},KD H2 C A' S->H2 A'.t=some (.ins C A'.dx (XR A')):=fun k=>k.ins;have ge:YD H A'.sh (.str e) (Zl S.sh (Sum.inr e)):=YD.k (k:=Sum.inr e) kd.sh;have gg:YD H A'.sh (.str g) (Zl S.sh (Sum.inr g)):=YD.k (k:=Sum.inr g) kd.sh;refine ⟨C,_,_,_,kd.ins,T.cl,T.sh,MS _,_,ge,_,rfl,?_⟩;refine Zs (by rw [pte.sh];simp) ?_;refine ⟨C,_,_,_,kd.ins,T.cl,T.sh,MS _,_,gg,_,rfl,?_⟩;refine Zs (by rw [ptg.sh];simp) ?_;refine ⟨sl 2,fun p1 hp1=>?_⟩;refine up_in hp1 _ fun H1 s1 h1=>?_;have kd1:=kd.mono s1;have gp:YD H1 A'.pk (.ref p1) none:=by rw [<-pn];exact YD.t (k:= [Sum.inr e,Sum.inr g]) kd1.pk h1
 refine ⟨C,_,_,_,kd1.ins,T.cl,T.pk,Lw _,_,gp,_,rfl,?_⟩;refine Zs (by simp) ?_;refine ⟨C,_,_,_,kd1.ins,T.cl,T.pd,Fw _,_,by rw [<-pte.pd];exact YD.k (k:=Sum.inr e) kd1.pd,?_⟩;refine ⟨C,_,_,_,kd1.ins,T.cl,T.pd,Fw _,_,by rw [<-ptg.pd];exact YD.k (k:=Sum.inr g) kd1.pd,_,_,rfl,?_⟩
 have em:(1 + (if (pg:Int) > (pe:Int) then (pg:Int) else (pe:Int)))=((1 + max pe pg:Nat):Int):=by
  by_cases z:pe < pg
  .rw [if_pos (by omega),Nat.max_eq_right (PF z)];omega
  .rw [if_neg (by omega),Nat.max_eq_left (by omega)];omega
 dsimp only [YZ,rI0,Vw];rw [em];refine ⟨_,rfl,?_⟩;refine Zs (by simp;omega) ?_;obtain ⟨l1,xs1,w1,w2,w3⟩:=pte.wo;obtain ⟨l2,xs2,v1,v2,v3⟩:=ptg.wo;have lx1:=w3.length;have lx2:=v3.length;rw [Oh] at lx1 lx2;refine ⟨sl 1,fun p2 hp2=>?_⟩;refine up_in hp2 _ fun H2 s2 h2=>?_;have kd2:=kd1.mono s2;have s02:=s1.trans s2;refine ⟨C,_,_,_,kd2.ins,T.cl,T.wo,EH _, .ref l1,by rw [<-w1];exact YD.k (k:=Sum.inr e) kd2.wo,⟨xs1,SqL.of (s02 _ _ w2)⟩,?_⟩;refine WL xs1.length (fun i zs H'=>Same H2 H'/\zs.length=i * vs'.length/\i<=us.length/\HasL H' zs (((us.take i).flatMap fun u=>vs'.map fun v=>W.pair u v).map W.dat)) ⟨Same.refl _,by simp,O7 _,by rw [List.take_zero];exact HasL.nil⟩
  (fun i zs H' z=>ZI (by rw [z.2.1];have:i * vs'.length<=us.length * vs'.length:=Nat.mul_le_mul_right _ z.2.2.1;omega)) ?_ ?_ ?_ ?_
 .intro i zs H' hi z
  exact ⟨xs1,xs1[i],SqL.of ((s02.trans z.1) _ _ w2),by simp [hi]⟩
 .intro zs H' z
  exact ⟨xs1,SqL.of ((s02.trans z.1) _ _ w2),Om _⟩
 .intro i zs H' x H'' R hi z yl hR
  obtain ⟨rfl,yy⟩:=yl;have sz:=s02.trans z.1;obtain ⟨dx,hdx,hhx⟩:=w3.get (yy xs1 (SqL.of (sz _ _ w2)));rw [On] at hdx
  cases hu1:us[i]? with
  | none=>rw [hu1] at hdx;cases hdx
  | some u=>
   rw [hu1] at hdx;cases hdx;have kdz:=kd.mono sz;refine ⟨C,_,_,_,kdz.ins,T.cl,T.wo,EH _, .ref l2,by rw [<-v1];exact YD.k (k:=Sum.inr g) kdz.wo,⟨xs2,SqL.of (sz _ _ v2)⟩,?_⟩;refine RC xs2.length (fun j ws H3=>Same H'' H3/\ws.length=i * vs'.length + j/\j<=vs'.length/\HasL H3 ws (((us.take i).flatMap fun u=>vs'.map fun v=>W.pair u v).map W.dat++ ((vs'.take j).map fun v=>W.pair u v).map W.dat)) ⟨Same.refl _,by rw [z.2.1];rfl,O7 _,by rw [List.take_zero,List.map_nil,List.map_nil,List.append_nil];exact z.2.2.2⟩
    (fun j ws H3 y3=>ZI (by
     rw [y3.2.1];have:(i + 1) * vs'.length<=us.length * vs'.length:=Nat.mul_le_mul_right _ (by omega);rw [Nat.succ_mul] at this;have:=y3.2.2.1;omega)) ?_ ?_ ?_ ?_
   .intro j ws H3 hj y3
    exact ⟨xs2,xs2[j],SqL.of ((sz.trans y3.1) _ _ v2),by simp [hj]⟩
   .intro ws H3 y3
    exact ⟨xs2,SqL.of ((sz.trans y3.1) _ _ v2),Om _⟩
   .intro j ws H3 x2 H4 T2 hj y3 yl2 hT
    obtain ⟨rfl,yy2⟩:=yl2;have s3:=sz.trans y3.1;obtain ⟨dz,hdz,hhz⟩:=v3.get (yy2 xs2 (SqL.of (s3 _ _ v2)));rw [On] at hdz
    cases hv1:vs'[j]? with
    | none=>rw [hv1] at hdz;cases hdz
    | some v=>
     rw [hv1] at hdz;cases hdz;refine ⟨sl 2,fun t ht=>hT _ _ ?_⟩;have st:=ZH ht (.tup [x,x2]);refine ⟨y3.1.trans st,by rw [Os,y3.2.1];rfl,(Ol.mp hv1).1,?_⟩;rw [take_snoc hv1,Oq,Oq,<-List.append_assoc];refine HasL.append (y3.2.2.2.mono st) (HasL.one ?_);unfold W.dat Has;exact ⟨t,_,rfl,ZC,HasL.cons ((hhx.mono s3).mono st) (HasL.cons ((hhz.mono s3).mono st) HasL.nil)⟩
   .intro ws H3 y3
    have hl2:xs2.length=vs'.length:=lx2;refine hR _ _ ⟨z.1.trans y3.1,by rw [y3.2.1,hl2,Nat.succ_mul],(Ol.mp hu1).1,?_⟩;have y4:=y3.2.2.2;have et:vs'.take xs2.length=vs':=PD (by omega);rw [et] at y4;rw [Wq _ hu1,Oq];exact y4
 .intro zs H' p3 z hp3
  have s3:=ZH hp3 (.lst zs);have h3:upd H' p3 (.lst zs) p3=some (.lst zs):=ZC;have z4:=z.2.2.2;rw [PD (by omega)] at z4;have z5:=z4.mono s3;generalize upd H' p3 (.lst zs)=H3 at s3 h3 z5 |-;have s23:=z.1.trans s3;have lz:zs.length=us.length * vs'.length:=by rw [z.2.1,lx1]
  refine ⟨p2,p3, [V.non],zs,rfl,rfl,s23 _ _ h2,h3,PF (ZI (by rw [lz];simp;omega)),fun p4 hp4=>?_⟩;have s4:=ZH hp4 (.lst ([V.non]++ zs));have h4:upd H3 p4 (.lst ([V.non]++ zs)) p4=some (.lst ([V.non]++ zs)):=ZC;have z6:=z5.mono s4;generalize upd H3 p4 (.lst ([V.non]++ zs))=H4 at s4 h4 z6 |-;have s04:=(s02.trans s23).trans s4;have kd4:=kd.mono s04;have hw:HasL H4 ([V.non]++ zs) ((W.non::us.flatMap fun u=>vs'.map fun v=>W.pair u v).map W.dat):=HasL.cons Xn z6;refine ⟨p4,_,rfl, .inl (SqL.of h4),_,rfl,?_⟩;refine Zs (by simp;omega) ?_;refine ⟨C,_,_,_,kd4.ins,T.cl,T.pk,Lw _,sl 2,fun p5 hp5=>?_⟩;refine up_in hp5 _ fun H5 s5 h5=>?_;have kd5:=kd4.mono s5;refine ⟨_,VJ.t (k:= [Sum.inr e,Sum.inr g]) kd5.pk h5 (ZI (by omega)),?_⟩;have kd6:=kd5.put_pk (putK S.pk [Sum.inr e,Sum.inr g] (.str y));have f6:KFr A' H (upd H5 A'.pk (.dT (putK S.pk [Sum.inr e,Sum.inr g] (.str y)))):=KFr.put (Same.kfr (s04.trans s5)) (by simp [KA6.ds]) _;have t6:TL H4 (upd H5 A'.pk (.dT (putK S.pk [Sum.inr e,Sum.inr g] (.str y)))):=(KFr.put (Same.kfr s5) (by simp [KA6.ds]) _:KFr A' H4 _).tl kd4;generalize upd H5 A'.pk (.dT (putK S.pk [Sum.inr e,Sum.inr g] (.str y)))=H6 at kd6 f6 t6 |-;refine ⟨C,_,_,_,kd6.ins,T.cl,T.wo,EH _,_,VJ.k (k:=Sum.inr y) kd6.wo (ZI (by show S.wo.length<=1000;omega)),?_⟩;have kd7:=kd6.put_wo (putK S.wo (Sum.inr y) (.ref p4));have f7:=f6.put (x:=A'.wo) (by simp [KA6.ds]) (.dK (putK S.wo (Sum.inr y) (.ref p4)));have t7:=t6.trans ((KFr.put (KFr.refl A' H6) (x:=A'.wo) (by simp [KA6.ds]) (.dK (putK S.wo (Sum.inr y) (.ref p4)))).tl kd6);generalize upd H6 A'.wo (.dK (putK S.wo (Sum.inr y) (.ref p4)))=H7 at kd7 f7 t7 |-;refine ⟨C,_,_,_,kd7.ins,T.cl,T.he,Fx _,_,by rw [<-pte.he];exact YD.k (k:=Sum.inr e) kd7.he,?_⟩;refine ⟨C,_,_,_,kd7.ins,T.cl,T.he,Fx _,_,by rw [<-ptg.he];exact YD.k (k:=Sum.inr g) kd7.he,?_⟩;refine ⟨C,_,_,_,kd7.ins,T.cl,T.he,Fx _,_,VJ.k (k:=Sum.inr y) kd7.he (ZI (by show S.he.length<=1000;omega)),?_⟩;have eh:(1 + (he:Int) + (hg:Int))=((1 + he + hg:Nat):Int):=by push_cast;rfl
  dsimp only [rI0,rI,Vw];rw [eh];have kd8:=kd7.put_he (putK S.he (Sum.inr y) (.int ((1 + he + hg:Nat):Int)));have f8:=f7.put (x:=A'.he) (by simp [KA6.ds]) (.dK (putK S.he (Sum.inr y) (.int ((1 + he + hg:Nat):Int))));have t8:=t7.trans ((KFr.put (KFr.refl A' H7) (x:=A'.he) (by simp [KA6.ds]) (.dK (putK S.he (Sum.inr y) (.int ((1 + he + hg:Nat):Int))))).tl kd7);generalize upd H7 A'.he (.dK (putK S.he (Sum.inr y) (.int ((1 + he + hg:Nat):Int))))=H8 at kd8 f8 t8 |-;refine ⟨C,_,_,_,kd8.ins,T.cl,T.pd,Fw _,_,VJ.k (k:=Sum.inr y) kd8.pd (ZI (by show S.pd.length<=1000;omega)),?_⟩;have kd9:=kd8.put_pd (putK S.pd (Sum.inr y) (.int ((1 + max pe pg:Nat):Int)));have f9:=f8.put (x:=A'.pd) (by simp [KA6.ds]) (.dK (putK S.pd (Sum.inr y) (.int ((1 + max pe pg:Nat):Int))));have t9:=t8.trans ((KFr.put (KFr.refl A' H8) (x:=A'.pd) (by simp [KA6.ds]) (.dK (putK S.pd (Sum.inr y) (.int ((1 + max pe pg:Nat):Int))))).tl kd8);exact q _ p4 f9 kd9 ⟨_,t9.2 _ _ h4,HasL.tl t9 _ hw⟩
end
end K4
namespace L2
open PySem
theorem Ly(kk:KK top c d ks)(hy:y∈ks.map (·.1)):c y<=5 \/ c y<=top:=by
 obtain ⟨s,hs⟩:=Ys hy;have k1:=kk.at hs
 cases s with
 | tags ts=>obtain ⟨h1,h2,h3,_⟩:=k1;exact .inl (by omega)
 | pair a b=>obtain ⟨h1,h2,h3,h4,_⟩:=k1;exact .inr h4
theorem TZ{ks:List (Str × Shp)}(e:kvs.map (·.1)=ks.map (fun k=>(Sum.inr k.1:Key)))(h:y ∉ ks.map (·.1)):Zl kvs (Sum.inr y)=none:=by
 unfold Zl
 cases q:kvs.find? fun kv=>decide (kv.1=Sum.inr y) with
 | none=>rfl
 | some kv=>
  have m:=List.mem_of_find?_eq_some q;have q':=List.find?_some q;have z:kv.1=Sum.inr y:=of_decide_eq_true q';have m2:(Sum.inr y:Key)∈kvs.map (·.1):=O1.mpr ⟨kv,m,z⟩;rw [e] at m2;obtain ⟨k,hk,ek⟩:=O1.mp m2;exact absurd (O1.mpr ⟨k,hk,Sum.inr.inj ek⟩) h
theorem V5{ks:List (Str × Shp)}{s:Shp}(h:z∈(ks++ [(y,s)]).map (·.1))(n:z≠y):z∈ks.map (·.1):=by
 rw [Oq,O2] at h;rcases h with h | h
 .exact h
 .exact absurd (Ox.mp h) n
theorem KR.snoc(k:KR H S ks d)(t:TL H H')(kk:KK 30 c d ks)(k1:KK1 30 c d (ks.map (·.1)) y s)(ny:y ∉ ks.map (·.1))(esh:S'.sh=putK S.sh (Sum.inr y) v)(hv:Has H' v s.dat)(ewo:S'.wo=putK S.wo (Sum.inr y) (.ref r))(hr:∃ xs,H' r=some (.lst xs)/\HasL H' xs ((wOf ks 3 s).map W.dat))(ehe:S'.he=putK S.he (Sum.inr y) (.int (hOf ks 3 s:Nat)))(epd:S'.pd=putK S.pd (Sum.inr y) (.int (d y:Nat)))(etk:∀ x:Str,Zl S'.tk (Sum.inr x)=if VQ x s=true then some (.str y) else Zl S.tk (Sum.inr x))(ltk:S'.tk.length<=S.tk.length + 4)(ntk:∀ x,VQ x s=true->Vc ks x=none)(epk:∀ a b:Str,Zl S'.pk [Sum.inr a,Sum.inr b]=if Y8 a b s=true then some (.str y) else Zl S.pk [Sum.inr a,Sum.inr b])(lpk:S'.pk.length<=S.pk.length + 4)(npk:∀ a b,Y8 a b s=true->VF ks a b=none):
  KR H' S' (ks++ [(y,s)]) d:=by
 have k':=k.tl t;have vn:=TZ k.ke ny
 have hw:Zb (ks++ [(y,s)]) 3 y=wOf ks 3 s:=by
  rw [Jt (X0 ny)]
  cases s with
  | tags ts=>rfl
  | pair a b=>
   obtain ⟨q1,q2,q3,q4,q5,q6⟩:=k1;have m1:=Nat.le_max_left (d a) (d b);have m2:=Nat.le_max_right (d a) (d b);show (W.non::_)=(W.non::_);rw [VW kk _ 2 a q1,VW kk _ 2 b q2,VA kk 2 3 a q1 (by omega) (by omega),VA kk 2 3 b q2 (by omega) (by omega)]
 have hh:UI (ks++ [(y,s)]) 3 y=hOf ks 3 s:=by
  rw [UY (X0 ny)]
  cases s with
  | tags ts=>rfl
  | pair a b=>
   obtain ⟨q1,q2,q3,q4,q5,q6⟩:=k1;have m1:=Nat.le_max_left (d a) (d b);have m2:=Nat.le_max_right (d a) (d b);show 1 + _ + _=1 + _ + _;rw [JL kk _ 2 a q1,JL kk _ 2 b q2,Jy kk 2 3 a q1 (by omega) (by omega),Jy kk 2 3 b q2 (by omega) (by omega)]
 have ne:∀ {z:Str},z≠y-> ¬ (Sum.inr z:Key)=Sum.inr y:=fun n q=>n (Sum.inr.inj q);obtain ⟨b1,b2,b3,b4,b5,b6⟩:=k.ln;refine ⟨?_,fun z s' hz=>?_,fun z hz=>?_,fun z hz=>?_,fun z hz=>?_,fun x=>?_,fun a b=>?_,?_⟩
 .rw [esh,Jn v vn,Oq,Oq,k.ke];rfl
 .rw [esh,VC]
  by_cases e:z=y
  .subst e
   rw [X0 ny] at hz;cases hz;rw [if_pos rfl];exact ⟨v,rfl,hv⟩
  .rw [if_neg (ne e)]
   have hz':=V5 (O1.mpr ⟨_,UQ hz,rfl⟩) e;rw [Ul hz'] at hz;exact k'.sh z s' hz
 .rw [ewo,VC]
  by_cases e:z=y
  .subst e
   rw [if_pos rfl,hw];obtain ⟨xs,g1,g2⟩:=hr;exact ⟨r,xs,rfl,g1,g2⟩
  .rw [if_neg (ne e)]
   have hz':=V5 hz e;rw [VW kk _ 3 z hz'];exact k'.wo z hz'
 .rw [ehe,VC]
  by_cases e:z=y
  .subst e
   rw [if_pos rfl,hh]
  .rw [if_neg (ne e)]
   have hz':=V5 hz e;rw [JL kk _ 3 z hz'];exact k.he z hz'
 .rw [epd,VC]
  by_cases e:z=y
  .subst e
   rw [if_pos rfl]
  .rw [if_neg (ne e)]
   exact k.pd z (V5 hz e)
 .rw [etk x]
  have e:Vc (ks++ [(y,s)]) x=(Vc ks x).or (if VQ x s=true then some y else none):=by
   unfold Vc;rw [J6]
   cases ks.find? fun k=>VQ x k.2 with
   | some k=>rfl
   | none=>
    show Option.map _ (if VQ x s=true then some (y,s) else none)=_;cases VQ x s <;> rfl
  rw [e]
  cases hx:VQ x s with
  | true=>rw [ntk x hx];rfl
  | false=>
   rw [k.tk x];cases Vc ks x <;> rfl
 .rw [epk a b]
  have e:VF (ks++ [(y,s)]) a b=(VF ks a b).or (if Y8 a b s=true then some y else none):=by
   unfold VF;rw [J6]
   cases ks.find? fun k=>Y8 a b k.2 with
   | some k=>rfl
   | none=>
    show Option.map _ (if Y8 a b s=true then some (y,s) else none)=_;cases Y8 a b s <;> rfl
  rw [e]
  cases hx:Y8 a b s with
  | true=>rw [npk a b hx];rfl
  | false=>
   rw [k.pk a b];cases VF ks a b <;> rfl
 .rw [Os,List.length_singleton,esh,ewo,ehe,epd]
  have:=YL S.sh (Sum.inr y) v;have:=YL S.wo (Sum.inr y) (.ref r);have:=YL S.he (Sum.inr y) (.int (hOf ks 3 s:Nat));have:=YL S.pd (Sum.inr y) (.int (d y:Nat));exact ⟨by omega,by omega,by omega,by omega,by omega,by omega⟩
end L2
namespace K4
open PySem L2
section
variable{f g C gt gp gn:Addr}
def GO(C:Addr):Sp:=fun vs H Q _=> ∃ (A:KA6) (S:KC) (y:Str) (v:V) (s:Shp) (ks:List (Str × Shp)) (c d:Str->Nat),vs= [.ref A.t, .str y,v]/\KD H C A S/\KR H S ks d/\KK 30 c d ks/\KK1 30 c d (ks.map (·.1)) y s/\y ∉ ks.map (·.1)/\
 (1<=y.length/\y.length<=8/\∀ c∈y.cps.toList,97<=c/\c < 97 + 26)/\(∀ ts,s= .tags ts->Wds 65 ts)/\(∀ x,VQ x s=true->Vc ks x=none)/\(∀ a b,Y8 a b s=true->VF ks a b=none)/\Has H v s.dat/\ks.length<=6/\
 ∀ H' S',KFr A H H'->KD H' C A S'->KR H' S' (ks++ [(y,s)]) d->Q .non H'
theorem Oa(A:KA6):(XR A).lookup ("take_tags" :Str)=none:=rfl
theorem Ob(A:KA6):(XR A).lookup ("take_pair" :Str)=none:=rfl
theorem Mo:Za ["self","name","shape"] ["self","name","shape"] (ZJ Gn):=Zu
theorem DY(B:Blt mg)(T:KCl K C)(F:Fun K "take" "Kinds.take" Gn f fd)(GN:ZQ P w K mg base CX0 n gn nd' ["text"] (UC 97))(bN:Binds K nd' ["text"] [])(kN:W.keepIn K (.ref gn)=true)(mN:mg "is_name" =some (.ref gn))(GT:ZQ P w K mg base CX0 n gt td ["self","name","tags"] (Ra C))(bT:Binds K td ["self","name","tags"] [])(mT:XB K C "take_tags" gt)(GP:ZQ P w K mg base CX0 n gp pd' ["self","name","one","other"] (GD C))(bP:Binds K pd' ["self","name","one","other"] [])(mP:XB K C "take_pair" gp):
  ZQ P w K mg base CX0 (n + 1) f fd ["self","name","shape"] (GO C):=by
 refine F.oq Mo fun cdv A outer s H vs Q E hr h=>?_;obtain ⟨A',S,y,v,s,ks,c,d,rfl,kd,kr,kk,k1,ny,⟨y1,y8,yc⟩,wt,ntk,npk,hv,k6,q⟩:=h;have hu:=Y3 hr;refine ⟨_,ZA (Zg (Yz (Yi (Zy GN hr rfl mN kN bN .nil YM (pa1 (pv 1))))) (ZF Y2) ZO)
  (ZA (Zg (Vp (Ut hu (pv 1) (Z6 (pv 0) rfl))) (ZF Y2) ZO)
  (ZA (Zg (PW.pt (Vo (ZN YN (ZU ZP rfl B.len PySem.boot_len (pa1 (pv 2))) ZD (ZW _)) (VE (ZN YN (ZT Zc (pv 2) ZD) ZY (ZW _)))))
   (ZF (Ye (JU (pv 0) T.cl mT GT hr bT .nil YM (pa2 (pv 1) (ZT Zc (pv 2) ZD)))))
   (ZF (Zg (PW.pt (Vo (ZN YN (ZU ZP rfl B.len PySem.boot_len (pa1 (pv 2))) ZD (ZW _)) (VE (ZN YN (ZT Zc (pv 2) ZD) ZY (ZW _)))))
    (ZF (Ye (JU (pv 0) T.cl mP GP hr bP .nil YM (pa3 (pv 1) (ZT Zc (pv 2) ZD) (ZT Zc (pv 2) ZD)))))
    (ZF Y2))))
  (ZF (YF hu (Z6 (pv 0) rfl) (pv 1) (pv 2) rfl)))),?_⟩
 show let a:=_;let b:=_;let c:=_;let d:=_;let e:=Zv _ c d;let f:=ZK (Zv _ b e) a;let g:=_;let h:=ZK (Zv _ g _) f;let i:=_;ZK (Zv _ i _) h _ _ _
 intros
 refine ⟨y,rfl,y1,y8,yc,fun H1 s1=>⟨_,rfl,?_⟩⟩;refine Zs (by simp) ?_;have kd1:=kd.mono s1;have kr1:=kr.tl s1.tl;have hv1:=hv.mono s1;have gn:YD H1 A'.sh (.str y) none:=by rw [<-TZ kr.ke ny];exact YD.k (k:=Sum.inr y) kd1.sh
 refine ⟨C,_,_,_,kd1.ins,T.cl,T.sh,MS _,_,gn,_,rfl,?_⟩;refine Zs (by simp) ?_;obtain ⟨b1,b2,b3,b4,b5,b6⟩:=kr.ln
 cases s with
 | tags ts=>
  obtain ⟨p,l,rfl,hp,hl⟩:=Vx hv1;have l2:([V.str "tags",V.ref l]:List V).length=2:=rfl;refine ⟨p,_,rfl, .inr (SqT.of hp),rfl,_,rfl,?_⟩;refine Z7 (by simp) ?_;refine ⟨_,_,SqT.of hp,rfl,rfl,_,rfl,?_⟩;refine Z7 (by simp) ?_;obtain ⟨t1,t4,_,t0,_⟩:=k1;refine ⟨_,_,kd1.ins,Oa _,_,_,SqT.of hp,rfl,A',S,y,l,ts,rfl,kd1,hl,t1,t4,wt ts rfl,fun x hx=>?_,by omega,by omega,by omega,by omega,fun H2 tk' r f2 kd2 tv tl hr2=>?_⟩
  .rw [kr.tk x,ntk x (by unfold VQ;exact decide_eq_true hx)];rfl
  .have tl2:=f2.tl kd1
   refine ⟨C,_,_,_,kd2.ins,T.cl,T.sh,MS _,_,VJ.k (k:=Sum.inr y) kd2.sh (ZI (by show S.sh.length<=1000;omega)),?_⟩;have kd3:=kd2.put_sh (putK S.sh (Sum.inr y) (.ref p));have f3:=f2.put (x:=A'.sh) (by simp [KA6.ds]) (.dK (putK S.sh (Sum.inr y) (.ref p)));have tl3:=tl2.trans ((KFr.put (KFr.refl A' H2) (x:=A'.sh) (by simp [KA6.ds]) (.dK (putK S.sh (Sum.inr y) (.ref p)))).tl kd2);have t23:=(KFr.put (KFr.refl A' H2) (x:=A'.sh) (by simp [KA6.ds]) (.dK (putK S.sh (Sum.inr y) (.ref p)))).tl kd2;refine q _ _ (s1.kfr.trans f3) kd3 (KR.snoc (v:= .ref p) (r:=r) kr1 tl3 kk ⟨t1,t4,by assumption,t0,by assumption⟩ ny rfl (Has.tl tl3 _ hv1) rfl ⟨_,t23.2 _ _ hr2,?_⟩ rfl (by rw [t0];rfl) (fun x=>?_) tl ntk (fun a b=>rfl) (Nat.le_add_right _ _) npk)
   .show HasL _ (V.non::ts.map V.str) ((W.non::ts.map W.tag).map W.dat)
    exact HasL.cons Xn (Xs ts)
   .rw [tv x]
    unfold VQ
    by_cases m:x∈ts
    .rw [if_pos m,if_pos (decide_eq_true m)]
    .rw [if_neg m,if_neg (by simp [m])]
 | pair a b=>
  obtain ⟨p,rfl,hp⟩:=VP hv1;obtain ⟨q1,q2,q3,q4,q5,q6⟩:=id k1;have m1:=Nat.le_max_left (d a) (d b);have m2:=Nat.le_max_right (d a) (d b);refine ⟨p,_,rfl, .inr (SqT.of hp),rfl,_,rfl,?_⟩;refine Zs (by simp) ?_;refine Zs (by simp) ?_;refine ⟨p,_,rfl, .inr (SqT.of hp),rfl,_,rfl,?_⟩;refine Z7 (by simp) ?_;refine ⟨_,_,SqT.of hp,rfl,rfl,_,rfl,?_⟩;refine Z7 (by simp) ?_;obtain ⟨la,pa,_⟩:=Y9 kk 3 a q1 (by omega);obtain ⟨lb,pb,_⟩:=Y9 kk 3 b q2 (by omega)
  have pt:∀ z,z∈ks.map (·.1)->Pt H1 S z (Zb ks 3 z) (UI ks 3 z) (d z):=fun z hz=>by
   obtain ⟨s',hs'⟩:=Ys hz;obtain ⟨v',e1,_⟩:=kr.sh z s' hs';exact ⟨by rw [e1];rfl,kr1.wo z hz,kr.he z hz,kr.pd z hz⟩
  have ca:c a<=30:=by rcases Ly kk q1 with h | h <;> omega
  have cb:c b<=30:=by rcases Ly kk q2 with h | h <;> omega
  refine ⟨_,_,kd1.ins,Ob _,_,_,SqT.of hp,rfl,_,_,SqT.of hp,rfl,A',S,y,a,b,Zb ks 3 a,Zb ks 3 b,UI ks 3 a,UI ks 3 b,d a,d b,rfl,kd1,pt a q1,pt b q2,?_,by omega,?_,by omega,by omega,by omega,by omega,by omega,by omega,fun z=>by subst z;exact ny q1,fun z=>by subst z;exact ny q2,fun H2 r f2 kd2 hr2=>?_⟩
  .rw [kr.pk a b,npk a b (by unfold Y8;simp)];rfl
  .rw [la,lb];omega
  .have tl2:=f2.tl kd1
   refine ⟨C,_,_,_,kd2.ins,T.cl,T.sh,MS _,_,VJ.k (k:=Sum.inr y) kd2.sh (ZI (by show S.sh.length<=1000;omega)),?_⟩;have kd3:=kd2.put_sh (putK S.sh (Sum.inr y) (.ref p));have f3:=f2.put (x:=A'.sh) (by simp [KA6.ds]) (.dK (putK S.sh (Sum.inr y) (.ref p)));have t23:=(KFr.put (KFr.refl A' H2) (x:=A'.sh) (by simp [KA6.ds]) (.dK (putK S.sh (Sum.inr y) (.ref p)))).tl kd2;have tl3:=tl2.trans t23;obtain ⟨xs,hx1,hx2⟩:=hr2;refine q _ _ (s1.kfr.trans f3) kd3 (KR.snoc (v:= .ref p) (r:=r) kr1 tl3 kk k1 ny rfl (Has.tl tl3 _ hv1) rfl ⟨xs,t23.2 _ _ hx1,HasL.tl t23 _ hx2⟩ rfl (by rw [q5]) (fun x=>rfl) (Nat.le_add_right _ _) ntk (fun e g=>?_) (by have:=YL S.pk [Sum.inr a,Sum.inr b] (.str y);show (putK S.pk [Sum.inr a,Sum.inr b] (V.str y)).length<=_;omega) npk);show Zl (putK S.pk [Sum.inr a,Sum.inr b] (V.str y)) [Sum.inr e,Sum.inr g]=_;rw [VC];unfold Y8
   by_cases h1:a=e
   .by_cases h2:b=g
    .subst h1 h2;simp
    .have z: ¬ ([Sum.inr e,Sum.inr g]:List Key)= [Sum.inr a,Sum.inr b]:=fun w=>by injection w with w1 w2;injection w2 with w2 _;exact h2 (Sum.inr.inj w2).symm
     rw [if_neg z,if_neg (by simp [h2])]
   .have z: ¬ ([Sum.inr e,Sum.inr g]:List Key)= [Sum.inr a,Sum.inr b]:=fun w=>by injection w with w1 _;exact h1 (Sum.inr.inj w1).symm
    rw [if_neg z,if_neg (by simp [h1])]
end
end K4
namespace L2
open PySem
structure Tx(x:Str):Prop where
 len:x.length<=20
 asc:∀ c∈x.cps.toList,c < 128
section
variable{X:Cx}{E:XK}{x:Str}{C:Addr}
def Ia(t:TE):TE:=fun U H Q=>t U H fun v H1=> ∃ n:Nat,v= .int n/\n<=100/\∀ y,y.length<=1000->Q (.str y) H1
theorem M9:∀ n:Nat,n<=100->(Str.ofString (toString (n:Int))).length<=1000/\(n:Int).natAbs.log2 < 1920:=by
 intro n hn;exact (by decide +kernel:∀ n:Nat,n < 101->(Str.ofString (toString (n:Int))).length<=1000/\(n:Int).natAbs.log2 < 1920) n (by omega)
theorem Mx(hv:PE X v tv):PE X (.FormattedValue v (-1) none pos) (Ia tv):=by
 intro pins s U H Q I h;refine wpAny_FormattedValue_plain (thn (hv pins s U H _ I h) fun u s1 ⟨y,H1,I1,r1,n,hz,hl,q⟩=>?_);subst hz;obtain ⟨tk,rfl⟩:=r1;exact wpAny_formatField_int (M9 n hl).2 ⟨.str (toString (n:Int)),H1,(I1.tok _).tok _,⟨_,rfl⟩,q _ (M9 n hl).1⟩
def RW:List TE->St->Hp->(Hp->Prop)->Prop
 | [],_,H,R=>R H
 | t::ts,U,H,R=>t U H fun v H1=> ∃ x,v= .str x/\x.length<=1000/\RW ts U H1 R
theorem PE.imp(h:PE X e t)(k:∀ U H Q,t' U H Q->t U H Q):PE X e t':=fun pins s U H Q I q=>h pins s U H Q I (k U H Q q)
def UA(t:TE):Prop:= ∀ U H (Q Q':VK),(∀ v H',Q v H'->Q' v H')->t U H Q->t U H Q'
def Eo(C:Addr)(E:XK)(ts:List TE):TS:=fun _ U H=>RW ts U H fun H1=>E (.ref C) none H1
inductive PMs(X:Cx):List Expr->List TE->Prop where
 | nil:PMs X [] []
 | cons {e:Expr}{t:TE}{es:List Expr}{ts:List TE}:PE X e t->UA t->PMs X es ts->PMs X (e::es) (t::ts)
theorem PMs.pes(h:PMs X es ts):PEs X es ts:=by
 induction h with
 | nil=>exact .nil
 | cons a _ _ ih=>exact .cons a ih
theorem MA(h:PMs X es ts):∀ (acc:Str) (k:Nat) (U:St) (H:Hp) (R:Hp->Prop),acc.length<=1000 * k->k + ts.length<=10->RW ts U H R->WZ ts acc U H fun _ H1=>R H1:=by
 induction h with
 | nil=>intro acc k U H R _ _ q;exact q
 | cons a m _ ih=>
  intro acc k U H R ha hk q;rw [PB] at hk;refine m U H _ _ (fun v H1 ⟨x,hx,lx,r⟩=>⟨x,hx,?_,ih (acc++ x) (k + 1) U H1 R ?_ (by omega) r⟩) q
  .rw [strLen_append]
   have:(10000:Nat)<=sizeLine:=by decide
   have:1000 * k<=9000:=by omega
   omega
  .rw [strLen_append];omega
theorem Wi(hl:BP X E)(hex:X.ex= [])(hc:X.calm=true)(hg:Gl X x)(hm:X.mg x=some (.ref C))(hC:IsX X.K C)(hp:PMs X (v1::v2::vs) ts)(hn:ts.length<=10:=by simp)(hdb:(x==("__debug__" :Str))=false:=by decide):PS X (.Raise (some (.Call (.Name x np) [.JoinedStr (v1::v2::vs) jp] [] cpos)) none pos) (Eo C E ts):=by
 intro pins s U H D I h;refine Bx hl hex hc hg hm hC (pa1 (Ng hp.pes)) hdb rfl rfl pins s U H D I ?_;have q:=MA hp Str.empty 0 U H _ (by decide) (by omega) h
 have mono:∀ (ts:List TE) (acc:Str),(∀ t∈ts,UA t)->∀ U H (Q Q':VK),(∀ v H',Q v H'->Q' v H')->WZ ts acc U H Q->WZ ts acc U H Q':=by
  intro ts
  induction ts with
  | nil=>intro acc _ U H Q Q' k q;exact k _ _ q
  | cons t ts ih=>intro acc hm U H Q Q' k q;exact hm t (O5 ..) U H _ _ (fun v H1 ⟨x,e,l,r⟩=>⟨x,e,l,ih (acc++ x) (fun t' ht'=>hm t' (Ot _ ht')) U H1 Q Q' k r⟩) q
 have all:∀ {es:List Expr}{ts:List TE},PMs X es ts->∀ t∈ts,UA t:=by
  intro es ts h
  induction h with
  | nil=>intro t ht;cases ht
  | cons a m _ ih=>
   intro t ht;rcases O8.mp ht with rfl | ht
   .exact m
   .exact ih t ht
 refine mono ts Str.empty (all hp) U H _ _ (fun v H1 r=>?_) q;exact ⟨sl 1,r⟩
theorem Fj(v:V):UA (tC v):=fun U H Q Q' k q=>k _ _ q
theorem Kt(i:Nat):UA (UB i):=fun U H Q Q' k q=>by
 obtain ⟨v,e,q⟩:=W6.old q;show W6 U[i]? _;rw [e];exact k _ _ q
theorem M5(m:UA t):UA (Ia t):=fun U H Q Q' k q=>m U H _ _ (fun v H1 ⟨x,e,t,r⟩=>⟨x,e,t,fun y hy=>k _ _ (r y hy)⟩) q
theorem Kv(m:UA t):UA (LO t):=fun U H Q Q' k q=>m U H _ _ (fun v H1 ⟨x,e,t,r⟩=>⟨x,e,t,k _ _ r⟩) q
theorem Ku{K:W.Frag}:UA (tCB (fun xs H Q=> ∃ p ys,xs= [.ref p]/\(SqL K H p ys \/ SqT K H p ys)/\Q (.int ys.length) H) (YI (UB i) Jj)):=fun U H Q Q' k q=>by
 obtain ⟨v,e,p,ys,h1,h2,r⟩:=W6.old q;show W6 U[i]? _;rw [e];exact ⟨p,ys,h1,h2,k _ _ r⟩
end
theorem VI(hx:H x=some (.ins C dx fs))(hp:H p=none):
  upd (upd H p o) x (.ins C dx (Zz f (.ref p) fs)) x=some (.ins C dx (Zz f (.ref p) fs))/\upd (upd H p o) x (.ins C dx (Zz f (.ref p) fs)) p=some o/\p≠x/\∀ b u,b≠x->H b=some u->upd (upd H p o) x (.ins C dx (Zz f (.ref p) fs)) b=some u:=by
 have ne:p≠x:=(ZG hx hp).symm;exact ⟨ZC,(ZE ne).trans ZC,ne,fun b u hb h=>by rw [ZE hb,ZE (ZG h hp)];exact h⟩
theorem KK.take(h:KK top c d ks)(i:Nat):KK top c d (ks.take i):=fun j y s e=>by
 have hj:j < i:=by
  have:=(Ol.mp e).1;rw [Ou] at this;omega
 rw [List.getElem?_take,if_pos hj] at e;have q:=h j y s e;rw [List.take_take,Nat.min_eq_left (PF hj)];exact q
theorem KG.apart(g:KG ks){i j:Nat}(hi:ks[i]?=some (y, .tags ts))(hj:ks[j]?=some (z, .tags us))(h1:x∈ts)(h2:x∈us):i=j:=by
 obtain ⟨tgs,wd,q⟩:=g.tg;obtain ⟨r,hr,rfl⟩:=q i y ts hi;obtain ⟨r',hr',rfl⟩:=q j z us hj;obtain ⟨a,ha,ea⟩:=List.mem_iff_getElem.mp h1;obtain ⟨b,hb,eb⟩:=List.mem_iff_getElem.mp h2;rw [Ou,List.length_drop] at ha hb;rw [List.getElem_take,List.getElem_drop] at ea eb;have e:tgs[4 * i + a]'(by omega)=tgs[4 * j + b]'(by omega):=ea.trans eb.symm;have pw:=List.pairwise_iff_getElem.mp wd.nd
 have ee:4 * i + a=4 * j + b:=by
  rcases Nat.lt_trichotomy (4 * i + a) (4 * j + b) with h | h | h
  .exact absurd e (pw _ _ _ _ h)
  .exact h
  .exact absurd e.symm (pw _ _ _ _ h)
 omega
theorem KG.ntk(g:KG ks)(hi:ks[i]?=some (y,s))(x:Str)(h:VQ x s=true):Vc (ks.take i) x=none:=by
 cases s with
 | pair a b=>cases h
 | tags ts=>
  have hx:x∈ts:=of_decide_eq_true h;unfold Vc
  cases e:(ks.take i).find? fun k=>VQ x k.2 with
  | none=>rfl
  | some k=>
   have m:=List.mem_of_find?_eq_some e;have q:=List.find?_some e;obtain ⟨z,s'⟩:=k
   cases s' with
   | pair a b=>cases q
   | tags us=>
    have hx':x∈us:=of_decide_eq_true q;obtain ⟨j,hj,ej⟩:=List.mem_iff_getElem.mp m;have hj':j < i:=by rw [Ou] at hj;omega
    have e2:ks[j]?=some (z, .tags us):=by
     have:=Oi hj;rw [ej,List.getElem?_take,if_pos hj'] at this;exact this
    have:=g.apart hi e2 hx hx';omega
theorem KG.npk(g:KG ks)(hi:ks[i]?=some (y,s))(a b:Str)(h:Y8 a b s=true):VF (ks.take i) a b=none:=by
 have is:∀ {s':Shp},Y8 a b s'=true->s'= .pair a b:=fun {s'} h=>by
  cases s' with
  | tags ts=>cases h
  | pair c e=>
   unfold Y8 at h;rw [O4] at h;rw [of_decide_eq_true h.1,of_decide_eq_true h.2]
 unfold VF
 cases e:(ks.take i).find? fun k=>Y8 a b k.2 with
 | none=>rfl
 | some k=>
  have m:=List.mem_of_find?_eq_some e;have q:=List.find?_some e;obtain ⟨z,s'⟩:=k;have e1:=is h;have e3:s'= .pair a b:=is q;subst e1 e3;obtain ⟨j,hj,ej⟩:=List.mem_iff_getElem.mp m;have hj':j < i:=by rw [Ou] at hj;omega
  have e2:ks[j]?=some (z, .pair a b):=by
   have:=Oi hj;rw [ej,List.getElem?_take,if_pos hj'] at this;exact this
  have:=g.pr i j y z a b hi e2;omega
end L2
namespace K4
open PySem L2
section
variable{f g C gt:Addr}
def Xw(C N:Addr):Sp:=fun vs H _ E=> ∃ (A:KA6) (S:KC) (y:Str) (v:V) (ks:List (Str × Shp)) (d:Str->Nat),vs= [.ref A.t, .str y,v]/\KD H C A S/\KR H S ks d/\y∈ks.map (·.1)/\(1<=y.length/\y.length<=8/\∀ c∈y.cps.toList,97<=c/\c < 97 + 26)/\∀ H',Same H H'->E (.ref N) none H'
theorem Nn(T:KCl K C)(hN:mg "NoKinds" =some (.ref N))(cN:IsX K N)(F:Fun K "take" "Kinds.take" Gn f fd)(GN:ZQ P w K mg base CX0 n gn nd' ["text"] (UC 97))(bN:Binds K nd' ["text"] [])(kN:W.keepIn K (.ref gn)=true)(mN:mg "is_name" =some (.ref gn)):
  ZQ P w K mg base (CX1 P w) (n + 1) f fd ["self","name","shape"] (Xw C N):=by
 refine F.oqX Mo fun cdv A outer s H vs Q E hr h=>?_;obtain ⟨A',S,y,v,ks,d,rfl,kd,kr,my,⟨y1,y8,yc⟩,q⟩:=h;have hu:=Y3 hr;refine ⟨_,ZA (Zg (Yz (Yi (Zy GN hr rfl mN kN bN .nil YM (pa1 (pv 1))))) (ZF Y2) ZO)
  (ZA (Zg (Vp (Ut hu (pv 1) (Z6 (pv 0) rfl))) (ZF (Wi JY rfl rfl rfl hN cN (.cons ZY (Fj _) (.cons (Kf (pv 1)) (Kv (Kt _)) .nil)))) ZO) Wh),?_⟩
 refine ⟨y,rfl,y1,y8,yc,fun H1 s1=>⟨_,rfl,?_⟩⟩;refine Zs (by simp) ?_;have kd1:=kd.mono s1
 obtain ⟨v0,e0⟩:∃ v0,Zl S.sh (Sum.inr y)=some v0:=by
  cases z:Zl S.sh (Sum.inr y) with
  | some v0=>exact ⟨v0,rfl⟩
  | none=>
   refine absurd ?_ (UM z);rw [kr.ke];obtain ⟨k,hk,e⟩:=O1.mp my;exact O1.mpr ⟨k,hk,by rw [e]⟩
 have gn:YD H1 A'.sh (.str y) (some v0):=by rw [<-e0];exact YD.k (k:=Sum.inr y) kd1.sh
 refine ⟨C,_,_,_,kd1.ins,T.cl,T.sh,MS _,_,gn,_,rfl,?_⟩;refine Z7 (by simp) ?_;exact ⟨_,rfl,by decide,y,rfl,O6 y8 (by decide),y,rfl,O6 y8 (by decide),q H1 s1⟩
def Re(C N:Addr):Sp:=fun vs H Q E=> ∃ (x dx l:Addr) (xs:List V) (ks es:List (Str × Shp)) (c d:Str->Nat),vs= [.ref x, .ref l]/\H x=some (.ins C dx [])/\H l=some (.lst xs)/\HasL H xs ((ks++ es).map Yf)/\KK 30 c d ks/\(ks.map (·.1)).Nodup/\KG ks/\0 < ks.length/\ks.length<=6/\es.length<=1/\(∀ e∈es,e∈ks)/\
 (es= []->∀ H',(∀ b o,b≠x->H b=some o->H' b=some o)->KI H' C x ks d->Q .non H')/\
 (es≠ []->∀ H',(∀ b o,b≠x->H b=some o->H' b=some o)->E (.ref N) none H')
theorem Ir(A:KA6):(XR A).lookup ("take" :Str)=none:=rfl
theorem Rj:Za ["self","told","name","shape"] ["self","told"] (ZJ Mt):=Zu
theorem Fa(B:Blt mg)(T:KCl K C)(hN:mg "NoKinds" =some (.ref N))(cN:IsX K N)(F:Fun K "__init__" "Kinds.__init__" Mt f fd)(hM:mg "MOST_KINDS" =some u)(rM:RelV (.int 6) u)(GT:ZQ P w K mg base (CX1 P w) n gt td ["self","name","shape"] (fun vs H Q E=>GO C vs H Q E \/ Xw C N vs H Q E))(bT:Binds K td ["self","name","shape"] [])(mT:XB K C "take" gt):
  ZQ P w K mg base (CX1 P w) (n + 1) f fd ["self","told"] (Re C N):=by
 refine F.oqX Rj fun cdv A outer s H vs Q E hr h=>?_;obtain ⟨x,dx,l,xs,ks,es,c,d,rfl,hx,hl,hxs,kk,nd,kg,k0,k6,e1,em,q,qe⟩:=h;have ps:JE (CX1 P w) (Yo (CX1 P w) P w K mg base ["self","told","name","shape"] "Kinds.__init__" (ZJ Mt) f cdv A outer s H E) E:=JY.passes rfl;refine ⟨_,ZA (Zg (Yz (Tt UV UV ZD (ZU ZP rfl B.len PySem.boot_len (pa1 (pv 1))) (Yx rfl hM rM))) (ZF (Wi JY rfl rfl rfl hN cN (.cons ZY (Fj _) (.cons (Mx (Yx rfl hM rM)) (M5 (Fj _)) (.cons ZY (Fj _) (.cons (Mx (ZU ZP rfl B.len PySem.boot_len (pa1 (pv 1)))) (M5 Ku) .nil)))))) ZO)
  (ZA (V8 (pv 0) Yn rfl) (ZA (V8 (pv 0) Yn rfl) (ZA (V8 (pv 0) Yn rfl) (ZA (V8 (pv 0) Yn rfl) (ZA (V8 (pv 0) Yn rfl) (ZA (V8 (pv 0) B3 rfl)
  (ZF (Yb PassesOwn.leaving rfl (Yk (pv 1)) (Yr (n:=2) rfl (Zf (ZL 2 Rj.nd) (Zf (ZL 3 Rj.nd) YX)))
   (ZF (Ye (JU (pv 0) T.cl mT GT hr bT .nil ps (pa2 (pv 2) (pv 3))))))))))))),?_⟩
 show let a:=_;let b:=Vg _ _ a;let c:=ZK _ b;let d:=ZK _ c;let e:=ZK _ d;let f:=ZK _ e;let g:=ZK _ f;let h:=ZK _ g;let i:=_;ZK (Zv _ i _) h _ _ _
 intros
 have lx:=hxs.length;rw [Oh,Os] at lx;refine ⟨l,_,rfl, .inl (SqL.of hl),_,rfl,?_⟩;refine Z7 (by simp;omega) ?_;refine ⟨_,rfl,?_⟩
 by_cases l7:xs.length=7
 .refine Z7 (by simp;omega) ?_
  have ne:es≠ []:=fun z=>by rw [z] at lx;simp at lx;omega
  exact ⟨_,rfl,by decide,6,rfl,by decide,fun y hy=>⟨y,rfl,hy,_,rfl,by decide,l,xs,rfl, .inl (SqL.of hl),xs.length,rfl,by omega,fun y hy=>⟨y,rfl,hy,qe ne H fun _ _ _ h=>h⟩⟩⟩
 refine Zs (by simp;omega) ?_;intro p1 hp1;refine ⟨x,C,dx,_,rfl,by rw [ZE (ZG hx hp1)];exact hx,T.cl,T.sh,by decide,?_⟩;obtain ⟨x1,a1,n1,r1⟩:=VI (f:="shapes") (o:= .dK []) hx hp1;generalize upd (upd H p1 (.dK [])) x (.ins C dx (Zz "shapes" (.ref p1) []))=H1 at x1 a1 r1 |-;intro p2 hp2;refine ⟨x,C,dx,_,rfl,by rw [ZE (ZG x1 hp2)];exact x1,T.cl,T.wo,(by show 1 < 1000;decide),?_⟩;obtain ⟨x2,a2,n2,r2⟩:=VI (f:="worths") (o:= .dK []) x1 hp2;generalize upd (upd H1 p2 (.dK [])) x (.ins C dx (Zz "worths" (.ref p2) (Zz "shapes" (.ref p1) [])))=H2 at x2 a2 r2 |-;intro p3 hp3;refine ⟨x,C,dx,_,rfl,by rw [ZE (ZG x2 hp3)];exact x2,T.cl,T.he,(by show 2 < 1000;decide),?_⟩;obtain ⟨x3,a3,n3,r3⟩:=VI (f:="heights") (o:= .dK []) x2 hp3;generalize upd (upd H2 p3 (.dK [])) x (.ins C dx (Zz "heights" (.ref p3) (Zz "worths" (.ref p2) (Zz "shapes" (.ref p1) []))))=H3 at x3 a3 r3 |-;intro p4 hp4;refine ⟨x,C,dx,_,rfl,by rw [ZE (ZG x3 hp4)];exact x3,T.cl,T.pd,(by show 3 < 1000;decide),?_⟩;obtain ⟨x4,a4,n4,r4⟩:=VI (f:="pairs_deep") (o:= .dK []) x3 hp4;generalize upd (upd H3 p4 (.dK [])) x (.ins C dx (Zz "pairs_deep" (.ref p4) (Zz "heights" (.ref p3) (Zz "worths" (.ref p2) (Zz "shapes" (.ref p1) [])))))=H4 at x4 a4 r4 |-;intro p5 hp5;refine ⟨x,C,dx,_,rfl,by rw [ZE (ZG x4 hp5)];exact x4,T.cl,T.tk,(by show 4 < 1000;decide),?_⟩;obtain ⟨x5,a5,n5,r5⟩:=VI (f:="tag_kinds") (o:= .dK []) x4 hp5;generalize upd (upd H4 p5 (.dK [])) x (.ins C dx (Zz "tag_kinds" (.ref p5) (Zz "pairs_deep" (.ref p4) (Zz "heights" (.ref p3) (Zz "worths" (.ref p2) (Zz "shapes" (.ref p1) []))))))=H5 at x5 a5 r5 |-;intro p6 hp6;refine ⟨x,C,dx,_,rfl,by rw [ZE (ZG x5 hp6)];exact x5,T.cl,T.pk,(by show 5 < 1000;decide),?_⟩;obtain ⟨x6,a6,n6,r6⟩:=VI (f:="pair_kinds") (o:= .dT []) x5 hp6;generalize upd (upd H5 p6 (.dT [])) x (.ins C dx (Zz "pair_kinds" (.ref p6) (Zz "tag_kinds" (.ref p5) (Zz "pairs_deep" (.ref p4) (Zz "heights" (.ref p3) (Zz "worths" (.ref p2) (Zz "shapes" (.ref p1) [])))))))=H6 at x6 a6 r6 |-
 let A':KA6:=⟨x,dx,p1,p2,p3,p4,p5,p6⟩
 have frame:∀ b o,b≠x->H b=some o->H6 b=some o:=fun b o hb h=>r6 b o hb (r5 b o hb (r4 b o hb (r3 b o hb (r2 b o hb (r1 b o hb h)))));have c12:=r2 _ _ n1 a1;have c13:=r3 _ _ n1 c12;have c14:=r4 _ _ n1 c13;have c15:=r5 _ _ n1 c14;have c16:=r6 _ _ n1 c15;have c23:=r3 _ _ n2 a2;have c24:=r4 _ _ n2 c23;have c25:=r5 _ _ n2 c24;have c26:=r6 _ _ n2 c25;have c34:=r4 _ _ n3 a3;have c35:=r5 _ _ n3 c34;have c36:=r6 _ _ n3 c35;have c45:=r5 _ _ n4 a4;have c46:=r6 _ _ n4 c45;have c56:=r6 _ _ n5 a5
 have ndA:A'.ds.Nodup:=by
  have e12:=ZG a1 hp2;have e13:=ZG c12 hp3;have e14:=ZG c13 hp4;have e15:=ZG c14 hp5;have e16:=ZG c15 hp6;have e23:=ZG a2 hp3;have e24:=ZG c23 hp4;have e25:=ZG c24 hp5;have e26:=ZG c25 hp6;have e34:=ZG a3 hp4;have e35:=ZG c34 hp5;have e36:=ZG c35 hp6;have e45:=ZG a4 hp5;have e46:=ZG c45 hp6;have e56:=ZG a5 hp6;simp [KA6.ds,A',e12,e13,e14,e15,e16,e23,e24,e25,e26,e34,e35,e36,e45,e46,e56]
 have kd:KD H6 C A' ⟨[], [], [], [], [], []⟩:=⟨x6,c16,c26,c36,c46,c56,a6,ndA⟩
 have new:∀ b,b∈A'.ds->H b=none:=fun b hb=>by
  cases e:H b with
  | none=>rfl
  | some o=>
   simp only [KA6.ds,A',O8,List.not_mem_nil,or_false] at hb;rcases hb with z | z | z | z | z | z
   .subst z;rw [hp1] at e;cases e
   .subst z;rw [r1 _ _ n2 e] at hp2;cases hp2
   .subst z;rw [r2 _ _ n3 (r1 _ _ n3 e)] at hp3;cases hp3
   .subst z;rw [r3 _ _ n4 (r2 _ _ n4 (r1 _ _ n4 e))] at hp4;cases hp4
   .subst z;rw [r4 _ _ n5 (r3 _ _ n5 (r2 _ _ n5 (r1 _ _ n5 e)))] at hp5;cases hp5
   .subst z;rw [r5 _ _ n6 (r4 _ _ n6 (r3 _ _ n6 (r2 _ _ n6 (r1 _ _ n6 e))))] at hp6;cases hp6
 have lnx:l≠x:=YY hl hx (by intro z;cases z);have hl6:=frame _ _ lnx hl;have tl06:TL H H6:=⟨fun b ys h=>frame _ _ (YY h hx (by intro z;cases z)) h,fun b ys h=>frame _ _ (YY h hx (by intro z;cases z)) h⟩;have hx6:=HasL.tl tl06 _ hxs;refine ⟨⟨_,SqL.of hl6⟩,?_⟩
 let I:Nat->St->Hp->Prop:=fun i U H'=>i<=ks.length/\∃ S z1 z2,KFr A' H6 H'/\KD H' C A' S/\KR H' S (ks.take i) d/\U= [some (.ref x),some (.ref l),z1,z2]
 refine J3 (xs:=xs) I ⟨O7 _,_,_,_,KFr.refl _ _,kd,?_,rfl⟩ ?_ ?_ ?_
 .rw [List.take_zero]
  exact ⟨rfl,fun y s e=>by simp [Yw] at e,fun y hy=>by simp at hy,fun y hy=>by simp at hy,fun y hy=>by simp at hy,fun y=>rfl,fun a b=>rfl,by decide⟩
 .rintro i U H' _ ⟨_,S,z1,z2,fr,kd',kr',rfl⟩
  exact SqL.of ((fr.tl kd).2 _ _ hl6)
 .rintro BB RR i v U H' hv ⟨ik,S,z1,z2,fr,kd',kr',rfl⟩
  have ilt:=(Ol.mp hv).1;obtain ⟨dv,hdv,hhv⟩:=hx6.get hv;rw [On] at hdv
  cases hk:ks[i]? with
  | none=>
   have ie:i=ks.length:=Nat.le_antisymm ik (List.getElem?_eq_none_iff.mp hk)
   cases hj:(ks++ es)[i]? with
   | none=>rw [hj] at hdv;cases hdv
   | some ys=>
    rw [hj] at hdv;cases hdv;obtain ⟨y,sh⟩:=ys
    have me:(y,sh)∈es:=by
     rw [List.getElem?_append_right (by omega)] at hj;exact Oo hj
    have tl6:=fr.tl kd;obtain ⟨a,v2,rfl,ha,hv2⟩:=Vy (Has.tl tl6 _ hhv);have my:y∈ks.map (·.1):=O1.mpr ⟨_,em _ me,rfl⟩;rw [PD (by omega)] at kr';refine ⟨_,SqT.of ha,rfl,?_⟩;refine ⟨_,_,kd'.ins,Ir A', .inr ⟨A',S,y,v2,ks,d,rfl,kd',kr',my,⟨(kg.nm.len y my).1,(kg.nm.len y my).2,kg.nm.abc y my⟩,fun H2 s2=>qe (fun z=>by rw [z] at me;cases me) H2 fun b o hb h=>s2 _ _ (fr b o (fun hm=>?_) (frame b o hb h))⟩⟩;rw [new b hm] at h;cases h
  | some ys=>
   rw [List.getElem?_append_left (Ol.mp hk).1,hk] at hdv;cases hdv;obtain ⟨y,sh⟩:=ys;have tl6:=fr.tl kd;obtain ⟨a,v2,rfl,ha,hv2⟩:=Vy (Has.tl tl6 _ hhv);have my:y∈ks.map (·.1):=O1.mpr ⟨_,Oo hk,rfl⟩
   have ny:y ∉ (ks.take i).map (·.1):=fun hm=>by
    have q':((ks.take i++ [(y,sh)]).map (·.1)).Nodup:=by rw [<-take_snoc hk];exact nd.sublist ((List.take_sublist _ _).map _)
    rw [Oq] at q';exact (List.nodup_append.mp q').2.2 y hm y (by simp) rfl
   refine ⟨_,SqT.of ha,rfl,?_⟩;refine ⟨_,_,kd'.ins,Ir A', .inl ⟨A',S,y,v2,sh,ks.take i,c,d,rfl,kd',kr',kk.take i,kk i y sh hk,ny,⟨(kg.nm.len y my).1,(kg.nm.len y my).2,kg.nm.abc y my⟩,fun ts e=>?_,kg.ntk hk,kg.npk hk,hv2,by rw [Ou];omega,fun H2 S2 f2 kd2 kr2=>?_⟩⟩
   .subst e
    exact kg.tags (Oo hk)
   .rw [<-take_snoc hk] at kr2
    exact ⟨(Ol.mp hk).1,S2,_,_,fr.trans f2,kd2,kr2,rfl⟩
 .rintro U H' ⟨ik,S,z1,z2,fr,kd',kr',rfl⟩
  have en:es= []:=List.eq_nil_of_length_eq_zero (by omega);rw [PD (by omega)] at kr';refine q en H' (fun b o hb h=>fr b o (fun hm=>?_) (frame b o hb h)) ⟨A',S,rfl,kd',kr'⟩;rw [new b hm] at h;cases h
end
end K4
namespace L2
open PySem
def Jg(ks:List (Str × Shp))(ps:List (Str × Str)):List (List W):=ps.foldl (fun rows p=>rows.flatMap fun r=>(Zb ks 3 p.2).map fun u=>r++ [u]) [[]]
def Ur(r:List W):Dat:= .tup (r.map W.dat)
theorem R3(ks:List (Str × Shp))(ps:List (Str × Str))(p:Str × Str):Jg ks (ps++ [p])=(Jg ks ps).flatMap fun r=>(Zb ks 3 p.2).map fun u=>r++ [u]:=by
 unfold Jg;rw [List.foldl_append]
 rfl
theorem Ws{α β:Type}(f:α->List β)(k:Nat):∀ l:List α,(∀ a∈l,(f a).length=k)->(l.flatMap f).length=l.length * k
 | [],_=>by simp
 | a::l,h=>by
  rw [List.flatMap_cons,Os,h a O5,Ws f k l (fun b hb=>h b (Ot _ hb)),PB,Nat.succ_mul,Nat.add_comm]
theorem Vm(c:Str->Nat):∀ (ps:List (Str × Str)) (n:Nat),ps.foldl (fun r p=>r * c p.2) n=n * Zx c ps
 | [],n=>by unfold Zx;simp
 | p::ps,n=>by
  unfold Zx;rw [List.foldl_cons,List.foldl_cons,Vm c ps (n * c p.2),Vm c ps (1 * c p.2),Nat.one_mul,Nat.mul_assoc]
theorem UG(h:∀ p∈ps,0 < c p.2)(i:Nat):Zx c (ps.take i)<=Zx c ps/\0 < Zx c ps:=by
 have pos:∀ qs:List (Str × Str),(∀ p∈qs,0 < c p.2)->0 < Zx c qs:=fun qs=>by
  induction qs with
  | nil=>intro _;exact Nat.one_pos
  | cons q qs ih=>
   intro hq;unfold Zx;rw [List.foldl_cons,Vm,Nat.one_mul];exact Nat.mul_pos (hq q O5) (ih fun p hp=>hq p (Ot _ hp))
 refine ⟨?_,pos ps h⟩
 have e:Zx c ps=Zx c (ps.take i) * Zx c (ps.drop i):=by
  conv=>lhs;rw [<-List.take_append_drop i ps]
  unfold Zx;rw [List.foldl_append,Vm]
  rfl
 rw [e];exact Nat.le_mul_of_pos_right _ (pos _ fun p hp=>h p (List.mem_of_mem_drop hp))
theorem KK.c0(h:KK 30 c d ks)(hy:y∈ks.map (·.1)):(Zb ks 3 y).length=c y/\0 < c y:=by
 have s:=h.small hy;obtain ⟨a,b,_⟩:=Y9 h 3 y hy (by omega);exact ⟨a,b⟩
theorem Nd(h:KK 30 c d ks)(ps:List (Str × Str))(hp:∀ p∈ps,p.2∈ks.map (·.1)):(Jg ks ps).length=Zx c ps:=by
 have go:∀ (ps:List (Str × Str)) (rows:List (List W)),(∀ p∈ps,p.2∈ks.map (·.1))->(ps.foldl (fun rows p=>rows.flatMap fun r=>(Zb ks 3 p.2).map fun u=>r++ [u]) rows).length=ps.foldl (fun r p=>r * c p.2) rows.length:=fun ps=>by
  induction ps with
  | nil=>intro rows _;rfl
  | cons p ps ih=>
   intro rows hq;rw [List.foldl_cons,List.foldl_cons,ih _ fun q m=>hq q (Ot _ m),Ws _ (c p.2) rows fun a _=>by rw [Oh];exact (h.c0 (hq p O5)).1]
 exact go ps [[]] hp
theorem R4(ps:List (Str × Str)):∀ r∈Jg ks ps,r.length=ps.length:=by
 have go:∀ (ps:List (Str × Str)) (n:Nat) (rows:List (List W)),(∀ r∈rows,r.length=n)->∀ r∈ps.foldl (fun rows p=>rows.flatMap fun r=>(Zb ks 3 p.2).map fun u=>r++ [u]) rows,r.length=n + ps.length:=fun ps=>by
  induction ps with
  | nil=>intro n rows h r hr;exact h r hr
  | cons p ps ih=>
   intro n rows h r hr
   have:=ih (n + 1) _ (fun r hr=>by
    obtain ⟨r0,m0,m1⟩:=List.mem_flatMap.mp hr;obtain ⟨u,_,rfl⟩:=O1.mp m1;rw [Os,h r0 m0];rfl) r hr
   rw [this,PB];omega
 intro r hr;have:=go ps 0 [[]] (fun r hr=>by rw [Ox.mp hr];rfl) r hr;omega
theorem IN(hx:Has H x (Ur r))(hb:H b=some (.tup [wv]))(hw:Has H wv u.dat)(hr:r.length<=3)(q:∀ v H',Same H H'->Has H' v (Ur (r++ [u]))->Q v H'):
  Tr K x (.ref b) H Q \/ Tq K x (.ref b) H Q:=by
 unfold Ur at hx q;obtain ⟨a,xs,rfl,ha,hl⟩:=Yg hx;have ll:=hl.length;rw [Oh] at ll
 cases r with
 | nil=>
  obtain rfl:=VY hl;exact .inl ⟨a,b, [wv],rfl,rfl,SqT.of ha,SqT.of hb,q _ _ (Same.refl _) (Zk hb (HasL.one hw))⟩
 | cons y r=>
  refine .inr ⟨a,b,xs, [wv],rfl,rfl,SqT.of ha,SqT.of hb,(fun z=>by subst z;cases ll),PF (ZI (by simp only [List.length_singleton];omega)),(fun z=>nomatch z),fun _ p hp=>?_⟩;have s:=ZH hp (.tup (xs++ [wv]));refine q _ _ s (Zk ZC ?_);rw [Oq];exact HasL.append (hl.mono s) (HasL.one (hw.mono s))
theorem UH{ps:List (Str × Str)}{i:Nat}(h:HasL H xs (ps.map fun p=> .tup [.str p.1, .str p.2]))(hx:xs[i]?=some x):∃ p t,ps[i]?=some p/\x= .ref t/\H t=some (.tup [.str p.1, .str p.2]):=by
 obtain ⟨d,h1,h2⟩:=h.get hx;rw [On] at h1
 cases e:ps[i]? with
 | none=>rw [e] at h1;cases h1
 | some p=>
  rw [e] at h1;cases h1;obtain ⟨t,rfl,ht⟩:=UZ h2;exact ⟨p,t,rfl,rfl,ht⟩
end L2
namespace K4
open PySem L2
section
variable{f g C CK:Addr}
def XO(ks:List (Str × Shp))(ps:List (Str × Str)):Prop:=ps.length<=3/\∀ i p,ps[i]?=some p->Ym 97 p.1=true/\p.1 ∉ (ps.take i).map (·.1)/\p.2∈ks.map (·.1)
theorem XO.kin(h:XO ks ps):∀ p∈ps,p.2∈ks.map (·.1):=fun p hp=>by
 obtain ⟨i,hi⟩:=List.mem_iff_getElem?.mp hp;exact (h.2 i p hi).2.2
def Ga(CK:Addr):Sp:=fun vs H Q _=> ∃ (so:Addr) (ks:List (Str × Shp)) (d:Str->Nat) (ps:List (Str × Str)) (v:V),vs= [.ref so,v]/\KI H CK so ks d/\ks.length<=6/\Has H v (psD ps)/\ps.length<=5/\(∀ p∈ps,p.1.length<=20)/\
 (XO ks ps->∀ H',Same H H'->Q (.bl true) H')/\(¬ XO ks ps->∀ H',Same H H'->Q (.bl false) H')
theorem Xf:Za ["kinds","parameters","seen","name","kind"] ["kinds","parameters"] (ZJ R0):=Zu
theorem Dn(B:Blt mg)(TC:KCl K CK)(F:Fun K "are_parameters" "are_parameters" R0 f fd)(hM:mg "MOST_PARAMETERS" =some u)(rM:RelV (.int 3) u)(DN:Df P w K mg base n "is_name" ["text"] Jk)(m2:XB K CK "names" g)(G2:ZQ P w K mg base CX0 n g gd ["self"] (Xb CK))(b2:Binds K gd ["self"] []):ZQ P w K mg base CX0 (n + 1) f fd ["kinds","parameters"] (Ga CK):=by
 refine F.oq Xf fun cdv A outer s H vs Q E hr h=>?_;obtain ⟨so,ks,d,ps,v,rfl,ki,k6,hv,l5,l20,qt,qf⟩:=h;have hu:=Y3 hr;unfold psD at hv;obtain ⟨pa,xs,rfl,hpa,hxs⟩:=Yg hv;have lx:=hxs.length;rw [Oh] at lx;refine ⟨_,ZA (Zg (ZN Vt (ZU ZP rfl B.len PySem.boot_len (pa1 (pv 1))) (Yx rfl hM rM) (ZW _)) (ZF (ZV Vr)) ZO)
  (ZA (ZM 2 Xf.nd Yn)
  (ZA (Yb PassesOwn.never rfl (JA (pv 1)) (Yr (n:=2) rfl (Zf (ZL 3 Xf.nd) (Zf (ZL 4 Xf.nd) YX)))
   (ZA (Zg (PW.pt (VX (Yz (Yi (ZZ DN hr (pa1 (pv 3))))) (VX (Vp (Ut hu (pv 3) (pv 2))) (VM (ZN Gz (pv 4) (Tv (pv 0) TC.cl m2 G2 hr b2 .nil YM) rfl))))) (ZF (ZV Vr)) ZO)
   (ZF (YF hu (pv 2) (pv 3) Vr rfl))))
  (ZF (ZV Vr)))),?_⟩
 dsimp only [Yo,Cx.nox,Cx.wish];show let a:=_;let b:=_;let c:=_;let d:=ZK (Zv _ c _) b;let e:=ZK (Vg _ _ d) a;let f:=ZK _ e;let g:=_;ZK (Zv _ g _) f _ _ _
 intros
 refine ⟨pa,_,rfl, .inr (SqT.of hpa),_,rfl,?_⟩
 by_cases l3:ps.length<=3
 case neg=>exact Z7 (by simp;omega) (qf (fun z=>l3 z.1) H (Same.refl _))
 refine Zs (by simp;omega) ?_;intro sd hsd;refine up_in hsd _ fun H1 s1 g1=>?_;refine ⟨⟨_,SqT.of (s1 _ _ hpa)⟩,?_⟩
 let I:Nat->St->Hp->Prop:=fun i U Hi=>Same H Hi/\(∀ j p,j < i->ps[j]?=some p->Ym 97 p.1=true/\p.1 ∉ (ps.take j).map (·.1)/\p.2∈ks.map (·.1))/\∃ kv z3 z4,Hi sd=some (.dK kv)/\kv.map (·.1)=(ps.take i).map (fun p=>(Sum.inr p.1:Key))/\U= [some (.ref so),some (.ref pa),some (.ref sd),z3,z4]
 refine ND (xs:=xs) I ⟨s1,fun j p hj=>absurd hj (Nat.not_lt_zero _), [],_,_,g1,rfl,rfl⟩ (fun i U Hi _ z=>SqT.of (z.1 _ _ hpa)) ?_ ?_
 .rintro i x U Hi hx ⟨si,good,kv,z3,z4,hk,ek,rfl⟩
  obtain ⟨p,t,hp,rfl,ht⟩:=UH hxs hx;have hpm:=Oo hp;refine ⟨_,SqT.of (si _ _ ht),rfl,?_⟩;refine ⟨p.1,rfl,l20 p hpm,fun H2 s2=>⟨_,rfl,?_⟩⟩
  cases hw:Ym 97 p.1 with
  | false=>exact Z7 (by simp) (qf (fun z=>by rw [(z.2 i p hp).1] at hw;cases hw) H2 (si.trans s2))
  | true=>
  refine Zs (by simp) ?_;refine ⟨_,YD.k (k:=Sum.inr p.1) (s2 _ _ hk),_,rfl,?_⟩
  by_cases nk:Zl kv (Sum.inr p.1)=none
  case neg=>
   refine Z7 (by rw [Option.isSome_iff_ne_none.mpr nk]) (qf (fun z=>(z.2 i p hp).2.1 ?_) H2 (si.trans s2));have m:(Sum.inr p.1:Key)∈kv.map (·.1):=Classical.not_not.mp fun z=>nk (UN z);rw [ek] at m;obtain ⟨q1,hq1,e1⟩:=O1.mp m;exact O1.mpr ⟨q1,hq1,Sum.inr.inj e1⟩
  have nt:p.1 ∉ (ps.take i).map (·.1):=fun z=>by
   refine UM nk ?_;rw [ek];obtain ⟨q1,hq1,e1⟩:=O1.mp z;exact O1.mpr ⟨q1,hq1,by rw [e1]⟩
  refine Zs (by rw [nk];simp) ?_;have ki2:=ki.mono (si.trans s2);obtain ⟨AK,SK,e1,kd,kr⟩:=id ki2;refine ⟨_,_,by rw [<-e1];exact kd.ins,rfl,so,ks,d,rfl,ki2,fun l H3 s3 hl g3=>?_⟩;have el:(ks.map fun k=>V.str k.1)=(ks.map (·.1)).map V.str:=by rw [List.map_map];rfl
  rw [el] at g3;refine ⟨l,_,rfl, .inl (SqL.of g3),rfl,J0 _,_,rfl,?_⟩;rw [UX]
  by_cases pk:p.2∈ks.map (·.1)
  case neg=>exact Z7 (by simp [pk]) (qf (fun z=>pk (z.2 i p hp).2.2) H3 ((si.trans s2).trans s3))
  refine Zs (by simp [pk]) ?_
  have lk:kv.length<=3:=by
   have:=congrArg List.length ek;rw [Oh,Oh,Ou] at this;omega
  refine ⟨_,VJ.k (k:=Sum.inr p.1) (s3 _ _ (s2 _ _ hk)) (ZI (by omega)),?_⟩;refine ⟨((si.trans s2).trans s3).putN hsd,fun j p' hj hp'=>?_,_,_,_,ZC,?_,rfl⟩
  .by_cases e:j=i
   .rw [e,hp] at hp';cases hp';rw [e];exact ⟨hw,nt,pk⟩
   .exact good j p' (by omega) hp'
  .rw [Jn _ nk,Oq,ek,take_snoc hp,Oq]
   rfl
 .rintro U Hi ⟨si,good,_⟩
  exact qt ⟨l3,fun i p hp=>good i p (by rw [lx];exact (Ol.mp hp).1) hp⟩ Hi si
def UF(CK:Addr):Sp:=fun vs H Q _=> ∃ (so:Addr) (ks:List (Str × Shp)) (c d:Str->Nat) (ps:List (Str × Str)) (v:V),vs= [.ref so,v]/\KI H CK so ks d/\KK 30 c d ks/\Has H v (psD ps)/\(∀ p∈ps,p.2∈ks.map (·.1))/\Zx c ps<=30000/\
 ∀ H',Same H H'->Q (.int (Zx c ps:Nat)) H'
theorem Vk:Za ["kinds","parameters","count","name","kind"] ["kinds","parameters"] (ZJ Uq):=Zu
theorem T4(B:Blt mg)(TC:KCl K CK)(F:Fun K "row_count" "row_count" Uq f fd)(m2:XB K CK "worths_of" g)(G2:ZQ P w K mg base CX0 n g gd ["self","kind"] (Vh CK))(b2:Binds K gd ["self","kind"] []):ZQ P w K mg base CX0 (n + 1) f fd ["kinds","parameters"] (UF CK):=by
 refine F.oq Vk fun cdv A outer s H vs Q E hr h=>?_;obtain ⟨so,ks,c,d,ps,v,rfl,ki,kk,hv,pk,top,q⟩:=h;unfold psD at hv;obtain ⟨pa,xs,rfl,hpa,hxs⟩:=Yg hv;have lx:=hxs.length;rw [Oh] at lx;refine ⟨_,ZA (ZM 2 Vk.nd ZD)
  (ZA (Yb PassesOwn.never rfl (JA (pv 1)) (Yr (n:=2) rfl (Zf (ZL 3 Vk.nd) (Zf (ZL 4 Vk.nd) YX)))
   (ZF (Bz (i:=2) Vk.nd rfl (Or.inl rfl) (ZU ZP rfl B.len PySem.boot_len (pa1 (JU (pv 0) TC.cl m2 G2 hr b2 .nil YM (pa1 (pv 4))))) Fl)))
  (ZF (ZV (pv 2)))),?_⟩
 dsimp only [Yo,Cx.nox,Cx.wish];show let a:=_;let b:=_;let c:=ZK (Vg _ _ b) a;ZK _ c _ _ _
 intros
 refine RO ?_;refine ⟨⟨_,SqT.of hpa⟩,?_⟩
 let I:Nat->St->Hp->Prop:=fun i U Hi=>Same H Hi/\∃ z3 z4,U= [some (.ref so),some (.ref pa),some (.int (Zx c (ps.take i):Nat)),z3,z4]
 refine Uy (xs:=xs) I ⟨Same.refl _,_,_,rfl⟩ (fun i U Hi _ z=>SqT.of (z.1 _ _ hpa)) ?_ ?_
 .rintro BB RR i x U Hi hx ⟨si,z3,z4,rfl⟩
  obtain ⟨p,t,hp,rfl,ht⟩:=UH hxs hx;have hk:=pk p (Oo hp);refine ⟨_,SqT.of (si _ _ ht),rfl,?_⟩;have ki2:=ki.mono si;obtain ⟨AK,SK,e1,kd,kr⟩:=id ki2;refine ⟨_,rfl,_,_,by rw [<-e1];exact kd.ins,rfl,so,ks,d,p.2,rfl,ki2,hk,fun l ys H3 s3 hl g3 hy=>?_⟩;have ly:=hy.length;obtain ⟨c1,c2⟩:=kk.c0 hk;rw [Oh,c1] at ly;have le:=(UG (c:=c) (ps:=ps) (fun p hp=>(kk.c0 (pk p hp)).2) i).1;refine ⟨l,_,rfl, .inl (SqL.of g3), .inl ⟨by omega,by omega⟩,?_⟩;have e:((Zx c (ps.take i):Nat):Int) * ((ys.length:Nat):Int)=((Zx c (ps.take (i + 1)):Nat):Int):=by rw [take_snoc hp,JT,ly,Int.natCast_mul]
  exact ⟨si.trans s3,some (.str p.1),some (.str p.2),by rw [<-e];rfl⟩
 .rintro U Hi ⟨si,z3,z4,rfl⟩
  rw [PD (by omega)];exact q Hi si
def UE(CK:Addr):Sp:=fun vs H Q _=> ∃ (so:Addr) (ks:List (Str × Shp)) (c d:Str->Nat) (ps:List (Str × Str)) (v:V),vs= [.ref so,v]/\KI H CK so ks d/\KK 30 c d ks/\Has H v (psD ps)/\(∀ p∈ps,p.2∈ks.map (·.1))/\ps.length<=3/\Zx c ps<=1000/\
 ∀ l xs H',Same H H'->H l=none->H' l=some (.lst xs)->HasL H' xs ((Jg ks ps).map Ur)->Q (.ref l) H'
theorem Vj:Za ["kinds","parameters","rows","name","kind"] ["kinds","parameters"] (ZJ Up):=Zu
theorem Ik:List.Nodup [("row" :Str),"worth","kinds","kind"]:=by decide +kernel
theorem T3(B:Blt mg)(TC:KCl K CK)(F:Fun K "rows_over" "rows_over" Up f fd)(m2:XB K CK "worths_of" g)(G2:ZQ P w K mg base CX0 n g gd ["self","kind"] (Vh CK))(b2:Binds K gd ["self","kind"] []):ZQ P w K mg base CX0 (n + 1) f fd ["kinds","parameters"] (UE CK):=by
 refine F.oq Vj fun cdv A outer s H vs Q E hr h=>?_;obtain ⟨so,ks,c,d,ps,v,rfl,ki,kk,hv,pk,l3,top,q⟩:=h;unfold psD at hv;obtain ⟨pa,xs,rfl,hpa,hxs⟩:=Yg hv;have lx:=hxs.length;rw [Oh] at lx;refine ⟨_,ZA (ZM 2 Vj.nd (Zp (pa1 (Zi YK))))
  (ZA (Yb PassesOwn.never rfl (JA (pv 1)) (Yr (n:=2) rfl (Zf (ZL 3 Vj.nd) (Zf (ZL 4 Vj.nd rfl (Or.inr rfl)) YX)))
   (ZF (E8 (i0:=2) (wi2:=Dz K (BU CK "worths_of" (Vh CK) [] E (UB 2) (YI (UB 3) Jj))) [0,4] Vj.nd rfl (Or.inl rfl) (Yk (pv 2))
    (fun cl C fp s H=>ZL 0 Ik rfl (Or.inl rfl) (Or.inr rfl)) (fun cl C fp s H=>Yk (JU (pv 2) TC.cl m2 G2 hr b2 .nil YM (pa1 (pv 3)))) (fun cl C fp s H=>ZL 1 Ik rfl (Or.inl rfl) (Or.inr rfl))
    (fun cl C fp s H=>ZX (r:=fun x y H Q=>Tr K x y H Q \/ Tq K x y H Q) G0 (pv 0) (Zi (pa1 (pv 1)))))))
  (ZF (ZV (pv 2)))),?_⟩
 dsimp only [Yo,Cx.nox,Cx.wish];show let a:=_;let b:=_;let c:=ZK (Vg _ _ b) a;ZK _ c _ _ _
 intros
 refine ⟨sl 0,fun t0 ht0=>⟨sl 1,fun l0 hl0=>?_⟩⟩;have s1:=ZH ht0 (.tup []);have g1:upd H t0 (.tup []) t0=some (.tup []):=ZC;generalize upd H t0 (.tup [])=H1 at s1 g1 hl0 |-;refine up_in hl0 _ fun H2 s2 g2=>?_;have s02:=s1.trans s2;refine ⟨⟨_,SqT.of (s02 _ _ hpa)⟩,?_⟩;refine Uy (xs:=xs) (fun i U Hi=>Same H Hi/\∃ l ys z3 z4,H l=none/\Hi l=some (.lst ys)/\HasL Hi ys ((Jg ks (ps.take i)).map Ur)/\U= [some (.ref so),some (.ref pa),some (.ref l),z3,z4]) ⟨s02,l0,_,_,_,s1.free hl0,g2,HasL.one (Zk (s2 _ _ g1) HasL.nil),rfl⟩ (fun i U Hi _ z=>SqT.of (z.1 _ _ hpa)) ?_ ?_
 .rintro BB RR i x U Hi hx ⟨si,l,ys,z3,z4,fl,hl,hy,rfl⟩
  obtain ⟨p,t,hp,rfl,ht⟩:=UH hxs hx;have hk:=pk p (Oo hp);obtain ⟨c1,c2⟩:=kk.c0 hk;have i3:=(Ol.mp hp).1;have lR:=Nd kk (ps.take i) fun p hp=>pk p (PK hp);have rl:=R4 (ks:=ks) (ps.take i);have le:=(UG (c:=c) (ps:=ps) (fun p hp=>(kk.c0 (pk p hp)).2) (i + 1)).1;have eR:Jg ks (ps.take (i + 1))=(Jg ks (ps.take i)).flatMap fun r=>(Zb ks 3 p.2).map fun u=>r++ [u]:=by rw [take_snoc hp,R3]
  rw [take_snoc hp,JT,<-lR,<-c1] at le;rw [eR];have ly:=hy.length;rw [Oh] at ly;rw [Ou] at rl;generalize Jg ks (ps.take i)=R at lR rl le hy ly |-;generalize hus:Zb ks 3 p.2=us at le |-;refine ⟨_,SqT.of (si _ _ ht),rfl,?_⟩;refine ⟨⟨ys,SqL.of hl⟩,?_⟩;refine WL ys.length (fun i' zs H'=>Same Hi H'/\zs.length=i' * us.length/\i'<=R.length/\HasL H' zs (((R.take i').flatMap fun r=>us.map fun u=>r++ [u]).map Ur)) ⟨Same.refl _,by simp,O7 _,by rw [List.take_zero];exact HasL.nil⟩
   (fun i' zs H' z=>ZI (by rw [z.2.1];have:i' * us.length<=R.length * us.length:=Nat.mul_le_mul_right _ z.2.2.1;omega)) ?_ ?_ ?_ ?_
  .intro i' zs H' hi z
   exact ⟨ys,ys[i'],SqL.of (z.1 _ _ hl),by simp [hi]⟩
  .intro zs H' z
   exact ⟨ys,SqL.of (z.1 _ _ hl),Om _⟩
  .intro i' zs H' x H'' RR' hi z yl hR
   obtain ⟨rfl,yy⟩:=yl;obtain ⟨dx,hdx,hhx⟩:=hy.get (yy ys (SqL.of (z.1 _ _ hl)));rw [On] at hdx
   cases hr1:R[i']? with
   | none=>rw [hr1] at hdx;cases hdx
   | some r=>
    rw [hr1] at hdx;cases hdx;have ri:=rl r (Oo hr1);have ki2:=ki.mono (si.trans z.1);obtain ⟨AK,SK,e1,kd,kr⟩:=id ki2;refine ⟨_,_,by rw [<-e1];exact kd.ins,rfl,so,ks,d,p.2,rfl,ki2,hk,fun lw xw H3 s3 hlw gw hw=>⟨⟨xw,SqL.of gw⟩,?_⟩⟩;rw [hus] at hw;have lw':=hw.length;rw [Oh] at lw';have hhx3:=(hhx.mono z.1).mono s3;refine RC xw.length (fun j ws H4=>Same H3 H4/\ws.length=i' * us.length + j/\j<=us.length/\HasL H4 ws (((R.take i').flatMap fun r=>us.map fun u=>r++ [u]).map Ur++ ((us.take j).map fun u=>r++ [u]).map Ur)) ⟨Same.refl _,by rw [z.2.1];rfl,O7 _,by rw [List.take_zero,List.map_nil,List.map_nil,List.append_nil];exact z.2.2.2.mono s3⟩
     (fun j ws H4 y3=>ZI (by
      rw [y3.2.1];have:(i' + 1) * us.length<=R.length * us.length:=Nat.mul_le_mul_right _ (by omega);rw [Nat.succ_mul] at this;have:=y3.2.2.1;omega)) ?_ ?_ ?_ ?_
    .intro j ws H4 hj y3
     exact ⟨xw,xw[j],SqL.of (y3.1 _ _ gw),by simp [hj]⟩
    .intro ws H4 y3
     exact ⟨xw,SqL.of (y3.1 _ _ gw),Om _⟩
    .intro j ws H4 x2 H5 T2 hj y3 yl2 hT
     obtain ⟨rfl,yy2⟩:=yl2;obtain ⟨dz,hdz,hhz⟩:=hw.get (yy2 xw (SqL.of (y3.1 _ _ gw)));rw [On] at hdz
     cases hv1:us[j]? with
     | none=>rw [hv1] at hdz;cases hdz
     | some v=>
      rw [hv1] at hdz;cases hdz;refine ⟨sl 1,fun b hb=>?_⟩;have sb:=ZH hb (.tup [x2]);have gb:upd H5 b (.tup [x2]) b=some (.tup [x2]):=ZC;refine IN ((hhx3.mono y3.1).mono sb) gb ((hhz.mono y3.1).mono sb) (by omega) fun v' H6 s6 h6=>hT _ _ ?_;have s46:=sb.trans s6;refine ⟨y3.1.trans s46,by rw [Os,y3.2.1];rfl,(Ol.mp hv1).1,?_⟩;rw [take_snoc hv1,Oq,Oq,<-List.append_assoc];exact HasL.append (y3.2.2.2.mono s46) (HasL.one h6)
    .intro ws H4 y3
     refine hR _ _ ⟨z.1.trans (s3.trans y3.1),by rw [y3.2.1,lw',Nat.succ_mul],(Ol.mp hr1).1,?_⟩;have y4:=y3.2.2.2;rw [show us.take xw.length=us from PD (by omega)] at y4;rw [take_snoc hr1,List.flatMap_append,Oq];simp only [List.flatMap_cons,List.flatMap_nil,List.append_nil];exact y4
  .intro zs H' p3 z hp3
   have s3:=ZH hp3 (.lst zs);have z4:=z.2.2.2;rw [PD (by omega)] at z4;exact ⟨si.trans (z.1.trans s3),p3,zs,_,_,(si.trans z.1).free hp3,ZC,z4.mono s3,rfl⟩
 .rintro U Hi ⟨si,l,ys,z3,z4,fl,hl,hy,rfl⟩
  rw [PD (by omega)] at hy;exact q l ys Hi si fl hl hy
end
end K4
namespace L2
open PySem
def JW(H:Hp)(x:Addr):Hp:=fun b=>if b=x then none else H b
structure BB(Hm H:Hp)(C CK:Addr)(A:BA)(ks:List (Str × Shp))(d:Str->Nat):Prop where
 ins:H A.t=some (.ins C A.dx (XM A))
 sm:Same Hm H
 so:KI Hm CK A.so ks d
 nd:Hm A.td=none
 nr:Hm A.rd=none
 ne:A.td≠A.rd
 n1:A.t≠A.td
 n2:A.t≠A.rd
theorem BB.same(b:BB Hm H C CK A ks d)(s:Same H H'):BB Hm H' C CK A ks d:=⟨s _ _ b.ins,b.sm.trans s,b.so,b.nd,b.nr,b.ne,b.n1,b.n2⟩
theorem BB.td(b:BB Hm H C CK A ks d)(o:HO):BB Hm (upd H A.td o) C CK A ks d:=⟨by rw [ZE b.n1];exact b.ins,b.sm.putN b.nd,b.so,b.nd,b.nr,b.ne,b.n1,b.n2⟩
theorem BB.rd(b:BB Hm H C CK A ks d)(o:HO):BB Hm (upd H A.rd o) C CK A ks d:=⟨by rw [ZE b.n2];exact b.ins,b.sm.putN b.nr,b.so,b.nd,b.nr,b.ne,b.n1,b.n2⟩
structure BT(H:Hp)(A:BA)(kv rv:List (Key × V))(ks:List (Str × Shp))(ds:List Dd):Prop where
 td:H A.td=some (.dK kv)
 rd:H A.rd=some (.dK rv)
 ke:kv.map (·.1)=ds.map (fun x=>(Sum.inr x.1.1:Key))
 va:HasL H (kv.map (·.2)) (ds.map Xq)
 ro:∀ x∈ds,∃ l xs,Zl rv (Sum.inr x.1.1)=some (.ref l)/\H l=some (.lst xs)/\HasL H xs ((Jg ks x.1.2.1).map Ur)
 ln:rv.length<=ds.length
theorem BT.same(b:BT H A kv rv ks ds)(s:Same H H'):BT H' A kv rv ks ds:=
 ⟨s _ _ b.td,s _ _ b.rd,b.ke,b.va.mono s,fun x hx=>let ⟨l,xs,h1,h2,h3⟩:=b.ro x hx;⟨l,xs,h1,s _ _ h2,h3.mono s⟩,b.ln⟩
theorem G6(e:TK H H'):∀ (u:W) {v:V},Has H v u.dat->Has H' v u.dat
 | .non,_,h=>by unfold W.dat Has at h |-;exact h
 | .tag _,_,h=>by unfold W.dat Has at h |-;exact h
 | .pair a b,_,h=>by
  obtain ⟨p,x1,x2,rfl,hp,h1,h2⟩:=D5 h;unfold W.dat Has;exact ⟨p,_,rfl,e _ _ hp,HasL.cons (G6 e a h1) (HasL.one (G6 e b h2))⟩
theorem G7{α:Type}{D:α->Dat}(e:∀ u {v:V},Has H v (D u)->Has H' v (D u)):∀ {us:List α}{xs:List V},HasL H xs (us.map D)->HasL H' xs (us.map D)
 | [], [],_=>HasL.nil
 | [],_::_,h=>by rw [List.map_nil] at h;unfold HasL at h;exact h.elim
 | _::_, [],h=>by rw [O0] at h;unfold HasL at h;exact h.elim
 | u::us,x::xs,h=>by
  rw [O0] at h |-;unfold HasL at h;exact HasL.cons (e u h.1) (G7 e h.2)
theorem NA(e:TK H H'){rs:List (List W)}(h:HasL H xs (rs.map Ur)):HasL H' xs (rs.map Ur):=G7 (fun u v hv=>by
 unfold Ur Has at hv |-;obtain ⟨a,ys,h1,h2,h3⟩:=hv;exact ⟨a,ys,h1,e _ _ h2,G7 (fun u {v}=>G6 e u) h3⟩) h
theorem Td(x:Dd):(Xq x).st=true:=by
 unfold Xq psD;simp [Dat.st,Dat.sts,VU,Bd.st]
theorem Tc:∀ ds:List Dd,Dat.sts (ds.map Xq)=true
 | []=>by unfold List.map Dat.sts;rfl
 | x::ds=>by rw [O0];unfold Dat.sts;rw [Tc ds,Td];rfl
theorem Ja(h:Has H v (VR x)):∃ a u w,v= .ref a/\H a=some (.tup [.str x.1.1,u, .str x.1.2.2,w])/\Has H u (psD x.1.2.1)/\Has H w x.2.dat:=by
 unfold VR at h;obtain ⟨t,ys,rfl,ht,hl⟩:=Yg h;obtain ⟨x1,r1,rfl,h1,hlA⟩:=Z0 hl;obtain ⟨x2,r2,rfl,h2,hlB⟩:=Z0 hlA;obtain ⟨x3,r3,rfl,h3,hlC⟩:=Z0 hlB;obtain ⟨x4,r4,rfl,h4,hlD⟩:=Z0 hlC;obtain rfl:=VY hlD;obtain rfl:=has_str h1;obtain rfl:=has_str h3;exact ⟨t,x2,x4,rfl,ht,h2,h4⟩
theorem OY(A:BA):(XM A).lookup ("is_head" :Str)=none:=rfl
theorem OX(A:BA):(XM A).lookup ("rows" :Str)=some (V.ref A.rd):=rfl
theorem Gx(hc:X.calm=true)(h1:PG X (.Name x1 p1) t1)(h2:PG X (.Name x2 p2) t2)(h3:PG X (.Name x3 p3) t3)(h4:PG X (.Name x4 p4) t4):
  PG X (.Tuple [.Name x1 p1, .Name x2 p2, .Name x3 p3, .Name x4 p4] k pos) (Fu X.K 4 (Jh t1 (Jh t2 (Jh t3 (Jh t4 RE))))):=
 Yr (n:=4) hc (Zf h1 (Zf h2 (Zf h3 (Zf h4 YX))))
theorem BT.put(b:BT H0 A kv rv ks ds)(ne:A.td≠A.rd)(nx:x.1.1 ∉ ds.map fun y=>y.1.1)(e2:H2=upd H0 A.td (.dK (putK kv (Sum.inr x.1.1) v)))(hv:Has H0 v (Xq x))(s:Same H2 Hb)(hl:Hb l=some (.lst xs))(hx:HasL Hb xs ((Jg ks x.1.2.1).map Ur))(e4:H4=upd Hb A.rd (.dK (putK rv (Sum.inr x.1.1) (.ref l)))):
  BT H4 A (putK kv (Sum.inr x.1.1) v) (putK rv (Sum.inr x.1.1) (.ref l)) ks (ds++ [x]):=by
 have nk:Zl kv (Sum.inr x.1.1)=none:=UN (by
  rw [b.ke];intro z;obtain ⟨q1,hq1,e1⟩:=O1.mp z;exact nx (O1.mpr ⟨q1,hq1,Sum.inr.inj e1⟩))
 have td2:H2 A.td=some (.dK (putK kv (Sum.inr x.1.1) v)):=by rw [e2];exact ZC
 have rd2:Hb A.rd=some (.dK rv):=s _ _ (by rw [e2,ZE (Ne.symm ne)];exact b.rd);have tk1:TK H0 H2:=by rw [e2];exact Xr b.td fun ys z=>nomatch z
 have tk3:TK Hb H4:=by rw [e4];exact Xr rd2 fun ys z=>nomatch z
 have tk:TK H0 H4:=fun b us h=>tk3 _ _ (s _ _ (tk1 _ _ h))
 have ls:∀ b us,H0 b=some (.lst us)->H4 b=some (.lst us):=fun c us h=>by
  have n1:c≠A.td:=YY h b.td (by intro z;cases z);have h2:Hb c=some (.lst us):=s _ _ (by rw [e2,ZE n1];exact h);have n2:c≠A.rd:=YY h2 rd2 (by intro z;cases z);rw [e4,ZE n2];exact h2
 have ll:H4 l=some (.lst xs):=by
  rw [e4,ZE (YY hl rd2 (by intro z;cases z))];exact hl
 refine ⟨by rw [e4,ZE ne];exact s _ _ td2,by rw [e4];exact ZC,by rw [Jn _ nk,Oq,b.ke,Oq];rfl,?_,fun y hy=>?_,?_⟩
 .rw [Jn _ nk,Oq,Oq]
  exact HasL.append (Zj tk _ (Tc ds) b.va) (HasL.one (YU tk _ (Td x) hv))
 .rw [VC]
  rcases O2.mp hy with m | m
  .have ny: ¬ (Sum.inr y.1.1:Key)=Sum.inr x.1.1:=fun z=>nx (O1.mpr ⟨y,m,Sum.inr.inj z⟩)
   rw [if_neg ny];obtain ⟨l',xs',h1,h2,h3⟩:=b.ro y m;exact ⟨l',xs',h1,ls _ _ h2,NA tk h3⟩
  .cases Ox.mp m
   rw [if_pos rfl];exact ⟨l,xs,rfl,ll,NA tk3 hx⟩
 .have:=Ts rv (Sum.inr x.1.1) (.ref l)
  have:=b.ln;rw [Os,List.length_singleton];omega
end L2
namespace K4
open PySem L2
section
variable{f g C CK:Addr}
def Ec(ks:List (Str × Shp))(kv:List (Key × V))(y:Str)(ps:List (Str × Str))(k:Str):Prop:=Ym 97 y=true/\Zl kv (Sum.inr y)=none/\XO ks ps/\k∈ks.map (·.1)
def GZ(C CK:Addr):Sp:=fun vs H Q _=> ∃ (A:BA) (kv:List (Key × V)) (ks:List (Str × Shp)) (d:Str->Nat) (y k:Str) (ps:List (Str × Str)) (v:V),vs= [.ref A.t, .str y,v, .str k]/\H A.t=some (.ins C A.dx (XM A))/\H A.td=some (.dK kv)/\KI H CK A.so ks d/\ks.length<=6/\y.length<=20/\
 Has H v (psD ps)/\ps.length<=5/\(∀ p∈ps,p.1.length<=20)/\(Ec ks kv y ps k->∀ H',Same H H'->Q (.bl true) H')/\(¬ Ec ks kv y ps k->∀ H',Same H H'->Q (.bl false) H')
theorem E3:Za ["self","name","parameters","kind"] ["self","name","parameters","kind"] (ZJ Rz):=Zu
theorem Dm(TB:BCl K C)(TC:KCl K CK)(F:Fun K "is_head" "Book.is_head" Rz f fd)(DN:Df P w K mg base n "is_name" ["text"] Jk)(DA:Df P w K mg base n "are_parameters" ["kinds","parameters"] (Ga CK))(m2:XB K CK "names" g)(G2:ZQ P w K mg base CX0 n g gd ["self"] (Xb CK))(b2:Binds K gd ["self"] []):ZQ P w K mg base CX0 (n + 1) f fd ["self","name","parameters","kind"] (GZ C CK):=by
 refine F.oq E3 fun cdv A outer s H vs Q E hr h=>?_;obtain ⟨A',kv,ks,d,y,k,ps,v,rfl,hi,ht,ki,k6,ly,hv,l5,l20,qt,qf⟩:=h;have hu:=Y3 hr;refine ⟨_,ZA (Zg (PW.pt (VX (Yz (Yi (ZZ DN hr (pa1 (pv 1))))) (VM (Vp (Ut hu (pv 1) (Z6 (pv 0) rfl)))))) (ZF (ZV Vr)) ZO)
  (ZF (ZV (JV (ZZ DA hr (pa2 (Z6 (pv 0) rfl) (pv 2))) (Jp (Yy Uu (pv 3) (Tv (Z6 (pv 0) rfl) TC.cl m2 G2 hr b2 .nil YM) rfl))))),?_⟩
 dsimp only [Yo,Cx.nox,Cx.wish];show let a:=_;let b:=_;ZK (Zv _ b _) a _ _ _
 intros
 refine ⟨y,rfl,ly,fun H1 s1=>⟨_,rfl,?_⟩⟩
 cases hw:Ym 97 y with
 | false=>exact Z7 (by simp) (qf (fun z=>by rw [z.1] at hw;cases hw) H1 s1)
 | true=>
 refine Zs (by simp) ?_;refine ⟨C,_,_,_,s1 _ _ hi,TB.cl,TB.td,Lu _,_,YD.k (k:=Sum.inr y) (s1 _ _ ht),_,rfl,?_⟩
 by_cases nk:Zl kv (Sum.inr y)=none
 case neg=>exact Z7 (by rw [Option.isSome_iff_ne_none.mpr nk]) (qf (fun z=>nk z.2.1) H1 s1)
 refine Zs (by rw [nk];simp) ?_;refine ⟨C,_,_,_,s1 _ _ hi,TB.cl,TB.so,Ft _,A'.so,ks,d,ps,v,rfl,ki.mono s1,k6,hv.mono s1,l5,l20,fun po H2 s2=>⟨true,rfl,Z7 rfl ?_⟩,fun np H2 s2=>⟨false,rfl,Zs (fun z=>nomatch z) (qf (fun z=>np z.2.2.1) H2 (s1.trans s2))⟩⟩;have s02:=s1.trans s2;have ki2:=ki.mono s02;obtain ⟨AK,SK,e1,kd,kr⟩:=id ki2;refine ⟨C,_,_,_,s02 _ _ hi,TB.cl,TB.so,Ft _,_,_,by rw [<-e1];exact kd.ins,rfl,A'.so,ks,d,rfl,ki2,fun l H3 s3 hl g3=>?_⟩;have el:(ks.map fun k=>V.str k.1)=(ks.map (·.1)).map V.str:=by rw [List.map_map];rfl
 rw [el] at g3;refine ⟨l,_,rfl, .inl (SqL.of g3),rfl,J0 _,?_⟩;rw [UX];dsimp only [rI0,rI,Vw]
 by_cases hk:k∈ks.map (·.1)
 .rw [decide_eq_true hk]
  exact qt ⟨hw,nk,po,hk⟩ H3 (s02.trans s3)
 .rw [decide_eq_false hk]
  exact qf (fun z=>hk z.2.2.2) H3 (s02.trans s3)
end
end K4
namespace L2
open PySem
theorem WI{g:TG}{tb:TS}{D:Ends}(Pv:Nat->St->Hp->Prop)(h0:Pv 0 U H)(hl:∀ i U H,i<=xs.length->Pv i U H->Sq K tp H a xs)(hs:∀ i x U H r,xs[i]?=some x->Pv i U H->H r=none->g (.ref r) U (upd H r (.tup [.int ((i:Nat):Int),x])) fun σ2 H2=>tb {D with nx:=Pv (i + 1),ct:=Pv (i + 1),bk:=D.nx} σ2 H2)(hd:∀ U H,Pv xs.length U H->D.nx U H):
  ∃ W:Nat->Nat->St->Hp->Prop,(∃ m,W 0 m U H)/\∀ i m U H,W i m U H->
   ((Ite K tp a).stop i H/\D.nx U H) \/ ((Ite K tp a).go i H/\∃ N:St->Hp->Prop,(∀ U' H',N U' H'->∃ m',m' < m/\W (i + 1) m' U' H')/\∀ x H',(Ite K tp a).yld i H x H'->g x U H' fun σ2 H2=>tb {D with nx:=N,ct:=N,bk:=D.nx} σ2 H2):=by
 refine ⟨fun i m U H=>m=xs.length - i/\i<=xs.length/\Pv i U H,⟨xs.length,by simp,O7 _,h0⟩,fun i m U H z=>?_⟩;obtain ⟨rfl,hi,p⟩:=z;have q:=hl i U H hi p;rcases Nat.lt_or_ge i xs.length with hlt | hge
 .refine .inr ⟨⟨xs,xs[i],q,Oi hlt⟩,Pv (i + 1),fun U' H' p'=>⟨xs.length - (i + 1),by omega,rfl,hlt,p'⟩,fun x H' y=>?_⟩
  obtain ⟨r,x1,rfl,hr,rfl,hx⟩:=y;exact hs i x1 U H r (hx xs q) p hr
 .have e:i=xs.length:=by omega
  exact .inl ⟨⟨xs,q,by omega⟩,by subst e;exact hd U H p⟩
theorem Fv{g:TG}{tb:TS}{D:Ends}(Pv:Nat->St->Hp->Prop)(h0:Pv 0 U H)(hl:∀ i U H,i<=xs.length->Pv i U H->Sq K tp H a xs)(hs:∀ (B:St->Hp->Prop) (R:VK) i x U H r,xs[i]?=some x->Pv i U H->H r=none->g (.ref r) U (upd H r (.tup [.int ((i:Nat):Int),x])) fun σ2 H2=>tb {nx:=Pv (i + 1),rt:=R,bk:=B,ct:=Pv (i + 1)} σ2 H2)(hd:∀ U H,Pv xs.length U H->D.nx U H):
  ∃ W:Nat->Nat->St->Hp->Prop,(∃ m,W 0 m U H)/\∀ i m U H,W i m U H->
   ((Ite K tp a).stop i H/\D.nx U H) \/ ((Ite K tp a).go i H/\∃ N:St->Hp->Prop,(∀ U' H',N U' H'->∃ m',m' < m/\W (i + 1) m' U' H')/\∀ x H',(Ite K tp a).yld i H x H'->g x U H' fun σ2 H2=>tb {D with nx:=N,ct:=N,bk:=D.nx} σ2 H2):=
 WI Pv h0 hl (fun i x U H r hx p hr=>hs _ _ i x U H r hx p hr) hd
end L2
namespace K4
open PySem L2
def J7(c:Str->Nat)(ds:List Dd):Nat:=(ds.map fun x=>Zx c x.1.2.1).sum
structure XC(ks:List (Str × Shp))(c:Str->Nat)(ds:List Dd)(i:Nat)(x:Dd):Prop where
 few:i < 8
 word:Ym 97 x.1.1=true
 new:x.1.1 ∉ (ds.take i).map fun y=>y.1.1
 pars:XO ks x.1.2.1
 kind:x.1.2.2∈ks.map (·.1)
 rows:Zx c x.1.2.1<=200
 all:J7 c (ds.take i) + Zx c x.1.2.1<=400
def JF(ks:List (Str × Shp))(c:Str->Nat)(ds:List Dd)(k:Nat):Prop:=(ds= []/\k=0) \/ ∃ x,ds[k]?=some x/\(∀ i y,i < k->ds[i]?=some y->XC ks c ds i y)/\ ¬ XC ks c ds k x
theorem XA(c:Str->Nat)(ds:List Dd)(x:Dd):J7 c (ds++ [x])=J7 c ds + Zx c x.1.2.1:=by
 unfold J7;rw [Oq,List.sum_append];simp
theorem X5{ps:List (Str × Str)}(h:∀ p∈ps,c p.2<=30)(l:ps.length<=3):Zx c ps<=30000:=by
 have go:∀ ps:List (Str × Str),(∀ p∈ps,c p.2<=30)->Zx c ps<=30 ^ ps.length:=fun ps=>by
  induction ps with
  | nil=>intro _;exact Om _
  | cons p ps ih=>
   intro h;unfold Zx;rw [List.foldl_cons,Vm,Nat.one_mul,PB,Nat.pow_succ,Nat.mul_comm];exact Nat.mul_le_mul (ih fun q m=>h q (Ot _ m)) (h p O5)
 have z:=go ps h;have:30 ^ ps.length<=30 ^ 3:=Nat.pow_le_pow_right (by decide) l;omega
structure DTx(x:Dd):Prop where
 nm:x.1.1.length<=20
 pl:x.1.2.1.length<=5
 pn:∀ p∈x.1.2.1,p.1.length<=20
 kl:x.1.2.2.length<=20
 dep:x.2.dep<=11
 ok:x.2.ok
section
variable{f g C CK N fI:Addr}
def ME(N:Addr)(Hm:Hp)(E:XK)(k:Nat):Prop:= ∀ H' d,Same Hm H'->H' d=some (xdO d (Zz "place" .non [("number", .int (k:Nat))]))->E (.ref N) (some d) H'
def Ba(C CK N:Addr):Sp:=fun vs H Q E=> ∃ (Hm:Hp) (A:BA) (dl:Addr) (zs:List V) (ks:List (Str × Shp)) (c d:Str->Nat) (ds:List Dd),vs= [.ref A.t, .ref dl]/\BB Hm H C CK A ks d/\BT H A [] [] ks []/\KK 30 c d ks/\ks.length<=6/\Hm dl=some (.lst zs)/\HasL Hm zs (ds.map VR)/\ds.length<=10/\(∀ x∈ds,DTx x)/\
 (∃ k,JF ks c ds k)/\∀ k,JF ks c ds k->ME N Hm E k
theorem US:Za ["self","definitions","in_all","number","name","parameters","kind","body","count"] ["self","definitions"] (ZJ Ry):=Zu
theorem Dj(B:Blt mg)(me:mg "enumerate" =none)(TB:BCl K C)(F:Fun K "take_heads" "Book.take_heads" Ry f fd)(h1:mg "MOST_DEFINITIONS" =some u1)(r1:RelV (.int 8) u1)(h2:mg "MOST_ROWS" =some u2)(r2:RelV (.int 200) u2)(h3:mg "MOST_ROWS_IN_ALL" =some u3)(r3:RelV (.int 400) u3)(hN:mg "NoBook" =some (.ref N))(cN:XCl K N fI)(kN:W.keepIn K (.ref N)=true)(hf:W.isFn K (.ref fI)=true)(GI:ZQ P w K mg base CX0 n fI iD ["self","number","place"] (NT N "number" "place"))(bI:Binds K iD ["self","number","place"] [])(mH:XB K C "is_head" g)(GH:ZQ P w K mg base CX0 (n + 1) g gd ["self","name","parameters","kind"] (GZ C CK))(bH:Binds K gd ["self","name","parameters","kind"] [])(DC:Df P w K mg base (n + 1) "row_count" ["kinds","parameters"] (UF CK))(DO:Df P w K mg base (n + 1) "rows_over" ["kinds","parameters"] (UE CK)):ZQ P w K mg base (CX1 P w) (n + 2) f fd ["self","definitions"] (Ba C CK N):=by
 refine F.oqX US fun cdv A outer s H vs Q E hr h=>?_;obtain ⟨Hm,A',dl,zs,ks,c,d,ds,rfl,bb,bt,kk,k6,hdl,hzs,d10,tx,fw,q⟩:=h;have hu:=Y3 hr;have lz:=hzs.length;rw [Oh] at lz;refine ⟨_,ZA (Zg (ZN YN (ZU ZP rfl B.len PySem.boot_len (pa1 (pv 1))) ZD (ZW _)) (ZF (Us JY rfl rfl rfl hN cN kN hf GI hr bI (pa2 ZD Y0))) ZO)
  (ZA (ZM 2 US.nd ZD)
  (ZF (Yb PassesOwn.leaving rfl (Xl rfl me (pa1 (pv 1))) (Yr (n:=2) rfl (Zf (ZL 3 US.nd) (Zf (Gx rfl (ZL 4 US.nd) (ZL 5 US.nd) (ZL 6 US.nd) (ZL 7 US.nd)) YX)))
   (ZA (Zg (PW.pt (VX (ZN Ij (pv 3) (Yx rfl h1 r1) (ZW _)) (VM (Yz (Yi (JU (pv 0) TB.cl mH GH hr bH .nil YM (pa3 (pv 4) (pv 5) (pv 6)))))))) (ZF (Us JY rfl rfl rfl hN cN kN hf GI hr bI (pa2 (pv 3) Y0))) ZO)
   (ZA (ZM 8 US.nd (ZZ DC hr (pa2 (Z6 (pv 0) rfl) (pv 5))))
   (ZA (Bz (i:=2) US.nd rfl (Or.inl rfl) (pv 8) Fm)
   (ZA (Zg (PW.pt (VX (ZN Vt (pv 8) (Yx rfl h2 r2) (ZW _)) (VM (ZN Vt (pv 2) (Yx rfl h3 r3) (ZW _))))) (ZF (Us JY rfl rfl rfl hN cN kN hf GI hr bI (pa2 (pv 3) Y0))) ZO)
   (ZA (YF hu (Z6 (pv 0) rfl) (pv 4) (Zi (pa3 (pv 5) (pv 6) (pv 7))) rfl)
   (ZF (YF hu (Z6 (pv 0) rfl) (pv 4) (ZZ DO hr (pa2 (Z6 (pv 0) rfl) (pv 5))) rfl)))))))))),?_⟩
 dsimp only [Yo];show let a:=_;let b:=ZK _ a;let c:=_;let d:=ZK (Zv _ c _) b;let e:=ZK _ d;let f:=ZK _ e;let g:=_;let h:=ZK (Zv _ g _) f;let i:=Vg _ _ h;let j:=ZK _ i;let k:=_;ZK (Zv _ k _) j _ _ _
 intros
 refine ⟨dl,_,rfl, .inl (SqL.of (bb.sm _ _ hdl)),rfl,_,rfl,?_⟩
 by_cases e0:ds= []
 .refine Z7 (by rw [lz,e0];rfl) ?_
  exact ⟨_,_,rfl,fun dx hdx=>q 0 (.inl ⟨e0,rfl⟩) _ dx (bb.sm.trans (ZH hdx _)) ZC⟩
 have d0:0 < ds.length:=List.length_pos_iff.mpr e0;refine Zs (fun z=>by have z1:=of_decide_eq_true z;injection z1 with z2;omega) ?_;refine RO ?_;refine ⟨dl,false,zs,rfl,SqL.of (bb.sm _ _ hdl),?_⟩
 let I:Nat->St->Hp->Prop:=fun i U Hi=>BB Hm Hi C CK A' ks d/\(∀ j y,j < i->ds[j]?=some y->XC ks c ds j y)/\∃ (kv rv:List (Key × V)) (z3 z4 z5 z6 z7 z8:Option V),BT Hi A' kv rv ks (ds.take i)/\J7 c (ds.take i)<=400/\U= [some (.ref A'.t),some (.ref dl),some (.int (J7 c (ds.take i):Nat)),z3,z4,z5,z6,z7,z8]
 refine Fv (tp:=false) (xs:=zs) I
  ⟨bb,fun j y hj=>absurd hj (Nat.not_lt_zero _), [], [],_,_,_,_,_,_,bt,O7 _,rfl⟩ (fun i U Hi _ z=>SqL.of (z.1.sm _ _ hdl)) ?_ ?_
 .rintro BB' RR i x U Hi r hx ⟨bbi,good,kv,rv,z3,z4,z5,z6,z7,z8,bti,n4,rfl⟩ hr'
  obtain ⟨dd,hd1,hd2⟩:=hzs.get hx;rw [On] at hd1
  cases hc:ds[i]? with
  | none=>rw [hc] at hd1;cases hd1
  | some dx=>
   rw [hc] at hd1;cases hd1;have i10:=(Ol.mp hc).1;have hm:=Oo hc;obtain ⟨t1,t2,t3,_,_,_⟩:=tx dx hm;have bad: ¬ XC ks c ds i dx->ME N Hm E i:=fun z=>q i (.inr ⟨dx,hc,good,z⟩);refine up_in hr' _ fun HR sR gR=>?_;have bbR:=bbi.same sR;have btR:=bti.same sR;obtain ⟨ta,u,wv,rfl,hta,hup,hwb⟩:=Ja (hd2.mono bbR.sm)
   have kn:Zl kv (Sum.inr dx.1.1)=none↔dx.1.1 ∉ (ds.take i).map fun y=>y.1.1:=by
    constructor
    .intro z m
     refine UM z ?_;rw [bti.ke];obtain ⟨q1,hq1,e1⟩:=O1.mp m;exact O1.mpr ⟨q1,hq1,by rw [e1]⟩
    .intro z
     refine UN ?_;rw [bti.ke];intro m;obtain ⟨q1,hq1,e1⟩:=O1.mp m;exact z (O1.mpr ⟨q1,hq1,Sum.inr.inj e1⟩)
   have lk:kv.length<=10:=by
    have:=congrArg List.length bti.ke;rw [Oh,Oh,Ou] at this;omega
   have lr:=bti.ln;rw [Ou] at lr;refine ⟨_,SqT.of gR,rfl,⟨_,SqT.of hta,rfl,?_⟩⟩;refine ⟨_,rfl,?_⟩
   by_cases i8:i < 8
   case neg=>exact Z7 (by simp;omega) ⟨_,_,rfl,fun e he=>bad (fun z=>i8 z.few) _ e (bbR.sm.trans (ZH he _)) ZC⟩
   refine Zs (by simp;omega) ?_;refine ⟨_,_,bbR.ins,OY _,A',kv,ks,d,dx.1.1,dx.1.2.2,dx.1.2.1,u,rfl,bbR.ins,btR.td,bbR.so.mono bbR.sm,k6,t1,hup,t2,t3,fun hok H1 s1=>⟨_,rfl,Zs (by simp) ?_⟩,fun nok H1 s1=>⟨_,rfl,Z7 (by simp) ⟨_,_,rfl,fun e he=>bad (fun z=>nok ⟨z.word,kn.mpr z.new,z.pars,z.kind⟩) _ e ((bbR.sm.trans s1).trans (ZH he _)) ZC⟩⟩⟩;obtain ⟨ow,onk,op,okd⟩:=hok;have nx:=kn.mp onk;have bb1:=bbR.same s1;have bt1:=btR.same s1;have hu1:=hup.mono s1;have r3:=X5 (c:=c) (fun p hp=>(kk.small (op.kin p hp)).2) op.1;refine ⟨C,_,_,_,bb1.ins,TB.cl,TB.so,Ft _,A'.so,ks,c,d,dx.1.2.1,u,rfl,bb1.so.mono bb1.sm,kk,hu1,op.kin,r3,fun H2 s2=>?_⟩;have bb2:=bb1.same s2;have bt2:=bt1.same s2;refine ⟨_,rfl,?_⟩;refine ⟨_,rfl,?_⟩
   by_cases c2:Zx c dx.1.2.1<=200
   case neg=>exact Z7 (by simp;omega) ⟨_,_,rfl,fun e he=>bad (fun z=>c2 z.rows) _ e (bb2.sm.trans (ZH he _)) ZC⟩
   refine Zs (by simp;omega) ?_;refine ⟨_,rfl,?_⟩
   by_cases c4:J7 c (ds.take i) + Zx c dx.1.2.1<=400
   case neg=>exact Z7 (by simp;omega) ⟨_,_,rfl,fun e he=>bad (fun z=>c4 z.all) _ e (bb2.sm.trans (ZH he _)) ZC⟩
   refine Zs (by simp;omega) ?_;refine ⟨sl 3,fun tt htt=>?_⟩;refine up_in htt _ fun H3 s3 g3=>?_;have bb3:=bb2.same s3;have bt3:=bt2.same s3;have hv3:Has H3 (.ref tt) (Xq dx):=Zk g3 (HasL.cons ((hu1.mono s2).mono s3) (HasL.cons Zn (HasL.one (((hwb.mono s1).mono s2).mono s3))));refine ⟨C,_,_,_,bb3.ins,TB.cl,TB.td,Lu _,_,VJ.k (k:=Sum.inr dx.1.1) bt3.td (ZI (by omega)),?_⟩;have bb4:=bb3.td (.dK (putK kv (Sum.inr dx.1.1) (.ref tt)));obtain ⟨H4,e4⟩:∃ H4,H4=upd H3 A'.td (.dK (putK kv (Sum.inr dx.1.1) (.ref tt))):=⟨_,rfl⟩;have tk4:TK H3 H4:=by rw [e4];exact Xr bt3.td fun ys z=>nomatch z
   have rd4:H4 A'.rd=some (.dK rv):=by rw [e4,ZE (Ne.symm bb.ne)];exact bt3.rd
   rw [<-e4] at bb4;dsimp only [rI0,rI,Vw];rw [<-e4];refine ⟨C,_,_,_,bb4.ins,TB.cl,TB.so,Ft _,A'.so,ks,c,d,dx.1.2.1,u,rfl,bb4.so.mono bb4.sm,kk,YU tk4 _ (by unfold psD;unfold Dat.st;exact VU _) ((hu1.mono s2).mono s3),op.kin,op.1,by omega,fun l xs H5 s5 fl hl hxs=>?_⟩;have bb5:=bb4.same s5;refine ⟨C,_,_,_,bb5.ins,TB.cl,TB.rd,OX _,_,VJ.k (k:=Sum.inr dx.1.1) (s5 _ _ rd4) (ZI (by omega)),?_⟩;have fin:=bt3.put bb.ne nx e4 hv3 s5 hl hxs rfl;rw [<-take_snoc hc] at fin;have ea:J7 c (ds.take (i + 1))=J7 c (ds.take i) + Zx c dx.1.2.1:=by rw [take_snoc hc,XA]
   refine ⟨bb5.rd _,fun j y hj hy=>?_,_,_,_,_,_,_,_,_,fin,by rw [ea];exact c4,by rw [ea];rfl⟩
   by_cases e:j=i
   .rw [e,hc] at hy;cases hy;rw [e];exact ⟨i8,ow,nx,op,okd,c2,c4⟩
   .exact good j y (by omega) hy
 .rintro U Hi ⟨bbi,good,_⟩
  exfalso;obtain ⟨k,⟨e,_⟩ | ⟨x,hx,_,nb⟩⟩:=fw
  .exact e0 e
  .exact nb (good k x (by rw [lz];exact (Ol.mp hx).1) hx)
end
end K4
namespace L2
open PySem
theorem Gy(n:b≠x)(h:H b=some o):JW H x b=some o:=by unfold JW;rw [if_neg n];exact h
theorem KI.out(k:KI H CK t ks d)(hx:H x=some (.ins C dx [])):KI (JW H x) CK t ks d:=by
 obtain ⟨A,S,rfl,kd,kr⟩:=k;have go:∀ {b:Addr}{o:HO},H b=some o->o≠ .ins C dx []->JW H x b=some o:=fun {b o} h n=>Gy (YY h hx n) h;have tl:TL H (JW H x):=⟨fun b xs h=>go h (by intro z;cases z),fun b xs h=>go h (by intro z;cases z)⟩;refine ⟨A,S,rfl,⟨go kd.ins (fun z=>?_),go kd.sh (fun z=>by cases z),go kd.wo (fun z=>by cases z),go kd.he (fun z=>by cases z),go kd.pd (fun z=>by cases z),go kd.tk (fun z=>by cases z),go kd.pk (fun z=>by cases z),kd.nd⟩,kr.tl tl⟩;injection z with _ _ z;unfold XR at z;cases z
end L2
namespace K4
open PySem L2
section
variable{f g C CK N NB fI:Addr}
def Ju(C CK N NB:Addr):Sp:=fun vs H Q E=> ∃ (x dx kl dl:Addr) (xs zs:List V) (ks es:List (Str × Shp)) (c d:Str->Nat) (ds:List Dd),vs= [.ref x, .ref kl, .ref dl]/\H x=some (.ins C dx [])/\H kl=some (.lst xs)/\HasL H xs ((ks++ es).map Yf)/\KK 30 c d ks/\(ks.map (·.1)).Nodup/\KG ks/\0 < ks.length/\ks.length<=6/\es.length<=1/\(∀ e∈es,e∈ks)/\H dl=some (.lst zs)/\
 (es≠ []->∀ H',Same (JW H x) H'->E (.ref N) none H')/\
 (es= []->HasL H zs (ds.map VR)/\ds.length<=10/\(∀ x∈ds,DTx x)/\(∃ k,JF ks c ds k)/\∀ k,JF ks c ds k->ME NB (JW H x) E k)
theorem E2:Za ["self","kinds","definitions"] ["self","kinds","definitions"] (ZJ Gr):=Zu
theorem OW(A:BA):(XM A).lookup ("take_heads" :Str)=none:=rfl
theorem Dl(hm:m + 1<=n)(TB:BCl K C)(F:Fun K "__init__" "Book.__init__" Gr f fd)(Mk':Mk K CK gi)(mC:mg "Kinds" =some (.ref CK))(GI:ZQ P w K mg base (CX1 P w) m gi idd ["self","told"] (Re CK N))(bI:Binds K idd ["self","told"] [])(m1:XB K C "take_heads" g1)(G1:ZQ P w K mg base (CX1 P w) n g1 d1 ["self","definitions"] (Ba C CK NB))(b1:Binds K d1 ["self","definitions"] []):
  ZQ P w K mg base (CX1 P w) (n + 1) f fd ["self","kinds","definitions"] (Ju C CK N NB):=by
 refine F.oqX E2 fun cdv A outer s H vs Q E hr h=>?_;obtain ⟨x,dx,kl,dl,xs,zs,ks,es,c,d,ds,rfl,hx,hkl,hxs,kk,nd,kg,k0,k6,e1,em,hdl,qk,qb⟩:=h;have ps:JE (CX1 P w) (Yo (CX1 P w) P w K mg base ["self","kinds","definitions"] "Book.__init__" (ZJ Gr) f cdv A outer s H E) E:=JY.passes rfl;have hrm:YR (m + 1) _:=hr.mono hm;refine ⟨_,ZA (V8 (pv 0) (FF Mk' GI hrm rfl mC bI .nil ps (pa1 (pv 1))) rfl)
  (ZA (V8 (pv 0) Yn rfl) (ZA (V8 (pv 0) Yn rfl) (ZA (V8 (pv 0) Yn rfl)
  (ZA (Ye (JU (pv 0) TB.cl m1 G1 hr b1 .nil ps (pa1 (pv 2))))
  Wh)))),?_⟩
 dsimp only [Yo];show let a:=_;let b:=ZK _ a;let c:=ZK _ b;let d:=ZK _ c;let e:=ZK _ d;ZK _ e _ _ _
 intros
 refine fun t dt ht hdt ndt=>?_;have tx:upd (upd H dt (.own t)) t (.ins CK dt []) t=some (.ins CK dt []):=ZC;have s7:Same H (upd (upd H dt (.own t)) t (.ins CK dt [])):=fun b o e=>by rw [ZE (ZG e ht),ZE (ZG e hdt)];exact e
 generalize upd (upd H dt (.own t)) t (.ins CK dt [])=H7 at tx s7 |-;have nxt:x≠t:=ZG hx ht;refine ⟨t,dt,kl,xs,ks,es,c,d,rfl,tx,s7 _ _ hkl,hxs.mono s7,kk,nd,kg,k0,k6,e1,em,fun en H8 f8 ki8=>⟨rfl,?_⟩,fun en H8 f8=>qk en H8 fun b o h=>?_⟩
 case refine_2=>
  unfold JW at h
  by_cases e:b=x
  .rw [if_pos e] at h;cases h
  .rw [if_neg e] at h;exact f8 b o (ZG h ht) (s7 b o h)
 obtain ⟨hzs,d10,dtx,fw,qn⟩:=qb en;have s8:Same H H8:=fun b o e=>f8 b o (ZG e ht) (s7 b o e);have x8:=s8 _ _ hx;refine ⟨x,C,dx,_,rfl,x8,TB.cl,TB.so,by decide,?_⟩;have x9:upd H8 x (.ins C dx (Zz "sorts" (.ref t) [])) x=some (.ins C dx (Zz "sorts" (.ref t) [])):=ZC;have r9:∀ b o,b≠x->H8 b=some o->upd H8 x (.ins C dx (Zz "sorts" (.ref t) [])) b=some o:=fun b o n e=>by rw [ZE n];exact e
 generalize upd H8 x (.ins C dx (Zz "sorts" (.ref t) []))=H9 at x9 r9 |-;intro p1 hp1;refine ⟨x,C,dx,_,rfl,by rw [ZE (ZG x9 hp1)];exact x9,TB.cl,TB.td,(by show 1 < 1000;decide),?_⟩;obtain ⟨x1,a1,n1,r1⟩:=VI (f:="told") (o:= .dK []) x9 hp1;generalize upd (upd H9 p1 (.dK [])) x (.ins C dx (Zz "told" (.ref p1) (Zz "sorts" (.ref t) [])))=H1 at x1 a1 r1 |-;intro p2 hp2;refine ⟨x,C,dx,_,rfl,by rw [ZE (ZG x1 hp2)];exact x1,TB.cl,TB.rd,(by show 2 < 1000;decide),?_⟩;obtain ⟨x2,a2,n2,r2⟩:=VI (f:="rows") (o:= .dK []) x1 hp2;generalize upd (upd H1 p2 (.dK [])) x (.ins C dx (Zz "rows" (.ref p2) (Zz "told" (.ref p1) (Zz "sorts" (.ref t) []))))=H2 at x2 a2 r2 |-;intro p3 hp3;refine ⟨x,C,dx,_,rfl,by rw [ZE (ZG x2 hp3)];exact x2,TB.cl,TB.tn,(by show 3 < 1000;decide),?_⟩;obtain ⟨x3,a3,n3,r3⟩:=VI (f:="turns") (o:= .dK []) x2 hp3;generalize upd (upd H2 p3 (.dK [])) x (.ins C dx (Zz "turns" (.ref p3) (Zz "rows" (.ref p2) (Zz "told" (.ref p1) (Zz "sorts" (.ref t) [])))))=H3 at x3 a3 r3 |-
 let A':BA:=⟨x,dx,t,p1,p2,p3⟩
 have out:∀ {b:Addr}{o:HO},JW H8 x b=some o->b≠x/\H8 b=some o:=fun {b o} h=>by
  unfold JW at h
  by_cases e:b=x
  .rw [if_pos e] at h;cases h
  .rw [if_neg e] at h;exact ⟨e,h⟩
 have fr:∀ b o,b≠x->H8 b=some o->H3 b=some o:=fun b o n e=>r3 b o n (r2 b o n (r1 b o n (r9 b o n e)));have sm:Same (JW H8 x) H3:=fun b o h=>fr b o (out h).1 (out h).2
 have free:∀ p:Addr,(∀ o,p≠x->H8 p=some o->False)->JW H8 x p=none:=fun p h=>by
  cases e:JW H8 x p with
  | none=>rfl
  | some o=>exact (h o (out e).1 (out e).2).elim
 have c12:=r2 _ _ n1 a1;have c13:=r3 _ _ n1 c12;have c23:=r3 _ _ n2 a2;have bb:BB (JW H8 x) H3 C CK A' ks d:=⟨x3,sm,ki8.out x8,free p1 fun o n e=>(by have:=r9 _ _ n e;rw [hp1] at this;cases this),free p2 fun o n e=>(by have:=r1 _ _ n (r9 _ _ n e);rw [hp2] at this;cases this),ZG a1 hp2,Ne.symm n1,Ne.symm n2⟩;have bt:BT H3 A' [] [] ks []:=⟨c13,c23,rfl,HasL.nil,(fun y hy=>nomatch hy),Om _⟩;have hin:∀ {b:Addr}{o:HO},H b=some o->o≠ .ins C dx []->JW H8 x b=some o:=fun {b o} h n=>Gy (YY h hx n) (s8 _ _ h);have tl:TL H (JW H8 x):=⟨fun b xs h=>hin h (by intro z;cases z),fun b xs h=>hin h (by intro z;cases z)⟩;refine ⟨_,_,x3,OW A',JW H8 x,A',dl,zs,ks,c,d,ds,rfl,bb,bt,kk,k6,hin hdl (by intro z;cases z),HasL.tl tl _ hzs,d10,dtx,fw,fun k hk H5 e s5 he=>qn k hk H5 e (fun b o h=>s5 _ _ ?_) he⟩;unfold JW at h
 by_cases z:b=x
 .rw [if_pos z] at h;cases h
 .rw [if_neg z] at h;exact Gy z (s8 _ _ h)
theorem OH:Za ["self","number","place"] ["self","number","place"] (ZJ Gm):=Zu
theorem Nm(F:Fun K "__init__" "NoBook.__init__" Gm f fd)(c:XCl K N f)(n1:W.findIn K (.ref N) "number" =some none)(n2:W.findIn K (.ref N) "place" =some none):
  ZQ P w K mg base CX0 (n + 1) f fd ["self","number","place"] (NT N "number" "place"):=by
 refine F.oq OH fun cdv A outer s H vs Q E hr h=>?_;obtain ⟨ea,a,b,rfl,he,q⟩:=h;refine ⟨_,ZA (Le c n1 (pv 0) (pv 1)) (ZF (Ld c n2 (pv 0) (pv 2))),?_⟩;refine ⟨he,fun d hd hde=>?_⟩;exact ⟨d,_,ZC,by rw [ZE hde];exact ZC,(by show 1 < 1000;decide),q d hd hde⟩
end
theorem Jl:Za ["shapes","kind","shape","found","one"] ["shapes","kind"] (ZJ Xg):=Zu
theorem Ll:List.Nodup [("other" :Str),"one"]:=by decide +kernel
section
def Vi(n:Nat):Sp:=fun vs H Q _=> ∃ (a:Addr) (y:Str) (ks:List (Str × Shp)) (top:Nat) (c d:Str->Nat),vs= [.ref a, .str y]/\Jf H a ks/\KK top c d ks/\top<=30/\y∈ks.map (·.1)/\d y < n/\d y < 3/\
 ∀ (r:Addr) (H':Hp),Same H H'->H r=none->Has H' (.ref r) (.lst ((Zb ks 3 y).map W.dat))->Q (.ref r) H'
theorem Nj(B:Blt mg)(F:Fun K "_law_worths" "_law_worths" Xg f fd)(G:ZQ P w K mg base CX0 n f fd ["shapes","kind"] (Vi n))(bG:Binds K fd ["shapes","kind"] [])(mG:mg "_law_worths" =some (.ref f)):
  ZQ P w K mg base CX0 (n + 1) f fd ["shapes","kind"] (Vi (n + 1)):=by
 refine F.oq Jl fun cdv A outer s H vs Q E hr h=>?_;obtain ⟨a,y,ks,top,c,d,rfl,hs,kk,t30,hy,dn,d3,q⟩:=h;have hu:=Y3 hr;refine ⟨_,ZA (ZM 2 Jl.nd (Zd hu (pv 0) (pv 1) (fun _ _=>rfl)))
  (ZA (Zg (ZN YN (ZT Zc (pv 2) ZD) ZY (ZW _)) (ZF (ZV (ZX Vu (Zp (pa1 Y0)) (Zm YH rfl B.list Z9 (pa1 (ZT Zc (pv 2) ZD)))))) ZO)
  (ZA (ZM 3 Jl.nd (Zp (pa1 Y0)))
  (ZA (Yb PassesOwn.never rfl (Yk (Zy G hr rfl mG F.kp bG .nil YM (pa2 (pv 0) (ZT Zc (pv 2) ZD)))) (ZL 4 Jl.nd rfl (Or.inr rfl) (Or.inl rfl))
   (ZF (ZM 3 Jl.nd (ZX Vu (pv 3) (Y4 ["other"] [4] (Yk (Zy G hr rfl mG F.kp bG .nil YM (pa2 (pv 0) (ZT Zc (pv 2) ZD)))) (YO (i:=0) (by decide))
    (fun cl C fp s H=>ZL 0 Ll rfl (Or.inl rfl) (Or.inr rfl)) (fun cl C fp s H=>Zi (pa2 (pv 1) (pv 0))))))))
  (ZF (ZV (pv 3)))))),?_⟩
 show let a:=_;let b:=_;let c:=ZK (Vg _ _ b) a;let d:=ZK _ c;let e:=_;let f:=ZK (Zv _ e _) d;ZK _ f _ _ _
 intros
 obtain ⟨sh,hsh⟩:=Ys hy;obtain ⟨kvs,hk,_,hg⟩:=id hs;obtain ⟨v,hv,hd⟩:=hg y sh hsh;have k1:=kk.at hsh;obtain ⟨wl,w0,wdp⟩:=Y9 kk 3 y hy d3;have gy:YD H a (.str y) (some v):=by rw [<-hv];exact .inl ⟨kvs,Sum.inr y,hk,rfl,rfl⟩
 refine ⟨v,gy,?_⟩;have ew:Zb ks 3 y=wOf ks 2 sh:=Jt hsh
 cases sh with
 | tags ts=>
  obtain ⟨p,l,rfl,hp,hl⟩:=Vx hd;refine ⟨_,_,SqT.of hp,rfl,rfl,_,rfl,Z7 (by decide +kernel) ?_⟩;obtain ⟨g1,g2,_⟩:=k1;refine ⟨sl 1,fun t1 ht1=>?_⟩;have s1:=ZH ht1 (.lst [V.non]);refine ⟨_,_,SqT.of (s1 _ _ hp),rfl,l,_,rfl, .inr (SqT.of (s1 _ _ hl)),fun t2 ht2=>?_⟩;have s2:=ZH ht2 (.lst (ts.map V.str));refine ⟨t1,t2,_,_,rfl,rfl,s2 _ _ ZC,ZC,?_,fun t3 ht3=>?_⟩
  .rw [Oh]
   exact PF (ZI (by simp only [List.length_singleton];omega))
  .refine q t3 _ ((s1.trans s2).trans (ZH ht3 _)) ((s1.trans s2).free ht3) (YG ZC ?_)
   rw [ew];exact HasL.cons Xn (Xs ts)
 | pair e g=>
  obtain ⟨p,rfl,hp⟩:=VP hd;refine ⟨_,_,SqT.of hp,rfl,rfl,_,rfl,Zs (by decide +kernel) ?_⟩;obtain ⟨h1,h2,h3,h4,h5,h6⟩:=k1;have m1:=Nat.le_max_left (d e) (d g);have m2:=Nat.le_max_right (d e) (d g);have ee:Zb ks 2 e=Zb ks 3 e:=VA kk 2 3 e h1 (by omega) (by omega);have eg:Zb ks 2 g=Zb ks 3 g:=VA kk 2 3 g h2 (by omega) (by omega);obtain ⟨le,pe,_⟩:=Y9 kk 3 e h1 (by omega);obtain ⟨lg,pg,_⟩:=Y9 kk 3 g h2 (by omega);refine ⟨sl 1,fun fl hfl=>?_⟩;have s0:=ZH hfl (.lst [V.non]);refine ⟨_,_,SqT.of (s0 _ _ hp),rfl,a,e,ks,top,c,d,rfl,hs.mono s0,kk,t30,h1,by omega,by omega,fun r1 H1 s1 f1 u1=>?_⟩;obtain ⟨_,xs,er,hx,hxl⟩:=Jz u1;cases er;have lx:=hxl.length;rw [Oh] at lx;have sH:=s0.trans s1;refine ⟨⟨_,SqL.of hx⟩,?_⟩
  let I:Nat->St->Hp->Prop:=fun i U H'=>Same H1 H'/\∃ (fl':Addr) (zs:List V) (z:Option V),U= [some (.ref a),some (.str y),some (.ref p),some (.ref fl'),z]/\H fl'=none/\H' fl'=some (.lst zs)/\i<=xs.length/\
   HasL H' zs ((W.non::((Zb ks 3 e).take i).flatMap fun u=>(Zb ks 3 g).map fun v=>W.pair u v).map W.dat)
  refine J3 (xs:=xs) I ?_ ?_ ?_ ?_
  .refine ⟨Same.refl _,fl, [.non],_,rfl,hfl,s1 _ _ ZC,O7 _,?_⟩
   rw [List.take_zero];exact HasL.one Xn
  .rintro i U H' _ ⟨z1,_⟩
   exact SqL.of (z1 _ _ hx)
  .rintro BB RR i x U H' hxi ⟨z1,fl',zs,z,rfl,zf,hz,hi,hzl⟩
   obtain ⟨dx,hdx,hhx⟩:=hxl.get hxi;rw [On] at hdx
   cases hu1:(Zb ks 3 e)[i]? with
   | none=>rw [hu1] at hdx;cases hdx
   | some u=>
    rw [hu1] at hdx;cases hdx;have hilt:i < xs.length:=(Ol.mp hxi).1;have sP:=sH.trans z1;refine ⟨_,_,SqT.of (sP _ _ hp),rfl,a,g,ks,top,c,d,rfl,hs.mono sP,kk,t30,h2,by omega,by omega,fun r2 H2 s2 f2 u2=>?_⟩;obtain ⟨_,ws,er,hw,hwl⟩:=Jz u2;cases er;have lw:=hwl.length;rw [Oh] at lw;refine ⟨⟨_,SqL.of hw⟩,?_⟩
    have lim:1 + (i + 1) * c g<=30:=by
     have:(i + 1) * c g<=c e * c g:=Nat.mul_le_mul_right _ (by omega);omega
    have lg30:c g<=30:=by
     have:1 * c g<=(i + 1) * c g:=Nat.mul_le_mul_right _ (by omega);omega
    have lz:zs.length=1 + i * c g:=by
     have:=hzl.length;rw [Oh,PB,WJ _ (c g) _ (fun b _=>by rw [Oh,lg]),Ou] at this;rw [this,Nat.min_eq_left (by omega)];omega
    refine YQ ws.length (ZI (by omega)) (fun m vs H3=>Same H2 H3/\vs.length=m/\HasL H3 vs ((((Zb ks 3 g).map fun v=>W.pair u v).map W.dat).take m)) ⟨Same.refl _,rfl,by rw [List.take_zero];exact HasL.nil⟩ (fun m vs H3 z=>z.2.1) ?_ ?_ ?_ ?_
    .intro m vs H3 hm zz
     exact ⟨ws,ws[m],SqL.of (zz.1 _ _ hw),by simp [hm]⟩
    .intro vs H3 zz
     exact ⟨ws,SqL.of (zz.1 _ _ hw),Om _⟩
    .intro m vs H3 x2 H4 R hm zz yl hR
     obtain ⟨rfl,yy⟩:=yl;obtain ⟨dz,hdz,hhz⟩:=hwl.get (yy ws (SqL.of (zz.1 _ _ hw)));rw [On] at hdz
     cases hv1:(Zb ks 3 g)[m]? with
     | none=>rw [hv1] at hdz;cases hdz
     | some v1=>
      rw [hv1] at hdz;cases hdz;refine ⟨sl 2,fun t ht=>hR _ _ ?_⟩;have st:=ZH ht (.tup [x,x2]);refine ⟨zz.1.trans st,by rw [Os,zz.2.1];rfl,?_⟩;have e2:(((Zb ks 3 g).map fun v=>W.pair u v).map W.dat)[m]?=some (W.pair u v1).dat:=by rw [On,On,hv1];rfl
      rw [take_snoc e2];refine HasL.append (zz.2.2.mono st) (HasL.one ?_);unfold W.dat Has;exact ⟨t,_,rfl,ZC,HasL.cons (hhx.mono (((z1.trans s2).trans zz.1).trans st)) (HasL.cons (hhz.mono (zz.1.trans st)) HasL.nil)⟩
    .intro vs H3 pl zz hpl
     have st:=ZH hpl (.lst vs);have z4:=zz.2.2;rw [PD (by rw [Oh,Oh];omega)] at z4;have sz:=(s2.trans zz.1).trans st;refine ⟨fl',pl,zs,vs,rfl,rfl,sz _ _ hz,ZC,PF (ZI ?_),fun nl hnl=>?_⟩
     .rw [lz,zz.2.1,lw,lg]
      have:(i + 1) * c g=i * c g + c g:=Nat.succ_mul _ _;omega
     .have s9:=sz.trans (ZH hnl (.lst (zs++ vs)))
      refine ⟨z1.trans s9,nl,zs++ vs,_,rfl,((sP.trans sz).free hnl),ZC,hilt,?_⟩
      have ef:(W.non::((Zb ks 3 e).take (i + 1)).flatMap fun u=>(Zb ks 3 g).map fun v=>W.pair u v).map W.dat=(W.non::((Zb ks 3 e).take i).flatMap fun u=>(Zb ks 3 g).map fun v=>W.pair u v).map W.dat++ ((Zb ks 3 g).map fun v=>W.pair u v).map W.dat:=by
       rw [Wq _ hu1,<-List.cons_append,Oq]
      rw [ef];exact HasL.append (hzl.mono s9) (z4.mono (st.trans (ZH hnl _)))
  .rintro U H' ⟨z1,fl',zs,z,rfl,zf,hz,hi,hzl⟩
   refine q fl' H' (sH.trans z1) zf (YG hz ?_);rw [PD (by omega)] at hzl;rw [ew];show HasL H' zs ((W.non::(Zb ks 2 e).flatMap fun u=>(Zb ks 2 g).map fun v=>W.pair u v).map W.dat);rw [ee,eg];exact hzl
theorem TY:ZQ P w K mg base CX0 0 f fd ["shapes","kind"] (Vi 0):=by
 have no:∀ vs H Q E,¬ Vi 0 vs H Q E:=fun vs H Q E h=>by
  obtain ⟨a,y,ks,top,c,d,_,_,_,_,_,h1,_⟩:=h;omega
 exact ⟨fun vs H Q E h=>absurd h (no vs H Q E),fun A outer s H args us vs Q E _ _ _ _ h=>absurd h (no vs H Q E)⟩
theorem WU(B:Blt mg)(F:Fun K "_law_worths" "_law_worths" Xg f fd)(bG:Binds K fd ["shapes","kind"] [])(mG:mg "_law_worths" =some (.ref f)):∀ n:Nat,ZQ P w K mg base CX0 n f fd ["shapes","kind"] (Vi n)
 | 0=>TY
 | n + 1=>Nj B F (WU B F bG mG n) bG mG
end
end K4
namespace L2
open PySem
def DW(m:Nat)(d:Dat):Prop:=d.dep<=m/\d.wid<=1000
theorem DW.up(h:DW m d)(l:m<=n):DW n d:=⟨O6 h.1 l,h.2⟩
theorem G8:∀ {ds:List Dat},(∀ d∈ds,DW m d)->Dat.deps ds<=m/\Dat.wids ds<=1000
 | [],_=>by unfold Dat.deps Dat.wids;exact ⟨O7 _,O7 _⟩
 | d::ds,h=>by
  have q:=G8 fun e he=>h e (Ot _ he);have d1:=h d O5;unfold Dat.deps Dat.wids;exact ⟨Nat.max_le.mpr ⟨d1.1,q.1⟩,Nat.max_le.mpr ⟨d1.2,q.2⟩⟩
theorem EJ(h:∀ d∈ds,DW m d)(l:ds.length<=1000):DW (1 + m) (.lst ds):=by
 have q:=G8 h;unfold DW Dat.dep Dat.wid;exact ⟨by omega,Nat.max_le.mpr ⟨l,q.2⟩⟩
theorem Jb(h:∀ d∈ds,DW m d)(l:ds.length<=1000):DW (1 + m) (.tup ds):=by
 have q:=G8 h;unfold DW Dat.dep Dat.wid;exact ⟨by omega,Nat.max_le.mpr ⟨l,q.2⟩⟩
theorem Vb(x:Str):DW 0 (.str x):=by unfold DW Dat.dep Dat.wid;exact ⟨Om _,O7 _⟩
theorem Fz{ts:List Str}:∀ d∈ts.map Dat.str,DW 0 d:=fun d hd=>by
 obtain ⟨t,_,rfl⟩:=O1.mp hd;exact Vb t
theorem Uz(h1:DW m d)(h2:DW m e):DW (1 + m) (.tup [d,e]):=Jb (fun x hx=>by
 rcases O8.mp hx with rfl | hx
 .exact h1
 .cases Ox.mp hx
  exact h2) (by simp)
theorem NO:∀ {bs:List Bd}{ts:List Str}{d:Dat},d∈Bd.brs bs ts->∃ b∈bs,∃ t,d= .tup [.str t,b.dat]
 | [],ts,d,h=>by cases ts <;> (unfold Bd.brs at h;cases h)
 | b::bs, [],d,h=>by unfold Bd.brs at h;cases h
 | b::bs,t::ts,d,h=>by
  unfold Bd.brs at h;rcases O8.mp h with e | e
  .exact ⟨b,O5,t,e⟩
  .obtain ⟨b',m,t',e'⟩:=NO e
   exact ⟨b',Ot _ m,t',e'⟩
theorem EY:∀ (bs:List Bd) (ts:List Str),(Bd.brs bs ts).length<=bs.length
 | [],ts=>by cases ts <;> (unfold Bd.brs;exact Om _)
 | b::bs, []=>by unfold Bd.brs;exact O7 _
 | b::bs,t::ts=>by unfold Bd.brs;exact Nat.succ_le_succ (EY bs ts)
set_option tactic.hygienic true in
theorem NH{b:Bd}(ok:b.ok)(hp:∀ c∈b.parts,DW m c.dat):DW (3 + m) b.dat:=by
 have fw:=Bd.few ok;have w:∀ x,DW (2 + m) (.str x):=fun x=>(Vb x).up (O7 _);have go:∀ {ds:List Dat},ds.length<=5->(∀ d∈ds,DW (2 + m) d)->DW (3 + m) (.tup ds):=fun {ds} l h=>(Jb h (by omega)).up (by omega);have up:∀ c∈b.parts,DW (2 + m) c.dat:=fun c hc=>(hp c hc).up (Nat.le_add_left _ _);cases b <;> unfold Bd.dat <;> refine go (by simp) fun d hd=>?_ <;> simp only [O8,List.not_mem_nil,or_false] at hd
 case tag=>rcases hd with rfl | rfl <;> exact w _
 case name=>rcases hd with rfl | rfl <;> exact w _
 case one e=>rcases hd with rfl | rfl <;> first | exact w _ | exact up _ (by simp [Bd.parts])
 case other e=>rcases hd with rfl | rfl <;> first | exact w _ | exact up _ (by simp [Bd.parts])
 case pair e g=>
  rcases hd with rfl | rfl | rfl
  .exact w _
  .exact up e (by simp [Bd.parts])
  .exact up g (by simp [Bd.parts])
 case choose e ts bs=>
  rcases hd with rfl | rfl | rfl
  .exact w _
  .exact up e (by simp [Bd.parts])
  .refine (Jb (m:=1 + m) (fun d hd=>?_) ?_).up (by omega)
   .obtain ⟨b,hb,t,rfl⟩:=NO hd
    exact Uz ((Vb _).up (O7 _)) (hp b (by simp [Bd.parts,hb]))
   .have:=EY bs ts
    have:bs.length<=(Bd.choose e ts bs).parts.length:=by simp [Bd.parts]
    omega
 case ask f as=>
  rcases hd with rfl | rfl | rfl
  .exact w _
  .exact w _
  .refine (Jb (m:=m) (fun d hd=>?_) ?_).up (by omega)
   .rw [Bd.dats_map] at hd
    obtain ⟨b,hb,rfl⟩:=O1.mp hd;exact hp b (by simp [Bd.parts,hb])
   .rw [Bd.dats_map,Oh]
    have:as.length<=(Bd.ask f as).parts.length:=by simp [Bd.parts]
    omega
 case letb x z e g=>
  rcases hd with rfl | rfl | rfl | rfl | rfl
  .exact w _
  .exact w _
  .exact w _
  .exact up e (by simp [Bd.parts])
  .exact up g (by simp [Bd.parts])
theorem Bd.dw(n:Nat):∀ b:Bd,b.dep<=n->b.ok->DW (3 * n + 3) b.dat:=by
 induction n with
 | zero=>exact fun b h ok=>(NH (m:=0) ok fun c hc=>by have:=Bd.dep_mem hc;omega).up (by omega)
 | succ n ih=>exact fun b h ok=>(NH ok fun c hc=>ih c (by have:=Bd.dep_mem hc;omega) (Bd.ok_parts ok c hc)).up (by omega)
theorem KO(s:Shp)(h:∀ ts,s= .tags ts->ts.length<=4):DW 2 s.dat:=by
 cases s with
 | tags ts=>
  unfold Shp.dat;exact Uz ((Vb _).up (by decide)) (Jb Fz (by rw [Oh];have:=h ts rfl;omega))
 | pair a b=>
  unfold Shp.dat
  exact (Jb (m:=0) (fun d hd=>by
   simp only [O8,List.not_mem_nil,or_false] at hd;rcases hd with rfl | rfl | rfl <;> exact Vb _) (by simp)).up (by decide)
theorem EE{α:Type}{D:α->Dat}{nm:α->Str}{us:List α}(hl:H l=some (.lst xs))(hx:HasL H xs (us.map D))(hD:∀ u v,Has H v (D u)->∃ a ys,v= .ref a/\H a=some (.tup (.str (nm u)::ys)))(n:us.length<=100)(q:∀ p H',Same H H'->H p=none->H' p=some (.lst ((us.map nm).map V.str))->Q (.ref p) H'):W5 (Itl K l) (YZ 0) (tOp (Jm K) (UB 0) (tC (.int 0))) [none] Q H:=by
 have lx:=hx.length;rw [Oh] at lx
 refine YQ xs.length (ZI (by omega)) (fun j vs H3=>Same H H3/\j<=us.length/\vs=((us.take j).map nm).map V.str) ⟨Same.refl _,O7 _,rfl⟩ (fun j vs H3 z=>by
  rw [z.2.2,Oh,Oh,Ou];have:=z.2.1;omega) ?_ ?_ ?_ ?_
 .intro j vs H3 hj z
  exact ⟨_,xs[j],SqL.of (z.1 _ _ hl),by simp [hj]⟩
 .intro vs H3 z
  exact ⟨_,SqL.of (z.1 _ _ hl),Om _⟩
 .intro j vs H3 x H4 R hj z yl hR
  obtain ⟨rfl,yy⟩:=yl;obtain ⟨dx,hdx,hhx⟩:=hx.get (yy _ (SqL.of (z.1 _ _ hl)));rw [On] at hdx
  cases hk:us[j]? with
  | none=>rw [hk] at hdx;cases hdx
  | some k=>
   rw [hk] at hdx;cases hdx;obtain ⟨p,ys,rfl,hp⟩:=hD k x hhx;refine ⟨_,_,SqT.of (z.1 _ _ hp),YA (j:=0) (xs:= .str (nm k)::ys) rfl,hR _ _ ⟨z.1,(Ol.mp hk).1,?_⟩⟩;rw [z.2.2,take_snoc hk,Oq,Oq];rfl
 .intro vs H3 p z hp
  have s3:=ZH hp (.lst vs);have ev:vs=(us.map nm).map V.str:=by rw [z.2.2,PD (by omega)]
  subst ev;exact q p _ (z.1.trans s3) (z.1.free hp) ZC
theorem WC(u:Str × Shp)(v:V)(h:Has H v (Yf u)):∃ a ys,v= .ref a/\H a=some (.tup (.str u.1::ys)):=by
 obtain ⟨a,w,e,h1,_⟩:=Vy (y:=u.1) (s:=u.2) h;exact ⟨a,_,e,h1⟩
theorem IJ(u:Dd)(v:V)(h:Has H v (VR u)):∃ a ys,v= .ref a/\H a=some (.tup (.str u.1.1::ys)):=by
 obtain ⟨a,_,_,e,h1,_⟩:=Ja h;exact ⟨a,_,e,h1⟩
theorem DW.lt(h:DW 40 d):d.dep < 45:=Nat.lt_of_le_of_lt h.1 (by decide)
theorem N7{α:Type}{D:α->Dat}{nm:α->Str}{us:List α}(hl:H l=some (.tup xs))(hx:HasL H xs (us.map D))(hD:∀ u v,Has H v (D u)->∃ a ys,v= .ref a/\H a=some (.tup (.str (nm u)::ys)))(n:us.length<=100)(q:∀ p H',Same H H'->H p=none->H' p=some (.lst ((us.map nm).map V.str))->Q (.ref p) H'):W5 (Itt K l) (YZ 0) (tOp (Jm K) (UB 0) (tC (.int 0))) [none] Q H:=by
 have lx:=hx.length;rw [Oh] at lx
 refine YQ xs.length (ZI (by omega)) (fun j vs H3=>Same H H3/\j<=us.length/\vs=((us.take j).map nm).map V.str) ⟨Same.refl _,O7 _,rfl⟩ (fun j vs H3 z=>by
  rw [z.2.2,Oh,Oh,Ou];have:=z.2.1;omega) ?_ ?_ ?_ ?_
 .intro j vs H3 hj z
  exact ⟨_,xs[j],SqT.of (z.1 _ _ hl),by simp [hj]⟩
 .intro vs H3 z
  exact ⟨_,SqT.of (z.1 _ _ hl),Om _⟩
 .intro j vs H3 x H4 R hj z yl hR
  obtain ⟨rfl,yy⟩:=yl;obtain ⟨dx,hdx,hhx⟩:=hx.get (yy _ (SqT.of (z.1 _ _ hl)));rw [On] at hdx
  cases hk:us[j]? with
  | none=>rw [hk] at hdx;cases hdx
  | some k=>
   rw [hk] at hdx;cases hdx;obtain ⟨p,ys,rfl,hp⟩:=hD k x hhx;refine ⟨_,_,SqT.of (z.1 _ _ hp),YA (j:=0) (xs:= .str (nm k)::ys) rfl,hR _ _ ⟨z.1,(Ol.mp hk).1,?_⟩⟩;rw [z.2.2,take_snoc hk,Oq,Oq];rfl
 .intro vs H3 p z hp
  have s3:=ZH hp (.lst vs);have ev:vs=(us.map nm).map V.str:=by rw [z.2.2,PD (by omega)]
  subst ev;exact q p _ (z.1.trans s3) (z.1.free hp) ZC
theorem HasL.take:∀ (k:Nat) {ds:List Dat}{xs:List V},HasL H xs ds->HasL H (xs.take k) (ds.take k)
 | 0,_,_,_=>by rw [List.take_zero,List.take_zero];exact HasL.nil
 | _ + 1, [], [],h=>h
 | _ + 1, [],_::_,h=>by unfold HasL at h;exact h.elim
 | _ + 1,_::_, [],h=>by unfold HasL at h;exact h.elim
 | k + 1,_::_,_::_,h=>by unfold HasL at h;exact HasL.cons h.1 (HasL.take k h.2)
theorem Jf.has(s:Jf H a ks)(y:Str):∃ o,YD H a (.str y) o/\(o.isSome=true↔y∈ks.map (·.1)):=by
 obtain ⟨kvs,r,ke,sh⟩:=s;refine ⟨Zl kvs (Sum.inr y), .inl ⟨kvs,Sum.inr y,r,rfl,rfl⟩,?_⟩
 constructor
 .intro z
  have m:(Sum.inr y:Key)∈kvs.map (·.1):=Classical.not_not.mp fun n=>by rw [UN n] at z;cases z
  rw [ke] at m;obtain ⟨q,hq,e⟩:=O1.mp m;exact O1.mpr ⟨q,hq,Sum.inr.inj e⟩
 .intro m
  cases z:Zl kvs (Sum.inr y) with
  | some v=>rfl
  | none=>
   refine absurd ?_ (UM z);rw [ke];obtain ⟨q,hq,e⟩:=O1.mp m;exact O1.mpr ⟨q,hq,by rw [e]⟩
end L2
namespace K4
open PySem L2
section
def GG:Sp:=fun vs H Q _=> ∃ (a:Addr) (v:V) (ks:List (Str × Shp)) (c d:Str->Nat) (ps:List (Str × Str)),vs= [.ref a,v]/\Jf H a ks/\KK 30 c d ks/\Has H v (psD ps)/\(∀ p∈ps,p.2∈ks.map (·.1))/\ps.length<=3/\∀ H',Same H H'->Q (.int (Zx c ps:Nat)) H'
theorem X1:Za ["shapes","parameters","many","name","kind"] ["shapes","parameters"] (ZJ Bn):=Zu
theorem FZ(B:Blt mg)(F:Fun K "_law_many" "_law_many" Bn f fd)(DW:Df P w K mg base n "_law_worths" ["shapes","kind"] (Vi 3)):ZQ P w K mg base CX0 (n + 1) f fd ["shapes","parameters"] GG:=by
 refine F.oq X1 fun cdv A outer s H vs Q E hr h=>?_;obtain ⟨a,v,ks,c,d,ps,rfl,sh,kk,hv,pk,l3,q⟩:=h;unfold psD at hv;obtain ⟨pa,xs,rfl,hpa,hxs⟩:=Yg hv;have lx:=hxs.length;rw [Oh] at lx;refine ⟨_,ZA (ZM 2 X1.nd ZD)
  (ZA (Yb PassesOwn.never rfl (JA (pv 1)) (Yr (n:=2) rfl (Zf (ZL 3 X1.nd) (Zf (ZL 4 X1.nd) YX)))
   (ZF (ZM 2 X1.nd (ZX Y7 (pv 2) (ZU ZP rfl B.len PySem.boot_len (pa1 (ZZ DW hr (pa2 (pv 0) (pv 4)))))))))
  (ZF (ZV (pv 2)))),?_⟩
 dsimp only [Yo,Cx.nox,Cx.wish];show let a:=_;let b:=_;let c:=ZK (Vg _ _ b) a;ZK _ c _ _ _
 intros
 refine RO ?_;refine ⟨⟨_,SqT.of hpa⟩,?_⟩
 let I:Nat->St->Hp->Prop:=fun i U Hi=>Same H Hi/\∃ z3 z4,U= [some (.ref a),some (.ref pa),some (.int (Zx c (ps.take i):Nat)),z3,z4]
 refine Uy (xs:=xs) I ⟨Same.refl _,_,_,rfl⟩ (fun i U Hi _ z=>SqT.of (z.1 _ _ hpa)) ?_ ?_
 .rintro BB RR i x U Hi hx ⟨si,z3,z4,rfl⟩
  obtain ⟨p,t,hp,rfl,ht⟩:=UH hxs hx;have hk:=pk p (Oo hp);have sm:=kk.small hk;refine ⟨_,SqT.of (si _ _ ht),rfl,?_⟩;refine ⟨a,p.2,ks,30,c,d,rfl,sh.mono si,kk,Om _,hk,by omega,by omega,fun r H3 s3 hr3 hl3=>?_⟩;obtain ⟨r',ys,er,hr4,hy⟩:=Jz hl3;cases er;have ly:=hy.length;obtain ⟨c1,c2⟩:=kk.c0 hk;rw [Oh,c1] at ly;have b0:=(UG (c:=c) (ps:=ps) (fun p hp=>(kk.c0 (pk p hp)).2) i).1;have b1:=X5 (c:=c) (fun p hp=>(kk.small (pk p hp)).2) l3;refine ⟨r,_,rfl, .inl (SqL.of hr4), .inl ⟨by omega,by omega⟩,?_⟩;have e:((Zx c (ps.take i):Nat):Int) * ((ys.length:Nat):Int)=((Zx c (ps.take (i + 1)):Nat):Int):=by rw [take_snoc hp,JT,ly,Int.natCast_mul]
  exact ⟨si.trans s3,some (.str p.1),some (.str p.2),by rw [<-e];rfl⟩
 .rintro U Hi ⟨si,z3,z4,rfl⟩
  rw [PD (by omega)];exact q Hi si
def HR(ks:List (Str × Shp))(c:Str->Nat)(y:Str)(ps:List (Str × Str))(k:Str):Prop:=Ym 97 y=true/\k∈ks.map (·.1)/\XO ks ps/\Zx c ps<=200
def GU:Sp:=fun vs H Q _=> ∃ (a:Addr) (v:V) (ks:List (Str × Shp)) (c d:Str->Nat) (y k:Str) (ps:List (Str × Str)),vs= [.ref a, .str y,v, .str k]/\Jf H a ks/\KK 30 c d ks/\Has H v (psD ps)/\y.length<=20/\ps.length<=5/\(∀ p∈ps,p.1.length<=20)/\
 (HR ks c y ps k->∀ H',Same H H'->Q (.bl true) H')/\(¬ HR ks c y ps k->∀ H',Same H H'->Q (.bl false) H')
theorem Xe:Za ["shapes","name","parameters","kind","k","own","of"] ["shapes","name","parameters","kind"] (ZJ Rv):=Zu
theorem Il:List.Nodup [("one" :Str)]:=by decide +kernel
theorem Dg(B:Blt mg)(me:mg "enumerate" =none)(F:Fun K "_law_head_right" "_law_head_right" Rv f fd)(DN:Df P w K mg base n "_law_word" ["text"] Jk)(DM:Df P w K mg base n "_law_many" ["shapes","parameters"] GG):ZQ P w K mg base CX0 (n + 1) f fd ["shapes","name","parameters","kind"] GU:=by
 refine F.oq Xe fun cdv A outer s H vs Q E hr h=>?_;obtain ⟨a,v,ks,c,d,y,k,ps,rfl,sh,kk,hv,ly,l5,l20,qt,qf⟩:=h;have hu:=Y3 hr;have hv0:=hv;unfold psD at hv;obtain ⟨pa,xs,rfl,hpa,hxs⟩:=Yg hv;have lx:=hxs.length;rw [Oh] at lx;refine ⟨_,ZA (Zg (PW.pt (VX (Yz (Yi (ZZ DN hr (pa1 (pv 1))))) (VX (Vp (JJ hu (pv 3) (pv 0))) (VM (ZN Vt (ZU ZP rfl B.len PySem.boot_len (pa1 (pv 2))) ZD (ZW _)))))) (ZF (ZV Vr)) ZO)
  (ZA (Yb PassesOwn.never rfl (Xl rfl me (pa1 (pv 2))) (Yr (n:=2) rfl (Zf (ZL 4 Xe.nd) (Zf (Yr (n:=2) rfl (Zf (ZL 5 Xe.nd) (Zf (ZL 6 Xe.nd) YX))) YX)))
   (ZF (Zg (PW.pt (VX (Yz (Yi (ZZ DN hr (pa1 (pv 5))))) (VX (Vp (JJ hu (pv 6) (pv 0))) (VM (ZN Uu (pv 5)
    (Y4 ["one"] [] (JA (Z3 Gc (pv 2) YW (YE (pv 4)))) (YO (i:=0) (by decide)) (fun cl C fp s H=>ZL 0 Il rfl (Or.inl rfl) (Or.inr rfl)) (fun cl C fp s H=>ZT (r:=Jm K) Zc (pv 0) ZD)) rfl))))) (ZF (ZV Vr)) ZO)))
  (ZF (ZV (Yy UV (ZZ DM hr (pa2 (pv 0) (pv 2))) ZD (ZW _))))),?_⟩
 dsimp only [Yo,Cx.nox,Cx.wish];show let a:=_;let b:=_;let c:=Zv _ b _;let d:=ZK (Vg _ _ c) a;let e:=_;ZK (Zv _ e _) d _ _ _
 intros
 refine ⟨y,rfl,ly,fun H1 s1=>⟨_,rfl,?_⟩⟩
 cases hw:Ym 97 y with
 | false=>exact Z7 (by simp) (qf (fun z=>by rw [z.1] at hw;cases hw) H1 s1)
 | true=>
 refine Zs (by simp) ?_;obtain ⟨o1,g1,e1⟩:=(sh.mono s1).has k;refine ⟨_,g1,_,rfl,?_⟩
 by_cases hk:k∈ks.map (·.1)
 case neg=>exact Z7 (by cases o1 with
  | none=>rfl
  | some _=>exact absurd (e1.mp rfl) hk) (qf (fun z=>hk z.2.1) H1 s1)
 refine Zs (by rw [e1.mpr hk];simp) ?_;refine ⟨pa,_,rfl, .inr (SqT.of (s1 _ _ hpa)),_,rfl,?_⟩
 by_cases l3:ps.length<=3
 case neg=>exact Z7 (by simp;omega) (qf (fun z=>l3 z.2.2.1.1) H1 s1)
 refine Zs (by simp;omega) ?_;refine ⟨pa,true,xs,rfl,SqT.of (s1 _ _ hpa),?_⟩
 let I:Nat->St->Hp->Prop:=fun i U Hi=>Same H Hi/\(∀ j p,j < i->ps[j]?=some p->Ym 97 p.1=true/\p.1 ∉ (ps.take j).map (·.1)/\p.2∈ks.map (·.1))/\∃ z4 z5 z6,U= [some (.ref a),some (.str y),some (.ref pa),some (.str k),z4,z5,z6]
 refine WI (tp:=true) (xs:=xs) I ⟨s1,fun j p hj=>absurd hj (Nat.not_lt_zero _),_,_,_,rfl⟩ (fun i U Hi _ z=>SqT.of (z.1 _ _ hpa)) ?_ ?_
 .rintro i x U Hi r hx ⟨si,good,z4,z5,z6,rfl⟩ hr'
  obtain ⟨p,t,hp,rfl,ht⟩:=UH hxs hx;have hpm:=Oo hp;have il:=(Ol.mp hp).1;refine up_in hr' _ fun HR' sR gR=>?_;have s0R:=si.trans sR;refine ⟨_,SqT.of gR,rfl,⟨_,SqT.of (s0R _ _ ht),rfl,?_⟩⟩;refine ⟨p.1,rfl,l20 p hpm,fun H2 s2=>⟨_,rfl,?_⟩⟩;have s02:=s0R.trans s2
  cases hw2:Ym 97 p.1 with
  | false=>exact Z7 (by simp) (qf (fun z=>by rw [(z.2.2.1.2 i p hp).1] at hw2;cases hw2) H2 s02)
  | true=>
  refine Zs (by simp) ?_;obtain ⟨o2,g2,e2⟩:=(sh.mono s02).has p.2;refine ⟨_,g2,_,rfl,?_⟩
  by_cases hk2:p.2∈ks.map (·.1)
  case neg=>exact Z7 (by cases o2 with
   | none=>rfl
   | some _=>exact absurd (e2.mp rfl) hk2) (qf (fun z=>hk2 (z.2.2.1.2 i p hp).2.2) H2 s02)
  refine Zs (by rw [e2.mpr hk2];simp) ?_;refine ⟨_,rfl,pa,xs,rfl,SqT.of (s02 _ _ hpa),?_,fun q1 hq1=>?_⟩
  .rw [HT.sIx_none,HT.sIx_nat];omega
  rw [Vz _ _ (by omega)];refine up_in hq1 _ fun H3 s3 g3=>?_;have s03:=s02.trans s3;refine ⟨⟨_,SqT.of g3⟩,N7 (us:=ps.take i) (D:=fun p:Str × Str=>Dat.tup [.str p.1, .str p.2]) (nm:=fun p:Str × Str=>p.1) g3 (by rw [List.map_take];exact (hxs.mono s03).take i) (fun u v hu=>?_) (by rw [Ou];omega) fun l H4 s4 fl g4=>?_⟩
  .obtain ⟨t',e',ht'⟩:=UZ hu
   exact ⟨t',_,e',ht'⟩
  refine ⟨l,_,rfl, .inl (SqL.of g4),rfl,J0 _,_,rfl,?_⟩;rw [UX]
  by_cases nt:p.1∈(ps.take i).map (·.1)
  .exact Z7 (by simp only [Bool.false_eq_true,if_false];exact decide_eq_true nt) (qf (fun z=>(z.2.2.1.2 i p hp).2.1 nt) H4 (s03.trans s4))
  refine Zs (by simp only [Bool.false_eq_true,if_false,decide_eq_true_eq];exact nt) ?_;refine ⟨s03.trans s4,fun j p' hj hp'=>?_,_,_,_,rfl⟩
  by_cases e:j=i
  .rw [e,hp] at hp';cases hp';rw [e];exact ⟨hw2,nt,hk2⟩
  .exact good j p' (by omega) hp'
 .rintro U Hi ⟨si,good,z4,z5,z6,rfl⟩
  have po:XO ks ps:=⟨l3,fun i p hp=>good i p (by rw [lx];exact (Ol.mp hp).1) hp⟩;refine ⟨a, .ref pa,ks,c,d,ps,rfl,sh.mono si,kk,hv0.mono si,po.kin,l3,fun H5 s5=>?_⟩;show Q (.bl (decide (((Zx c ps:Nat):Int)<=200))) H5
  by_cases c2:Zx c ps<=200
  .rw [decide_eq_true (by omega)]
   exact qt ⟨hw,hk,po,c2⟩ H5 (si.trans s5)
  .rw [decide_eq_false (by omega)]
   exact qf (fun z=>c2 z.2.2.2) H5 (si.trans s5)
end
theorem LB(h:DTx x):DW 37 (VR x):=by
 unfold VR;refine Jb (m:=36) (fun d hd=>?_) (by show 4<=1000;decide);rcases O8.mp hd with e | hd
 .rw [e];exact (Vb _).up (by decide)
 rcases O8.mp hd with e | hd
 .rw [e]
  refine (Jb (m:=1) (fun d hd=>?_) (by rw [Oh];have:=h.pl;omega)).up (by decide);obtain ⟨p,_,rfl⟩:=O1.mp hd;exact Uz (Vb _) (Vb _)
 rcases O8.mp hd with e | hd
 .rw [e];exact (Vb _).up (by decide)
 .rw [Ox.mp hd];exact Bd.dw 11 x.2 h.dep h.ok
theorem NJ{ds:List Dd}(h:∀ x∈ds,DTx x)(l:ds.length<=20):DW 38 (.lst (ds.map VR)):=
 EJ (m:=37) (fun d hd=>let ⟨x,hx,e⟩:=O1.mp hd;e ▸ LB (h x hx)) (by rw [Oh];omega)
section
def GY:Sp:=fun vs H Q _=> ∃ (a dl:Addr) (zs:List V) (ks:List (Str × Shp)) (c d:Str->Nat) (ds:List Dd),vs= [.ref a, .ref dl]/\Jf H a ks/\KK 30 c d ks/\H dl=some (.lst zs)/\HasL H zs (ds.map VR)/\ds.length<=10/\(∀ x∈ds,DTx x)/\
 (∀ k:Nat,JF ks c ds k->∀ H',Same H H'->Q (.int k) H')/\((¬ ∃ k,JF ks c ds k)->∀ H',Same H H'->Q .non H')
theorem V4:Za ["shapes","definitions","many","k","name","parameters","kind","body"] ["shapes","definitions"] (ZJ Rx):=Zu
theorem Di(hn:41<=n)(B:Blt mg)(me:mg "enumerate" =none)(F:Fun K "_law_first_wrong" "_law_first_wrong" Rx f fd)(DH:Df P w K mg base n "_law_head_right" ["shapes","name","parameters","kind"] GU)(DM:Df P w K mg base n "_law_many" ["shapes","parameters"] GG):ZQ P w K mg base CX0 (n + 1) f fd ["shapes","definitions"] GY:=by
 refine F.oq V4 fun cdv A outer s H vs Q E hr h=>?_;obtain ⟨a,dl,zs,ks,c,d,ds,rfl,sh,kk,hdl,hzs,d10,tx,qk,qn⟩:=h;have hr41:YR (40 + 1) _:=hr.mono hn;have lz:=hzs.length;rw [Oh] at lz;refine ⟨_,ZA (ZM 2 V4.nd ZD)
  (ZA (Yb PassesOwn.never rfl (Xl rfl me (pa1 (pv 1))) (Yr (n:=2) rfl (Zf (ZL 3 V4.nd) (Zf (Gx rfl (ZL 4 V4.nd) (ZL 5 V4.nd) (ZL 6 V4.nd) (ZL 7 V4.nd)) YX)))
   (ZA (Zg (PW.pt (VX (ZN YN (pv 3) ZD (ZW _)) (VM (Yz (Yi (ZZ DH hr (pa4 (pv 0) (pv 4) (pv 5) (pv 6)))))))) (ZF (ZV (pv 3))) ZO)
   (ZA (Zg (ZN Uu (pv 4) (Y4 ["one"] [] (Yk (Z3 V2 (pv 1) YW (YE (pv 3)))) (YO (i:=0) (by decide)) (fun cl C fp s H=>ZL 0 Il rfl (Or.inl rfl) (Or.inr rfl)) (fun cl C fp s H=>ZT (r:=Jm K) Zc (pv 0) ZD)) rfl) (ZF (ZV (pv 3))) ZO)
   (ZA (ZM 2 V4.nd (ZX YC (pv 2) (ZZ DM hr (pa2 (pv 0) (pv 5)))))
   (ZF (Zg (ZN Vt (pv 2) ZD (ZW _)) (ZF (ZV (pv 3))) ZO))))))
  (ZA (Zg (ZN (X8 hr41) (pv 1) (Zp YK) (ZW _)) (ZF (ZV ZD)) ZO)
  (ZF (ZV Y0)))),?_⟩
 dsimp only [Yo,Cx.nox,Cx.wish];show let a:=_;let b:=_;let c:=ZK (Zv _ b _) a;let d:=_;let e:=Zv _ d _;let f:=ZK _ e;let g:=_;let h:=ZK (Zv _ g _) f;let i:=_;let j:=ZK (Zv _ i _) h;let k:=ZK (Vg _ _ j) c;ZK _ k _ _ _
 intros
 refine RO ?_;refine ⟨dl,false,zs,rfl,SqL.of hdl,?_⟩
 let I:Nat->St->Hp->Prop:=fun i U Hi=>Same H Hi/\(∀ j y,j < i->ds[j]?=some y->XC ks c ds j y)/\J7 c (ds.take i)<=400/\∃ (z3 z4 z5 z6 z7:Option V),U= [some (.ref a),some (.ref dl),some (.int (J7 c (ds.take i):Nat)),z3,z4,z5,z6,z7]
 refine WI (tp:=false) (xs:=zs) I ⟨Same.refl _,fun j y hj=>absurd hj (Nat.not_lt_zero _),O7 _,_,_,_,_,_,rfl⟩ (fun i U Hi _ z=>SqL.of (z.1 _ _ hdl)) ?_ ?_
 .rintro i x U Hi r hx ⟨si,good,n4,z3,z4,z5,z6,z7,rfl⟩ hr'
  obtain ⟨dd,hd1,hd2⟩:=hzs.get hx;rw [On] at hd1
  cases hc:ds[i]? with
  | none=>rw [hc] at hd1;cases hd1
  | some dx=>
   rw [hc] at hd1;cases hd1;have i10:=(Ol.mp hc).1;have hm:=Oo hc;have t:=tx dx hm;have bad: ¬ XC ks c ds i dx->∀ H',Same H H'->Q (.int (i:Nat)) H':=fun z=>qk i (.inr ⟨dx,hc,good,z⟩);refine up_in hr' _ fun HR' sR gR=>?_;have s0:=si.trans sR;obtain ⟨ta,u,wv,rfl,hta,hup,hwb⟩:=Ja (hd2.mono s0);refine ⟨_,SqT.of gR,rfl,⟨_,SqT.of hta,rfl,?_⟩⟩;refine ⟨rfl,_,rfl,?_⟩
   by_cases i8:i=8
   .exact Z7 (by rw [i8];rfl) (bad (fun z=>by have:=z.few;omega) _ s0)
   refine Zs (fun z=>by have z1:=of_decide_eq_true z;injection z1 with z2;omega) ?_
   have l8:i < 8:=by
    cases i with
    | zero=>decide
    | succ j=>
     have:=(good j ds[j] (Nat.lt_succ_self j) (Oi (by omega))).few;omega
   refine ⟨a,u,ks,c,d,dx.1.1,dx.1.2.2,dx.1.2.1,rfl,sh.mono s0,kk,hup,t.nm,t.pl,t.pn,fun hok H1 s1=>⟨_,rfl,Zs (by simp) ?_⟩,fun nok H1 s1=>⟨_,rfl,Z7 (by simp) (bad (fun z=>nok ⟨z.word,z.kind,z.pars,z.rows⟩) _ (s0.trans s1))⟩⟩;obtain ⟨ow,okd,op,orw⟩:=hok;have s01:=s0.trans s1;refine ⟨_,rfl,dl,zs,rfl,SqL.of (s01 _ _ hdl),fun q1 hq1=>?_⟩;rw [Vz _ _ (by omega)];refine up_in hq1 _ fun H2 s2 g2=>?_;have s02:=s01.trans s2;refine ⟨⟨_,SqL.of g2⟩,EE (us:=ds.take i) (D:=VR) (nm:=fun x:Dd=>x.1.1) g2 (by rw [List.map_take];exact (hzs.mono s02).take i) IJ (by rw [Ou];omega) fun l H3 s3 fl g3=>?_⟩;have s03:=s02.trans s3;refine ⟨l,_,rfl, .inl (SqL.of g3),rfl,J0 _,_,rfl,?_⟩;rw [UX]
   by_cases nt:dx.1.1∈(ds.take i).map fun x=>x.1.1
   .exact Z7 (by simp only [Bool.false_eq_true,if_false];exact decide_eq_true nt) (bad (fun z=>z.new nt) _ s03)
   refine Zs (by simp only [Bool.false_eq_true,if_false,decide_eq_true_eq];exact nt) ?_;have r3:=X5 (c:=c) (fun p hp=>(kk.small (op.kin p hp)).2) op.1;refine ⟨a,u,ks,c,d,dx.1.2.1,rfl,sh.mono s03,kk,((hup.mono s1).mono s2).mono s3,op.kin,op.1,fun H4 s4=>?_⟩;have s04:=s03.trans s4;have ea:((J7 c (ds.take i):Nat):Int) + ((Zx c dx.1.2.1:Nat):Int)=((J7 c (ds.take (i + 1)):Nat):Int):=by rw [take_snoc hc,XA,Int.natCast_add]
   dsimp only [rI0,rI,Vw];rw [ea];refine ⟨_,rfl,?_⟩;have eb:J7 c (ds.take (i + 1))=J7 c (ds.take i) + Zx c dx.1.2.1:=by rw [take_snoc hc,XA]
   by_cases c4:J7 c (ds.take (i + 1))<=400
   case neg=>exact Z7 (by simp;omega) (bad (fun z=>by have:=z.all;omega) _ s04)
   refine Zs (by simp;omega) ?_;refine ⟨s04,fun j y hj hy=>?_,c4,_,_,_,_,_,rfl⟩
   by_cases e:j=i
   .rw [e,hc] at hy;cases hy;rw [e];exact ⟨l8,ow,nt,op,okd,orw,by omega⟩
   .exact good j y (by omega) hy
 .rintro U Hi ⟨si,good,n4,z3,z4,z5,z6,z7,rfl⟩
  refine ⟨sl 0,fun e he=>?_⟩;refine up_in he _ fun H1 s1 g1=>?_;refine ⟨_,_,YG ((si.trans s1) _ _ hdl) (hzs.mono (si.trans s1)),YG g1 HasL.nil,((NJ tx (by omega)).up (by decide)).1,_,rfl,?_⟩
  cases ds with
  | nil=>exact Z7 (by simp [Dat.pq,Dat.pqs]) (qk 0 (.inl ⟨rfl,rfl⟩) _ (si.trans s1))
  | cons x ds=>
   refine Zs (by simp [Dat.pq,Dat.pqs]) (qn (fun ⟨k,hk⟩=>?_) _ (si.trans s1));rcases hk with ⟨e,_⟩ | ⟨x',hx,_,nb⟩
   .cases e
   .exact nb (good k x' (by rw [lz];exact (Ol.mp hx).1) hx)
end
end K4
namespace L2
open PySem
def Asc(x:Str):Prop:= ∀ c∈x.cps.toList,c < 128
theorem Asc.app{x y:Str}(a:Asc x)(b:Asc y):Asc (x++ y):=fun c hc=>by
 rw [(PySem.Str.cps_append),Array.toList_append,O2] at hc;exact hc.elim (a c) (b c)
theorem Asc.one{c:Nat}(h:c < 128):Asc ⟨#[c]⟩:=fun d hd=>by
 have:d=c:=by simpa using hd
 rw [this];exact h
theorem NU{x:Str}{l u:Option Int}(h:Asc x):Asc (Txt.slice x l u):=fun c hc=>by
 unfold Txt.slice at hc
 split at hc
 .exact h c hc
 .rw [show (⟨((Builtin.Str.strSliceIndices l u 1 x.length).filterMap (x.cps[·]?)).toArray⟩:Str).cps.toList=(Builtin.Str.strSliceIndices l u 1 x.length).filterMap (x.cps[·]?) from List.toList_toArray] at hc
  obtain ⟨i,_,hi⟩:=List.mem_filterMap.mp hc;exact h c (Array.mem_toList_iff.mpr (Array.mem_of_getElem? hi))
theorem WS{x:Str}(h:x.cps.toList.all (fun c=>decide (c < 128))=true):Asc x:=fun c hc=>of_decide_eq_true (List.all_eq_true.mp h c hc)
section
variable{X:Cx}
def Ii:V->List V->Hp->VK->Prop:=fun x vs H Q=> ∃ z,x= .str z/\vs= []/\Asc z/\z.length<=1000/\∀ y,y.length=z.length->Asc y->Q (.str y) H
theorem Dq:MtR X "str.upper" Ii:=by
 intro pins s U H x vs v us Q I rx rv h;obtain ⟨z,rfl,rfl,a,l,q⟩:=h;obtain ⟨t,rfl⟩:=rx;cases rv;refine PyProof.Rows.SCL.upper (by omega) fun _=>⟨.str _,H,I.tok _,⟨_,rfl⟩,q _ ?_ ?_⟩
 .rw [PyProof.Rows.upper_ascii a];show (z.cps.map _).size=z.cps.size;simp
 .rw [PyProof.Rows.upper_ascii a]
  intro c hc;have hc':c∈(z.cps.map PyProof.Rows.up1).toList:=hc;rw [Array.toList_map] at hc';obtain ⟨d,hd,rfl⟩:=O1.mp hc';have:=a d hd;unfold PyProof.Rows.up1
  split <;> omega
theorem Dr:MtR X "str.lower" Ii:=by
 intro pins s U H x vs v us Q I rx rv h;obtain ⟨z,rfl,rfl,a,l,q⟩:=h;obtain ⟨t,rfl⟩:=rx;cases rv;refine PyProof.Rows.SCL.lower (by omega) fun _=>⟨.str _,H,I.tok _,⟨_,rfl⟩,q _ ?_ ?_⟩
 .rw [PyProof.Rows.lower_ascii a];show (z.cps.map _).size=z.cps.size;simp
 .rw [PyProof.Rows.lower_ascii a]
  intro c hc;have hc':c∈(z.cps.map PyProof.Rows.lo1).toList:=hc;rw [Array.toList_map] at hc';obtain ⟨d,hd,rfl⟩:=O1.mp hc';have:=a d hd;unfold PyProof.Rows.lo1
  split <;> omega
def LZ:V->List V->Hp->VK->Prop:=fun x vs H Q=> ∃ z,x= .str z/\vs= []/\∀ b,Q (.bl b) H
theorem MF:MtR X "str.isupper" LZ:=by
 intro pins s U H x vs v us Q I rx rv h;obtain ⟨z,rfl,rfl,q⟩:=h;obtain ⟨t,rfl⟩:=rx;cases rv;exact SC.isupper ⟨.bl _,H,I,rfl,q _⟩
def LY:R2:=fun x y H Q=> ∃ z k,x= .str z/\y= .int k/\Asc z/\z.length=1/\k<=20/\ -20<=k/\∀ u:Str,u.length<=k.toNat->Asc u->Q (.str u) H
theorem FM:OpR X (binaryOp .Mult) LY:=by
 intro pins s U H x y v u Q I rx ry h;obtain ⟨z,k,rfl,rfl,a,lz,k1,k0,q⟩:=h;obtain ⟨t,rfl⟩:=rx;obtain ⟨t',rfl⟩:=ry
 have key:∀ m:Nat,((List.replicate m z.cps).foldl (· ++ ·) #[]).toList=(List.replicate m z.cps.toList).flatten:=by
  intro m
  have g:∀ (m:Nat) (acc:Array Nat),((List.replicate m z.cps).foldl (· ++ ·) acc).toList=acc.toList++ (List.replicate m z.cps.toList).flatten:=by
   intro m
   induction m with
   | zero=>intro acc;simp
   | succ m ih=>intro acc;rw [List.replicate_succ,List.foldl_cons,ih,List.replicate_succ,List.flatten_cons,Array.toList_append,List.append_assoc]
  have:=g m #[];rw [this];rfl
 have lt:z.cps.toList.length=1:=by rw [Array.length_toList];exact lz
 refine SB.mul ⟨by simp;omega,fun h1 _=>?_,fun _ _=>?_⟩ fun t' k'=>⟨.str _,H,I.tok _,⟨_,rfl⟩,q _ ?_ ?_⟩
 .rw [lz]
  have:(1:Int)<=(2 ^ 63 - 1) / k:=by
   have:(2 ^ 63 - 1) / k ≥ 1:=by
    apply (Int.le_ediv_iff_mul_le (by omega)).mpr;omega
   exact this
  omega
 .rw [lz]
  have:(1 * k.toNat)<=20:=by omega
  unfold Builtin.Str.tooLong;simp;have:(20:Nat)<=sizeLine:=by decide
  omega
 .unfold Txt.mul
  split
  .exact O7 _
  .split
   .omega
   .show ((List.replicate k.toNat z.cps).foldl (· ++ ·) #[]).size<=k.toNat
    rw [<-Array.length_toList,key,len_rep,lt];omega
 .unfold Txt.mul
  split
  .intro c hc;simp [Str.empty] at hc
  .split
   .exact a
   .intro c hc
    have hc':c∈((List.replicate k.toNat z.cps).foldl (· ++ ·) #[]).toList:=hc;rw [key,List.mem_flatten] at hc';obtain ⟨l,hl,hcl⟩:=hc';rw [(List.mem_replicate.mp hl).2] at hcl;exact a c hcl
def OJ:V->Option Int->Option Int->Hp->VK->Prop:=fun x _ _ H Q=> ∃ z,x= .str z/\Asc z/\z.length<=1000/\∀ y:Str,y.length<=z.length->Asc y->Q (.str y) H
theorem Gd:SlR X OJ:=fun pins s U H x v vl vu lo hi sl Q I rx hs pl pu ⟨z,e,a,l,q⟩=>Uk pins s U H x v vl vu lo hi sl Q I rx hs pl pu ⟨z,e,PF (ZI l),q _ (Txt.slice_le z lo hi) (NU a)⟩
theorem LE{α:Type}{xs:List α}{i:Int}(h1: -(xs.length:Int)<=i)(h2:i < xs.length):∃ v,v∈xs/\atI xs i=some v:=by
 have key:∀ j:Nat,ixN xs.length i=some j->j < xs.length->∃ v,v∈xs/\atI xs i=some v:=fun j e hj=>by
  refine ⟨xs[j],List.getElem_mem hj,?_⟩;unfold atI;rw [e];exact Oi hj
 cases e:ixN xs.length i with
 | some j=>exact key j e (G4 e).2.1
 | none=>
  unfold ixN at e
  by_cases h0:0<=i
  .rw [if_pos h0] at e
   first
   | (rw [if_pos (by omega)] at e;cases e)
   | (simp at e;omega)
  .rw [if_neg h0] at e
   first
   | (rw [if_pos (by omega)] at e;cases e)
   | (simp at e;omega)
def Lc:R2:=fun x y H Q=> ∃ i j,x= .str i/\y= .str j/\Asc i/\Asc j/\i.length<=1000/\j.length<=1000/\∀ y:Str,y.length=i.length + j.length->Asc y->Q (.str y) H
theorem UW:OpR X (binaryOp .Add) Lc:=fun pins s U H x y v u Q I rx ry ⟨i,j,e1,e2,a,b,l,m,q⟩=>by
 have:(2000:Nat)<=sizeLine:=by decide
 exact Vv pins s U H x y v u Q I rx ry ⟨i,j,e1,e2,by omega,q _ (strLen_append _ _) (a.app b)⟩
def IW(p:V->Prop)(xs:List V):Prop:= ∀ v∈xs,p v
theorem TU{p:V->Prop}{xs:List V}{i:Int}(h:IW p xs)(h1:0<=i)(h2:i < xs.length):∃ v,atI xs i=some v/\p v:=by
 obtain ⟨v,hv,e⟩:=LE (xs:=xs) (i:=i) (by omega) h2;exact ⟨v,e,h v hv⟩
end
end L2
namespace K4
open PySem L2
section
def BZ:Sp:=fun vs H Q _=> ∃ (x:Str) (k:Int) (m:Nat),vs= [.str x, .int k]/\Asc x/\x.length<=m/\9<=m/\m<=19/\0<=k/\k < 5/\∀ y H',Asc y->y.length<=m + 1->Same H H'->Q (.str y) H'
theorem Ig:Za ["word","way","flipped"] ["word","way"] (ZJ Br):=Zu
theorem Kj(B:Blt mg)(F:Fun K "_law_bad_word" "_law_bad_word" Br f fd):ZQ P w K mg base CX0 (n + 1) f fd ["word","way"] BZ:=by
 refine F.oq Ig fun cdv A outer s H vs Q E hr h=>?_;obtain ⟨x,k,m,rfl,ax,lx,m9,m19,k0,k5,q⟩:=h;refine ⟨_,ZA (ZM 2 Ig.nd (ZT Zh (Zp (pa2 (R9 PySem.F.plainAttrs_str PySem.F.slot_str_upper PySem.F.type_str_upper Dq (pv 0)) (R9 PySem.F.plainAttrs_str PySem.F.slot_str_lower PySem.F.type_str_lower Dr (pv 0))))
   (Zm BL rfl B.int U7 (pa1 (R9 PySem.F.plainAttrs_str PySem.F.slot_str_isupper PySem.F.type_str_isupper MF (pv 0))))))
  (ZF (ZV (ZT Zh (Zp (pa5 ZY (ZX UW (pv 0) (ZX FM ZY (ZX Va ZD (ZU Vd rfl B.len PySem.boot_len (pa1 (pv 0)))))) (ZX UW (Z3 Gd (pv 0) YW (YE (Mw W7 ZD))) ZY) (pv 2) (ZX UW ZY (Z3 Gd (pv 0) (YE ZD) YW)))) (pv 1)))),?_⟩
 show let a:=_;ZK _ a _ _ _
 intros
 have ls:x.length<=sizeLine:=PF (ZI (by omega));have x1000:x.length<=1000:=by omega
 have a1:Asc (Str.ofString "1"):=WS (by decide +kernel);have a2:Asc (Str.ofString " "):=WS (by decide +kernel);have a3:Asc (Str.ofString "a"):=WS (by decide +kernel);have n1:(Str.ofString "1").length=1:=by decide
 have n2:(Str.ofString " ").length=1:=by decide
 have n3:(Str.ofString "a").length=1:=by decide
 refine ⟨rfl,x,rfl,rfl,ax,x1000,fun u1 lu1 au1=>?_⟩;refine ⟨rfl,x,rfl,rfl,ax,x1000,fun u2 lu2 au2=>?_⟩;refine ⟨sl 2,fun p1 hp1=>?_⟩;refine up_in hp1 _ fun H1 s1 g1=>?_;refine ⟨rfl,x,rfl,rfl,fun b=> .inr ⟨b,rfl,?_⟩⟩
 have pick:∃ u:Str,u.length=x.length/\Asc u/\atI [V.str u1,V.str u2] (if b=true then 1 else 0)=some (V.str u):=by
  cases b
  .exact ⟨u1,lu1,au1,rfl⟩
  .exact ⟨u2,lu2,au2,rfl⟩
 obtain ⟨u,lu,au,eu⟩:=pick;refine ⟨_,_,SqL.of g1,eu,?_⟩;refine ⟨x,rfl,ls,?_⟩;refine ⟨_,_,rfl,rfl,a3,n3,by omega,by omega,fun z lz az=>⟨x,z,rfl,rfl,ax,az,x1000,by omega,fun w1 lw1 aw1=>?_⟩⟩;refine ⟨_,rfl,_,rfl,x,rfl,ax,x1000,fun y2 l2 b2=>⟨y2,_,rfl,rfl,b2,a1,by omega,by omega,fun w2 lw2 aw2=>?_⟩⟩;refine ⟨_,rfl,x,rfl,ax,x1000,fun y4 l4 b4=>⟨_,y4,rfl,rfl,a2,b4,by omega,by omega,fun w4 lw4 aw4=>?_⟩⟩
 have all:IW (fun v=> ∃ y,v= .str y/\Asc y/\y.length<=m + 1) [V.str (Str.ofString ""),V.str w1,V.str w2,V.str u,V.str w4]:=fun v hv=>by
  simp only [O8,List.not_mem_nil,or_false] at hv;rcases hv with rfl | rfl | rfl | rfl | rfl
  .exact ⟨_,rfl,WS (by decide +kernel),O7 _⟩
  .exact ⟨_,rfl,aw1,by omega⟩
  .exact ⟨_,rfl,aw2,by omega⟩
  .exact ⟨_,rfl,au,by omega⟩
  .exact ⟨_,rfl,aw4,by omega⟩
 refine ⟨sl 5,fun p2 hp2=>?_⟩;have s2:=ZH hp2 (.lst [V.str (Str.ofString ""),V.str w1,V.str w2,V.str u,V.str w4]);obtain ⟨v,ev,y,rfl,ay,ly⟩:=TU all k0 k5;exact ⟨_,_,SqL.of ZC,ev,q y _ ay ly (s1.trans s2)⟩
end
end K4
namespace L2
open PySem
theorem HasL.drop{H:Hp}:∀ (k:Nat) {ds:List Dat}{xs:List V},HasL H xs ds->HasL H (xs.drop k) (ds.drop k)
 | 0,_,_,h=>h
 | _ + 1, [], [],h=>h
 | _ + 1, [],_::_,h=>by unfold HasL at h;exact h.elim
 | _ + 1,_::_, [],h=>by unfold HasL at h;exact h.elim
 | k + 1,_::_,_::_,h=>by unfold HasL at h;exact HasL.drop k h.2
end L2
namespace K4
open PySem L2
structure PT7(m:Nat)(ps:List (Str × Str)):Prop where
 len:ps.length<=5
 nm:∀ p∈ps,Asc p.1/\p.1.length<=m
 kd:∀ p∈ps,Asc p.2/\p.2.length<=m
structure DT7(m:Nat)(x:Dd):Prop where
 na:Asc x.1.1
 nl:x.1.1.length<=m
 ps:PT7 m x.1.2.1
 kl:x.1.2.2.length<=m
 dep:x.2.dep<=11
 ok:x.2.ok
theorem PT7.up(h:PT7 m ps)(l:m<=n):PT7 n ps:=⟨h.len,fun p hp=>⟨(h.nm p hp).1,O6 (h.nm p hp).2 l⟩,fun p hp=>⟨(h.kd p hp).1,O6 (h.kd p hp).2 l⟩⟩
theorem DT7.up(h:DT7 m x)(l:m<=n):DT7 n x:=⟨h.na,O6 h.nl l,h.ps.up l,O6 h.kl l,h.dep,h.ok⟩
theorem DT7.tx(h:DT7 m x)(l:m<=20):DTx x:=⟨O6 h.nl l,h.ps.len,fun p hp=>O6 (h.ps.nm p hp).2 l,O6 h.kl l,h.dep,h.ok⟩
theorem Ww(xs:List V)(k:Nat)(h:k<=xs.length):JN xs (some (k:Int)) none=xs.drop k:=by
 unfold JN;rw [HT.sIx_none,HT.sIx_nat,Nat.min_eq_left h,PD (by rw [List.length_drop];omega)]
theorem cat_tup{K:W.Frag}{Q:VK}(hx:H a=some (.tup xs))(hy:H b=some (.tup ys))(lx:xs.length<=100)(ly:ys.length<=100)(q:∀ c H',Same H H'->H' c=some (.tup (xs++ ys))->Q (.ref c) H'):
  Tr K (.ref a) (.ref b) H Q \/ Tq K (.ref a) (.ref b) H Q:=by
 cases xs with
 | nil=>exact .inl ⟨a,b,ys,rfl,rfl,SqT.of hx,SqT.of hy,q b H (Same.refl _) hy⟩
 | cons x xs=>
  refine .inr ⟨a,b,x::xs,ys,rfl,rfl,SqT.of hx,SqT.of hy,(fun z=>nomatch z),PF (ZI (by omega)),fun z=>?_,fun _ p hp=>q p _ (ZH hp _) ZC⟩;subst z;exact q a H (Same.refl _) (by rw [List.append_nil];exact hx)
section
def Xv:Sp:=fun vs H Q _=> ∃ (p kl dl:Addr) (xs zs:List V) (ks:List (Str × Shp)) (ds:List Dd) (m:Nat),vs= [.ref p, .ref kl, .ref dl]/\Zo H p/\kl≠p/\dl≠p/\H kl=some (.lst xs)/\HasL H xs (ks.map Yf)/\0 < ks.length/\ks.length<=6/\(∀ k∈ks,k.1.length<=8/\Asc k.1)/\H dl=some (.lst zs)/\HasL H zs (ds.map VR)/\0 < ds.length/\ds.length<=10/\(∀ x∈ds,DT7 m x)/\9<=m/\m<=18/\
 ∀ (r:Addr) (ys:List V) (es:List Dd) (H':Hp),SameB p H H'->Zo H' p->H r=none->r≠p->H' r=some (.lst ys)->HasL H' ys (es.map VR)->es.length=ds.length->(∀ x∈es,DT7 (m + 1) x)->Q (.ref r) H'
theorem YJ:Za ["stream","kinds","definitions","at","name","parameters","kind","body","way","some","words","k","own"] ["stream","kinds","definitions"] (ZJ Gi):=Zu
theorem Li:List.Nodup [("word" :Str),"some"]:=by decide +kernel
theorem Nk(hn:41<=n)(B:Blt mg)(F:Fun K "_law_spoilt" "_law_spoilt" Gi f fd)(DT:Df P w K mg base n "_law_take" ["stream","many"] Yl)(DS:Df P w K mg base n "_law_small" ["stream","many"] JR)(DB:Df P w K mg base n "_law_bad_word" ["word","way"] BZ):ZQ P w K mg base CX0 (n + 1) f fd ["stream","kinds","definitions"] Xv:=by
 refine F.oq YJ fun cdv A outer s H vs Q E hr h=>?_;obtain ⟨p,kl,dl,xs,zs,ks,ds,m,rfl,st,klp,dlp,hkl,hxs,k0,k6,kt,hdl,hzs,d0,d10,dt,m9,m18,q⟩:=h;have hr41:YR (40 + 1) _:=hr.mono hn;refine ⟨_,ZA (ZM 3 YJ.nd (ZZ DT hr (pa2 (pv 0) (ZU ZP rfl B.len PySem.boot_len (pa1 (pv 2))))))
  (ZA (V9 (ZT Zh (pv 2) (pv 3)) (Gx rfl (ZL 4 YJ.nd) (ZL 5 YJ.nd) (ZL 6 YJ.nd) (ZL 7 YJ.nd)))
  (ZA (ZM 8 YJ.nd (ZZ DT hr (pa2 (pv 0) ZD)))
  (ZA (ZM 9 YJ.nd (ZT Zc (ZT Zh (Zm YH rfl B.list Z9 (pa1 (pv 1))) (ZZ DT hr (pa2 (pv 0) (ZU ZP rfl B.len PySem.boot_len (pa1 (pv 1)))))) ZD) (hx:=Or.inr rfl))
  (ZA (Zg (ZN YN (pv 8) ZD (ZW _)) (ZF (ZM 4 YJ.nd (ZZ DB hr (pa2 (pv 4) (ZZ DT hr (pa2 (pv 0) ZD)))))) ZO)
  (ZA (Zg (ZN YN (pv 8) ZD (ZW _)) (ZF (ZM 4 YJ.nd (ZT Zc (ZT Zh (pv 2) (ZZ DT hr (pa2 (pv 0) (ZU ZP rfl B.len PySem.boot_len (pa1 (pv 2)))))) ZD))) ZO)
  (ZA (Zg (ZN YN (pv 8) ZD (ZW _)) (ZF (ZM 6 YJ.nd (ZT Zh (Zp (pa4 (ZX UW (pv 9) ZY) (Z3 Gd (pv 9) YW (YE (Mw W7 ZD))) ZY (pv 9))) (ZZ DT hr (pa2 (pv 0) ZD))))) ZO)
  (ZA (Zg (ZN YN (pv 8) ZD (ZW _)) (ZA (ZM 10 YJ.nd (ZZ DS hr (pa2 (pv 0) ZD)))
    (ZF (ZM 5 YJ.nd (Zm Yq rfl B.tuple Yh (pa1 (Y4 ["word"] [9] (Yk (Z3 V2 (pv 10) YW (YE (ZX YC ZD (ZZ DT hr (pa2 (pv 0) ZD)))))) (YO (i:=0) (by decide)) (fun cl C fp s H=>ZL 0 Li rfl (Or.inl rfl) (Or.inr rfl)) (fun cl C fp s H=>Zi (pa2 (pv 0) (pv 1))))))))) ZO)
  (ZA (Zg (PW.pt (Vo (ZN Vt (pv 8) ZD (ZW _)) (VE (ZN (MC hr41) (pv 5) (Zi YK) (ZW _)))))
   (ZA (ZM 11 YJ.nd (ZZ DT hr (pa2 (pv 0) (ZU ZP rfl B.len PySem.boot_len (pa1 (pv 5))))))
   (ZA (ZM 12 YJ.nd (ZT Zc (pv 5) (pv 11)))
   (ZA (ZM 12 YJ.nd (ZT Zh (Zp (pa3 (Zi (pa2 (ZZ DB hr (pa2 (ZT Zc (pv 12) ZD) (ZZ DT hr (pa2 (pv 0) ZD)))) (ZT Zc (pv 12) ZD))) (Zi (pa2 (ZT Zc (pv 12) ZD) (ZX UW (ZT Zc (pv 12) ZD) ZY))) (Zi (pa2 (ZT Zc (ZT Zc (pv 5) (ZZ DT hr (pa2 (pv 0) (ZU ZP rfl B.len PySem.boot_len (pa1 (pv 5)))))) ZD) (ZT Zc (pv 12) ZD))))) (ZZ DT hr (pa2 (pv 0) ZD))))
   (ZF (ZM 5 YJ.nd (ZX G0 (ZX G0 (Z3 Gc (pv 5) YW (YE (pv 11))) (Zi (pa1 (pv 12)))) (Z3 Gc (pv 5) (YE (ZX YC (pv 11) ZD)) YW))))))) ZO)
  (ZF (ZV (ZX Vu (ZX Vu (Z3 V2 (pv 2) YW (YE (pv 3))) (Zp (pa1 (Zi (pa4 (pv 4) (pv 5) (pv 6) (pv 7)))))) (Z3 V2 (pv 2) (YE (ZX YC (pv 3) ZD)) YW)))))))))))),?_⟩
 dsimp only [Yo,Cx.nox,Cx.wish];show let a:=_;let b:=_;let c:=ZK _ b;let d:=ZK _ c;let e:=ZK _ d;let f:=ZK (Zv _ e _) a;let g:=_;let h:=ZK _ g;let i:=ZK (Zv _ h _) f;let j:=_;let k:=ZK (Zv _ j _) i;let l:=_;let m:=ZK (Zv _ l _) k;let n:=_;let o:=ZK (Zv _ n _) m;let p:=ZK _ o;let q:=ZK _ p;let r:=ZK _ q;ZK _ r _ _ _
 intros
 have tkH:∀ {Hi:Hp},SameB p H Hi->TK H Hi:=fun b=>b.tk st;have lz:=hzs.length;rw [Oh] at lz;have lx:=hxs.length;rw [Oh] at lx;refine ⟨dl,_,rfl, .inl (SqL.of hdl),p,_,rfl,st,by omega,by omega,fun r1 H1 r10 r11 b1 st1=>?_⟩;obtain ⟨i,rfl⟩:∃ i:Nat,r1=i:=⟨r1.toNat,by omega⟩;have il:i < ds.length:=by omega
 have hc:ds[i]?=some ds[i]:=Oi il;have hzi:zs[i]?=some (zs[i]'(by omega)):=Oi (by omega);generalize hdx:ds[i]=dx at hc;generalize hzv:zs[i]'(by omega)=zv at hzi;obtain ⟨dd,hd1,hd2⟩:=hzs.get hzi;rw [On,hc] at hd1;cases hd1;have t7:=dt dx (Oo hc);obtain ⟨ta,u,wv,rfl,hta,hup,hwb⟩:=Ja hd2;have sb1:=b1.sb;refine ⟨_,_,SqL.of (sb1 _ _ dlp hdl),YA hzi,⟨_,SqT.of (tkH sb1 _ _ hta),rfl,?_⟩⟩;refine ⟨p,6,rfl,st1,by decide,by decide,fun way H2 w0 w1 b2 st2=>?_⟩;have sb2:=sb1.trans b2.sb;refine ⟨kl,_,rfl, .inl (SqL.of (sb2 _ _ klp hkl)),fun l hl=>?_⟩;have lp:l≠p:=st2.ne hl;have sbL:=sb2.trans (show SameB p H2 (upd H2 l (.lst xs)) from fun b o _ e=>by rw [ZE (ZG e hl)];exact e);have stL:Zo (upd H2 l (.lst xs)) p:=st2.keep (by rw [ZE (Ne.symm lp)]);have gL:upd H2 l (.lst xs) l=some (.lst xs):=ZC;generalize upd H2 l (.lst xs)=HL at sbL stL gL |-;refine ⟨kl,_,rfl, .inl (SqL.of (sbL _ _ klp hkl)),p,_,rfl,stL,by omega,by omega,fun r3 H3 r30 r31 b3 st3=>?_⟩;obtain ⟨j,rfl⟩:∃ j:Nat,r3=j:=⟨r3.toNat,by omega⟩;have hxj:xs[j]?=some (xs[j]'(by omega)):=Oi (by omega);generalize xs[j]'(by omega)=xv at hxj;obtain ⟨dk,hk1,hk2⟩:=hxs.get hxj;rw [On,Oi (show j < ks.length by omega)] at hk1;generalize hkk:ks[j]'(by omega)=kk at hk1;cases hk1;obtain ⟨ka,kv2,rfl,hka,_⟩:=Vy (y:=kk.1) (s:=kk.2) hk2;have kkt:kk.1.length<=8/\Asc kk.1:=kt kk (hkk ▸ List.getElem_mem _);have sb3:=sbL.trans b3.sb;refine ⟨_,_,SqL.of (b3.sb _ _ lp gL),YA hxj,_,_,SqT.of (tkH sb3 _ _ hka),rfl,?_⟩
 let M:Nat->St->Hp->Prop:=fun b U H1=> ∃ (nm kd:Str) (ps:List (Str × Str)) (pw:V) (z10 z11 z12:Option V),SameB p H H1/\Zo H1 p/\Asc nm/\nm.length<=m + 1/\kd.length<=m + 1/\PT7 b ps/\Has H1 pw (psD ps)/\
  U= [some (.ref p),some (.ref kl),some (.ref dl),some (.int (i:Nat)),some (.str nm),some pw,some (.str kd),some wv,some (.int way),some (.str kk.1),z10,z11,z12]
 have hupT:∀ {Hi:Hp},SameB p H Hi->Has Hi u (psD dx.1.2.1):=fun b=>YU (tkH b) _ (by unfold psD;unfold Dat.st;exact VU _) hup;dsimp only [YZ];refine YS (M m) ?_ fun N1 k1=>?_
 case refine_2=>
  refine ⟨rfl,_,rfl,?_⟩;refine Yc (fun c0=>?_) (fun c0=>?_)
  .refine ⟨p,5,rfl,st3,by decide,by decide,fun r4 H4 r40 r41 b4 st4=>?_⟩
   exact ⟨dx.1.1,r4,m,rfl,t7.na,t7.nl,m9,by omega,r40,r41,fun y H5 ay ly s5=>k1 _ _ ⟨y,dx.1.2.2,dx.1.2.1,u,_,_,_,(sb3.trans b4.sb).trans (s5.sb),st4.sm s5,ay,ly,Nat.le_succ_of_le t7.kl,t7.ps,hupT ((sb3.trans b4.sb).trans s5.sb),rfl⟩⟩
  .exact k1 _ _ ⟨dx.1.1,dx.1.2.2,dx.1.2.1,u,_,_,_,sb3,st3,t7.na,Nat.le_succ_of_le t7.nl,Nat.le_succ_of_le t7.kl,t7.ps,hupT sb3,rfl⟩
 rintro σ1 Ha ⟨nm,kd,ps,pw,z10,z11,z12,sa,sta,na,nl,kdl,pt,hpw,rfl⟩;have keepP:∀ {Hi Hj:Hp}{v:V}{ps:List (Str × Str)},SameB p Hi Hj->Zo Hi p->Has Hi v (psD ps)->Has Hj v (psD ps):=fun b s h=>YU (b.tk s) _ (by unfold psD;unfold Dat.st;exact VU _) h;refine YS (M m) ?_ fun N2 k2=>?_
 case refine_2=>
  refine ⟨rfl,_,rfl,?_⟩;refine Yc (fun c0=>?_) (fun c0=>k2 _ _ ⟨nm,kd,ps,pw,_,_,_,sa,sta,na,nl,kdl,pt,hpw,rfl⟩);refine ⟨dl,_,rfl, .inl (SqL.of (sa _ _ dlp hdl)),p,_,rfl,sta,by omega,by omega,fun r4 H4 r40 r41 b4 st4=>?_⟩;obtain ⟨j2,rfl⟩:∃ j:Nat,r4=j:=⟨r4.toNat,by omega⟩;have hzj:zs[j2]?=some (zs[j2]'(by omega)):=Oi (by omega);generalize zs[j2]'(by omega)=z2 at hzj;obtain ⟨dd,hd1,hd3⟩:=hzs.get hzj;rw [On] at hd1;obtain ⟨d2,hc2,rfl⟩:=PJ.mp hd1;obtain ⟨t2,_,_,rfl,ht2,_,_⟩:=Ja hd3;have t72:=dt d2 (Oo hc2);have s4:=sa.trans b4.sb;exact ⟨_,_,SqL.of (s4 _ _ dlp hdl),YA hzj,_,_,SqT.of (tkH s4 _ _ ht2),rfl,k2 _ _ ⟨d2.1.1,kd,ps,pw,_,_,_,s4,st4,t72.na,Nat.le_succ_of_le t72.nl,kdl,pt,keepP b4.sb sta hpw,rfl⟩⟩
 clear sa sta na nl kdl pt hpw;rintro σ2 Hb ⟨nm,kd,ps,pw,z10,z11,z12,sa,sta,na,nl,kdl,pt,hpw,rfl⟩;have a3:Asc (Str.ofString "a"):=WS (by decide +kernel);have n3:(Str.ofString "a").length=1:=by decide
 obtain ⟨kl8,kas⟩:=kkt;refine YS (M m) ?_ fun N3 k3=>?_
 case refine_2=>
  refine ⟨rfl,_,rfl,?_⟩;refine Yc (fun c0=>?_) (fun c0=>k3 _ _ ⟨nm,kd,ps,pw,_,_,_,sa,sta,na,nl,kdl,pt,hpw,rfl⟩);refine ⟨kk.1,_,rfl,rfl,kas,a3,by omega,by omega,fun w1 lw1 aw1=>?_⟩;refine ⟨_,rfl,_,rfl,kk.1,rfl,kas,by omega,fun w2 lw2 aw2=>?_⟩;refine ⟨sl 4,fun p2 hp2=>?_⟩;have p2p:p2≠p:=sta.ne hp2;refine up_in hp2 _ fun H4 s4 g4=>?_;refine ⟨p,4,rfl,sta.sm s4,by decide,by decide,fun r5 H5 r50 r51 b5 st5=>?_⟩
  have all:IW (fun v=> ∃ y,v= .str y/\y.length<=m + 1) [V.str w1,V.str w2,V.str (Str.ofString "A"),V.str kk.1]:=fun v hv=>by
   simp only [O8,List.not_mem_nil,or_false] at hv;rcases hv with rfl | rfl | rfl | rfl
   .exact ⟨_,rfl,by omega⟩
   .exact ⟨_,rfl,by omega⟩
   .exact ⟨_,rfl,by show 1<=m + 1;omega⟩
   .exact ⟨_,rfl,by omega⟩
  obtain ⟨v,ev,y,rfl,ly⟩:=TU all r50 r51;have s5:=(sa.trans s4.sb).trans b5.sb;exact ⟨_,_,SqL.of (b5.sb _ _ p2p g4),ev,k3 _ _ ⟨nm,y,ps,pw,_,_,_,s5,st5,na,nl,ly,pt,keepP b5.sb (sta.sm s4) (hpw.mono s4),rfl⟩⟩
 clear sa sta na nl kdl pt hpw;rintro σ3 Hc ⟨nm,kd,ps,pw,z10,z11,z12,sa,sta,na,nl,kdl,pt,hpw,rfl⟩;refine YS (M m) ?_ fun N4 k4=>?_
 case refine_2=>
  refine ⟨rfl,_,rfl,?_⟩;refine Yc (fun c0=>?_) (fun c0=>k4 _ _ ⟨nm,kd,ps,pw,_,_,_,sa,sta,na,nl,kdl,pt,hpw,rfl⟩);refine ⟨p,5,rfl,sta,by decide,fun wl ys H4 b4 st4 f4 np4 hwl lys wds=>?_⟩;refine ⟨p,5,rfl,st4,by decide,by decide,fun r5 H5 r50 r51 b5 st5=>?_⟩;obtain ⟨rn,rfl⟩:∃ j:Nat,r5=j:=⟨r5.toNat,by omega⟩;refine ⟨_,rfl,wl,_,rfl,SqL.of (b5.sb _ _ np4 hwl),fun q1 hq1=>?_⟩;have ly:(ys.map V.str).length=5:=by rw [Oh];exact lys
  have e1:JN (ys.map V.str) none (some (1 + (rn:Int)))=(ys.take (1 + rn)).map V.str:=by
   rw [show (1 + (rn:Int))=((1 + rn:Nat):Int) by omega,Vz _ _ (by omega),List.map_take]
  rw [e1];have q1p:q1≠p:=st5.ne hq1;refine up_in hq1 _ fun H6 s6 g6=>?_
  have w5:∀ y∈ys.take (1 + rn),Asc y/\y.length<=m:=fun y hy=>by
   have my:=PK hy;have l8:=(wds.len y my).2;exact ⟨fun c hc=>by have:=wds.abc y my c hc;omega,by omega⟩
  have lt5:(ys.take (1 + rn)).length<=5:=by rw [Ou];omega
  generalize ys.take (1 + rn)=vs at g6 w5 lt5;refine ⟨⟨_,SqL.of g6⟩,YQ vs.length (ZI (by omega)) (fun j us H3=>Same H6 H3/\us.length=j/\HasL H3 us ((vs.take j).map fun x=>Dat.tup [.str x, .str kk.1])) ⟨Same.refl _,rfl,HasL.nil⟩ (fun j us H3 z=>z.2.1) ?_ ?_ ?_ ?_⟩
  .intro j us H3 hj z
   exact ⟨_,V.str vs[j],SqL.of (z.1 _ _ g6),by rw [On,Oi hj];rfl⟩
  .intro us H3 z
   exact ⟨_,SqL.of (z.1 _ _ g6),by rw [Oh];exact Om _⟩
  .intro j us H3 x H4' R hj z yl hR
   obtain ⟨rfl,yy⟩:=yl;have ex:=yy _ (SqL.of (z.1 _ _ g6));rw [On] at ex;obtain ⟨x',hx',rfl⟩:=PJ.mp ex;refine ⟨sl 2,fun t ht=>?_⟩;have s7:=ZH ht (.tup [.str x', .str kk.1]);refine hR _ _ ⟨z.1.trans s7,by rw [Os,z.2.1];rfl,?_⟩;rw [take_snoc hx',Oq];exact HasL.append (z.2.2.mono s7) (HasL.one (Zk ZC (HasL.cons Zn (HasL.one Zn))))
  .intro us H3 p2 z hp2
   refine ⟨p2,_,rfl, .inl ⟨SqL.of ZC,fun l hl=>k4 _ _ ⟨nm,kd,vs.map fun x=>(x,kk.1), .ref l,_,_,_,?_,?_,na,nl,kdl,⟨by rw [Oh];exact lt5,fun q hq=>?_,fun q hq=>?_⟩,?_,rfl⟩⟩⟩
   .exact (((sa.trans b4).trans b5.sb).trans ((s6.trans z.1).trans ((ZH hp2 _).trans (ZH hl _))).sb)
   .exact st5.sm ((s6.trans z.1).trans ((ZH hp2 _).trans (ZH hl _)))
   .obtain ⟨x,hx,rfl⟩:=O1.mp hq
    exact w5 x hx
   .obtain ⟨x,hx,rfl⟩:=O1.mp hq
    exact ⟨kas,(show kk.1.length<=m by omega)⟩
   .unfold psD
    refine Zk ZC ?_;have zz:=z.2.2;rw [PD (Om _)] at zz;rw [List.map_map];exact zz.mono ((ZH hp2 _).trans (ZH hl _))
 clear sa sta na nl kdl pt hpw;rintro σ4 Hd ⟨nm,kd,ps,pw,z10,z11,z12,sa,sta,na,nl,kdl,pt,hpw,rfl⟩;refine YS (M (m + 1)) ?_ fun N5 k5=>?_
 case refine_2=>
  refine ⟨_,rfl,?_⟩;refine Yc (fun c0=>?_) (fun c0=>k5 _ _ ⟨nm,kd,ps,pw,_,_,_,sa,sta,na,nl,kdl,pt.up (Nat.le_succ _),hpw,rfl⟩);refine ⟨sl 0,fun t0 ht0=>?_⟩;refine up_in ht0 _ fun H0 s0 g0=>?_;have hpw0:=hpw.mono s0;have sa0:=sa.trans s0.sb;have st0:=sta.sm s0;refine ⟨psD ps, .tup [],hpw0,Zk g0 HasL.nil,?_,_,rfl,?_⟩
  .unfold psD
   exact (Jb (m:=1) (fun d hd=>by
    obtain ⟨p,_,rfl⟩:=O1.mp hd;exact Uz (Vb _) (Vb _)) (by rw [Oh];have:=pt.len;omega)).up (by decide) |>.1
  refine Yc (fun c1=>?_) (fun c1=>k5 _ _ ⟨nm,kd,ps,pw,_,_,_,sa0,st0,na,nl,kdl,pt.up (Nat.le_succ _),hpw0,rfl⟩)
  have l1:0 < ps.length:=by
   cases ps with
   | nil=>exact absurd c1 (by simp [psD,Dat.pq,Dat.pqs])
   | cons _ _=>exact Nat.succ_pos _
  have l5:=pt.len;have hpw1:=hpw0;unfold psD at hpw1;obtain ⟨pa,xs2,rfl,hpa,hx2⟩:=Yg hpw1;have lx2:=hx2.length;rw [Oh] at lx2;refine ⟨pa,_,rfl, .inr (SqT.of hpa),p,_,rfl,st0,by omega,by omega,fun r5 H5 r50 r51 b5 st5=>?_⟩;obtain ⟨j5,rfl⟩:∃ j:Nat,r5=j:=⟨r5.toNat,by omega⟩;have tk5:=b5.sb.tk st0;have hx5:xs2[j5]?=some (xs2[j5]'(by omega)):=Oi (by omega);generalize xs2[j5]'(by omega)=x5 at hx5;obtain ⟨q5,t5,hq5,rfl,ht5⟩:=UH hx2 hx5;have nq:=pt.nm q5 (Oo hq5);have kq:=pt.kd q5 (Oo hq5);have hpa5:=tk5 _ _ hpa;have ht55:=tk5 _ _ ht5;refine ⟨_,_,SqT.of hpa5,YA hx5,?_⟩;refine ⟨_,_,SqT.of ht55,rfl,p,5,rfl,st5,by decide,by decide,fun r6 H6 r60 r61 b6 st6=>?_⟩;have tk6:=b6.sb.tk st5;refine ⟨q5.1,r6,m,rfl,nq.1,nq.2,m9,by omega,r60,r61,fun y H7 ay ly s7=>?_⟩;have ht7:=s7 _ _ (tk6 _ _ ht55);have hpa7:=s7 _ _ (tk6 _ _ hpa5);have st7:=st6.sm s7;refine ⟨_,_,SqT.of ht7,rfl,sl 2,fun t1 ht1=>?_⟩;refine up_in ht1 _ fun H8 s8 g8=>?_;refine ⟨_,_,SqT.of (s8 _ _ ht7),rfl,_,_,SqT.of (s8 _ _ ht7),rfl,q5.2,_,rfl,rfl,kq.1,a3,by omega,by omega,fun w2 lw2 aw2=>⟨sl 2,fun t2 ht2=>?_⟩⟩;refine up_in ht2 _ fun H9 s9 g9=>?_;have s79:=s8.trans s9;refine ⟨pa,_,rfl, .inr (SqT.of (s79 _ _ hpa7)),p,_,rfl,st7.sm s79,by omega,by omega,fun r10 HA r100 r101 bA stA=>?_⟩;obtain ⟨jA,rfl⟩:∃ j:Nat,r10=j:=⟨r10.toNat,by omega⟩;have tkA:=bA.sb.tk (st7.sm s79);have hxA:xs2[jA]?=some (xs2[jA]'(by omega)):=Oi (by omega);generalize xs2[jA]'(by omega)=xA at hxA;obtain ⟨qA,tA,hqA,rfl,htA⟩:=UH hx2 hxA;have nqA:=pt.nm qA (Oo hqA);have htA':=tkA _ _ (s79 _ _ (s7 _ _ (tk6 _ _ (tk5 _ _ htA))));refine ⟨_,_,SqT.of (tkA _ _ (s79 _ _ hpa7)),YA hxA,_,_,SqT.of htA',rfl,_,_,SqT.of (tkA _ _ (s79 _ _ ht7)),rfl,sl 2,fun t3 ht3=>?_⟩;refine up_in ht3 _ fun HB sB gB=>?_;refine ⟨sl 3,fun l3 hl3=>?_⟩;have l3p:l3≠p:=(stA.sm sB).ne hl3;refine up_in hl3 _ fun HC sC gC=>?_;have sBC:=sB.trans sC;refine ⟨p,3,rfl,stA.sm sBC,by decide,by decide,fun r11 HD r110 r111 bD stD=>?_⟩;have tkD:=bD.sb.tk (stA.sm sBC)
  have all:IW (fun v=> ∃ t e g,v= .ref t/\HD t=some (.tup [.str e, .str g])/\(Asc e/\e.length<=m + 1)/\Asc g/\g.length<=m + 1) [V.ref t1,V.ref t2,V.ref t3]:=fun v hv=>by
   simp only [O8,List.not_mem_nil,or_false] at hv;rcases hv with rfl | rfl | rfl
   .exact ⟨_,_,_,rfl,tkD _ _ (sBC _ _ (tkA _ _ (s9 _ _ g8))),⟨ay,ly⟩,kq.1,by omega⟩
   .exact ⟨_,_,_,rfl,tkD _ _ (sBC _ _ (tkA _ _ g9)),⟨nq.1,by omega⟩,aw2,by omega⟩
   .exact ⟨_,_,_,rfl,tkD _ _ (sC _ _ gB),⟨nqA.1,by omega⟩,kq.1,by omega⟩
  obtain ⟨v,ev,tO,eO,gO,rfl,hO,nO,kO⟩:=TU all r110 r111;refine ⟨_,_,SqL.of (bD.sb _ _ l3p gC),ev,?_⟩;have hpaD:=tkD _ _ (sBC _ _ (tkA _ _ (s79 _ _ hpa7)))
  have hx2D:HasL HD xs2 (ps.map fun p=>Dat.tup [.str p.1, .str p.2]):=by
   have z:HasL H6 xs2 (ps.map fun p=>Dat.tup [.str p.1, .str p.2]):=Zj tk6 _ (VU ps) (Zj tk5 _ (VU ps) hx2);exact Zj tkD _ (VU ps) ((Zj tkA _ (VU ps) ((z.mono s7).mono s79)).mono sBC)
  have saD:=((((sa0.trans b5.sb).trans b6.sb).trans (s7.trans s79).sb).trans bA.sb).trans (sBC.sb.trans bD.sb);refine ⟨_,rfl,pa,xs2,rfl,SqT.of hpaD,?_,fun q1 hq1=>?_⟩
  .rw [HT.sIx_none,HT.sIx_nat];omega
  rw [Vz _ _ (by omega)];refine up_in hq1 _ fun HE sE gE=>?_;refine ⟨sl 1,fun t6 ht6=>?_⟩;refine up_in ht6 _ fun HF sF gF=>?_;refine cat_tup (sF _ _ gE) gF (by rw [Ou];omega) (by show 1<=100;decide) fun c1' HG sG gG=>?_;have sDG:=(sE.trans sF).trans sG;refine ⟨_,rfl,pa,xs2,rfl,SqT.of (sDG _ _ hpaD),?_,fun q2 hq2=>?_⟩
  .rw [show ((j5:Int) + 1)=((j5 + 1:Nat):Int) by omega,HT.sIx_nat];omega
  rw [show ((j5:Int) + 1)=((j5 + 1:Nat):Int) by omega,Ww _ _ (by omega)];refine up_in hq2 _ fun HI sI gI=>?_;refine cat_tup (sI _ _ gG) gI (by rw [Os,Ou];show _ + 1<=100;omega) (by rw [List.length_drop];omega) fun c2 HJ sJ gJ=>?_;have sDJ:=(sDG.trans sI).trans sJ;have hx2J:=hx2D.mono sDJ;refine k5 _ _ ⟨nm,kd,ps.take j5++ [(eO,gO)]++ ps.drop (j5 + 1), .ref c2,_,_,_,saD.trans sDJ.sb,stD.sm sDJ,na,nl,kdl,⟨?_,fun q hq=>?_,fun q hq=>?_⟩,?_,rfl⟩
  .rw [Os,Os,Ou,List.length_drop];show _ + 1 + _<=5;omega
  .rcases O2.mp hq with hq | hq
   .rcases O2.mp hq with hq | hq
    .have:=pt.nm q (PK hq);exact ⟨this.1,by omega⟩
    .rw [Ox.mp hq];exact nO
   .have:=pt.nm q (List.mem_of_mem_drop hq);exact ⟨this.1,by omega⟩
  .rcases O2.mp hq with hq | hq
   .rcases O2.mp hq with hq | hq
    .have:=pt.kd q (PK hq);exact ⟨this.1,by omega⟩
    .rw [Ox.mp hq];exact kO
   .have:=pt.kd q (List.mem_of_mem_drop hq);exact ⟨this.1,by omega⟩
  .unfold psD
   refine Zk gJ ?_;rw [Oq,Oq,List.map_take,List.map_drop];exact HasL.append (HasL.append (hx2J.take j5) (HasL.one (Zk (sDJ _ _ hO) (HasL.cons Zn (HasL.one Zn))))) (hx2J.drop (j5 + 1))
 clear sa sta na nl kdl pt hpw;rintro σ5 He ⟨nm,kd,ps,pw,z10,z11,z12,sa,sta,na,nl,kdl,pt,hpw,rfl⟩;have hzE:=Zj (tkH sa) _ (Jc ds) hzs;have hwE:=YU (tkH sa) _ (Bd.st dx.2) hwb;refine ⟨_,rfl,dl,zs,rfl,SqL.of (sa _ _ dlp hdl),fun q1 hq1=>?_⟩;rw [Vz _ _ (by omega)];refine up_in hq1 _ fun HE sE gE=>?_;refine ⟨sl 4,fun t6 ht6=>?_⟩;refine up_in ht6 _ fun HF sF gF=>?_;refine ⟨sl 1,fun l6 hl6=>?_⟩;refine up_in hl6 _ fun HG sG gG=>?_;refine ⟨q1,l6,_,_,rfl,rfl,sG _ _ (sF _ _ gE),gG,PF (ZI (by rw [Ou];show _ + 1<=1000;omega)),fun l7 hl7=>?_⟩;refine up_in hl7 _ fun HI sI gI=>?_;have sEI:=((sE.trans sF).trans sG).trans sI;refine ⟨_,rfl,dl,zs,rfl,SqL.of (sEI _ _ (sa _ _ dlp hdl)),fun q2 hq2=>?_⟩;rw [show ((i:Int) + 1)=((i + 1:Nat):Int) by omega,Ww _ _ (by omega)];refine up_in hq2 _ fun HJ sJ gJ=>?_;refine ⟨l7,q2,_,_,rfl,rfl,sJ _ _ gI,gJ,PF (ZI (by rw [Os,Ou,List.length_drop];show _ + 1 + _<=1000;omega)),fun l8 hl8=>?_⟩;have sK:=ZH hl8 (.lst (zs.take i++ [.ref t6]++ zs.drop (i + 1)));have sEK:=(sEI.trans sJ).trans sK;have l8p:l8≠p:=((sta.sm sEI).sm sJ).ne hl8;have hzK:=hzE.mono sEK;refine q l8 _ (ds.take i++ [((nm,ps,kd),dx.2)]++ ds.drop (i + 1)) _ (sa.trans sEK.sb) (sta.sm sEK) ?_ l8p ZC ?_ ?_ fun x hx=>?_
 .exact (sa.trans (sEI.trans sJ).sb).free l8p hl8
 .rw [Oq,Oq,List.map_take,List.map_drop]
  refine HasL.append (HasL.append (hzK.take i) (HasL.one ?_)) (hzK.drop (i + 1));exact Zk (sK _ _ (sJ _ _ (sI _ _ (sG _ _ gF)))) (HasL.cons Zn (HasL.cons (hpw.mono sEK) (HasL.cons Zn (HasL.one (hwE.mono sEK)))))
 .rw [Os,Os,Ou,List.length_drop];show _ + 1 + _=_;omega
 .rcases O2.mp hx with hx | hx
  .rcases O2.mp hx with hx | hx
   .exact (dt x (PK hx)).up (Nat.le_succ _)
   .rw [Ox.mp hx]
    exact ⟨na,nl,pt,kdl,t7.dep,t7.ok⟩
  .exact (dt x (List.mem_of_mem_drop hx)).up (Nat.le_succ _)
end
end K4
namespace L2
open PySem PySem.Spec PyProof.Rows
section
variable{X:Cx}{CX:CXT}{k:Nat}{f C:Addr}{fd:FuncData}{ps:List Str}{sp:Sp}{dvs:List V}{ds:List Value}{E:St->XK}{x:Str}{p pos:Pos}{e:Expr}{es:List Expr}{t:TA}
def RY(C:Addr)(sp:Sp)(dvs:List V)(E:St->XK)(t:TA):TE:=fun U H Q=>t U H fun vs H1=> ∀ x dx,H1 x=none->H1 dx=none->dx≠x->sp (.ref x::(vs++ dvs)) (upd (upd H1 dx (.own x)) x (.ins C dx [])) (fun v H2=>v= .non/\Q (.ref x) H2) (E U)
theorem Nb{pins:List (Addr × Obj)}{U:St}{H:Hp}{s:Shared}{Q:VK}{us:List Value}{vs:List V}(M:Mk X.K C f)(F:ZQ X.prog X.w X.K X.mg X.base CX k f fd ps sp)(hr:YR (k + 1) X.A)(hb:Binds X.K fd ps ds)(hd:Vals dvs ds)(hx:∀ U,Xp CX X U (E U))(I:Inv X pins U H s)(r:Vals vs us)(h:∀ x dx,H x=none->H dx=none->dx≠x->sp (.ref x::(vs++ dvs)) (upd (upd H dx (.own x)) x (.ins C dx [])) (fun v H2=>v= .non/\Q (.ref x) H2) (E U)):
  wpAny (model X.prog X.w) X.A (call (.ref C) us) (EP X pins U Q) X.xe s:=by
 have hq:=h (s.heap.objs.size + 1) s.heap.objs.size (I.hok.fresh (Nat.le_succ _)) (I.hok.fresh (Om _)) (O9 (Nat.lt_succ_self _));have J:=Inv.made (C:=C) I;have r2:Vals (V.ref (s.heap.objs.size + 1)::(vs++ dvs)) (Value.ref (s.heap.objs.size + 1)::(us++ ds)):= .cons rfl (r.append hd)
 have hl:(Value.ref (s.heap.objs.size + 1)::us++ ds).length=ps.length:=by
  have q:=r2.length;rw [F.len _ _ _ _ hq] at q;exact q.symm
 refine wpAny_call (T9 (f:=f) I.kIn M.makes M.init (beq_iff_eq.mp M.fn) (codeAny_mono (F.run _ X.stack _ _ ⟨Value.ref (s.heap.objs.size + 1)::us, []⟩ (Value.ref (s.heap.objs.size + 1)::(us++ ds)) _ _ (E U) (hr.make C us []) (J.env0.make C us []) (hb _ (Value.ref (s.heap.objs.size + 1)::us) J.kIn hl) r2 hq) fun r s' z=>?_))
 cases r with
 | error e=>exact hx U pins _ _ e s' J z
 | ok fl=>
  cases fl with
  | ret u=>
   obtain ⟨v,H',I3,rv,ev,q3⟩:=J.after z;subst ev;exact ⟨rv,⟨V.ref (s.heap.objs.size + 1),H',I3,rfl,q3⟩⟩
  | next=>exact False.elim z
  | brk=>exact False.elim z
  | cont=>exact False.elim z
theorem Tw(M:Mk X.K C f)(F:ZQ X.prog X.w X.K X.mg X.base CX k f fd ps sp)(hr:YR (k + 1) X.A)(hg:Gl X x)(hm:X.mg x=some (.ref C))(hb:Binds X.K fd ps ds)(hd:Vals dvs ds)(hx:∀ U,Xp CX X U (E U))(ha:PA X (e::es) t)(hdb:(x==("__debug__" :Str))=false:=by decide)(he:starEach (e::es) X.env=(false,eval e X.env)::starEach es X.env:=by rfl)(hpl:(backTo pos (starEach es X.env)).any (·.1)=false:=by rfl):
  PE X (.Call (.Name x p) (e::es) [] pos) (RY C sp dvs E t):=by
 intro pins s U H Q I h;refine wpAny_Call_Name_kw (JZ I hg hm ?_ hdb);refine W.callWith_K (h₀:=X.base) I.ok.mod.kin M.kp (thn (ha pos pins s U H _ I h) fun us s1 ⟨vs,H1,I1,r,q⟩=>⟨I1.kIn,?_⟩) he hpl;exact Nb M F hr hb hd hx I1 r q
end
theorem Tu(K:W.Frag)(h:X.K=K)(he:PE X e ta)(hb:attributeBase e f X.env (eval e X.env)=eval e X.env):PE X (.Attribute e f pos) (IY K ta f):=h ▸ FE he hb
theorem Vq(hg:Gl X x)(hm:X.mg x=some (.ref C))(hd:(x==("__debug__" :Str))=false:=by decide):PE X (.Name x pos) (tC (.ref C)):=Yx (v:= .ref C) hg hm rfl hd
structure XC7(K:W.Frag)(mg:Str->Option Value)(aW c1 c2 c3 NK c5 c6 c7 c8 NB:Addr):Prop where
 mW:mg "WantError" =some (.ref aW)
 m1:mg "Falling" =some (.ref c1)
 m2:mg "NoAsking" =some (.ref c2)
 m3:mg "NoCell" =some (.ref c3)
 m4:mg "NoKinds" =some (.ref NK)
 m5:mg "NoMore" =some (.ref c5)
 m6:mg "NoNote" =some (.ref c6)
 m7:mg "NoRows" =some (.ref c7)
 m8:mg "Torn" =some (.ref c8)
 mB:mg "NoBook" =some (.ref NB)
 mV:mg "ValueError" =none
 handW:Ee K aW
 handB:Ee K NB
 excB:W.ExcC K NB
 excK:W.ExcC K NK
 subB:W.subIn K (.ref NB) (.ref NB)=some true
 subK:W.subIn K (.ref NK) (.ref aW)=some true
 b1:W.kitAny K (.ref NB) ([c1,c2,c3,NK,c5,c6,c7,c8].map Value.ref)=some false
 b2:W.kitOne K (.ref NB) (.ref aW)=some true
 b3:W.kitOne K (.ref NB) (.type "ValueError")=some true
 q1:W.kitOne K (.ref NK) (.ref NK)=some true
 q2:W.kitOne K (.ref NK) (.ref NB)=some false
 hd:W.hasDictIn K NB=true
 fn:W.findIn K (.ref NB) "number" =some none
 fp:W.findIn K (.ref NB) "place" =some none
end L2
namespace K4
open PySem L2
section
variable{C CK aW c1 c2 c3 NK c5 c6 c7 c8 NB fI:Addr}
theorem Dw(kk:KK 30 c d ks)(nd:(ks.map (·.1)).Nodup)(k6:ks.length<=6):DW 38 (.lst (ks.map Yf)):=
 (EJ (m:=3) (fun e he=>by
  obtain ⟨k,hk,rfl⟩:=O1.mp he;unfold Yf;refine Uz ((Vb _).up (by decide)) (KO k.2 fun ts e=>?_);have q:=kk.at (Et nd (y:=k.1) (s:=k.2) hk);rw [e] at q;exact q.2.1) (by rw [Oh];omega)).up (by decide)
theorem Tz{H H8:Hp}{x dx:Addr}{o1 o2:HO}(hx:H x=none)(hd:H dx=none)(s:Same (JW (upd (upd H dx o1) x o2) x) H8):Same H H8:=fun b o e=>s b o (by
 rw [Gy (ZG e hx) (o:=o)];rw [ZE (ZG e hx),ZE (ZG e hd)];exact e)
def Rb:Sp:=fun vs H Q _=> ∃ (kl dl:Addr) (xs zs:List V) (ks:List (Str × Shp)) (c d:Str->Nat) (ds:List Dd),vs= [.ref kl, .ref dl]/\H kl=some (.lst xs)/\HasL H xs (ks.map Yf)/\KK 30 c d ks/\(ks.map (·.1)).Nodup/\KG ks/\0 < ks.length/\ks.length<=6/\H dl=some (.lst zs)/\HasL H zs (ds.map VR)/\ds.length<=10/\(∀ x∈ds,DTx x)/\(∃ k,JF ks c ds k)/\
 ∀ (k:Nat),JF ks c ds k->∀ r H',Same H H'->Has H' (.ref r) (.tup [.int (k:Nat), .non, .bl true])->Q (.ref r) H'
theorem Um:Za ["kinds","definitions","handed","told","e","others"] ["kinds","definitions"] (ZJ Bl):=Zu
theorem FX(hn:41<=n)(hm:m + 1<=n)(B:Blt mg)(XX:XC7 K mg aW c1 c2 c3 NK c5 c6 c7 c8 NB)(F:Fun K "_law_refusal" "_law_refusal" Bl f fd)(Mk':Mk K C gi)(mC:mg "Book" =some (.ref C))(GI:ZQ P w K mg base (CX1 P w) m gi idd ["self","kinds","definitions"] (Ju C CK NK NB))(bI:Binds K idd ["self","kinds","definitions"] []):
  ZQ P w K mg base CX0 (n + 1) f fd ["kinds","definitions"] Rb:=by
 refine F.oq Um fun cdv A outer s H vs Q E hr h=>?_;obtain ⟨kl,dl,xs,zs,ks,c,d,ds,rfl,hkl,hxs,kk,nd,kg,k0,k6,hdl,hzs,d10,tx,fw,q⟩:=h;have hr41:YR (40 + 1) _:=hr.mono hn;have hrm:YR (m + 1) _:=hr.mono hm;refine ⟨_,ZA (ZM 2 Um.nd (Zi (pa2 (Zm YH rfl B.list Z9 (pa1 (pv 0))) (Zm YH rfl B.list Z9 (pa1 (pv 1))))))
  (ZA (ZM 3 Um.nd ZY)
  (ZA (Bw (i:=4) rfl rfl Um.nd rfl rfl rfl XX.mB XX.handB (tb:=fun EX=>Mi (RY C (Ju C CK NK NB) [] EX (YI (tOp (Jm K) (UB 2) (tC (.int 0))) (YI (tOp (Jm K) (UB 2) (tC (.int 1))) Jj))))
    (fun EX pn W hp=>ZF (Ye (Tw Mk' GI hrm rfl mC bI .nil hp (pa2 (ZT Zc (pv 2) ZD) (ZT Zc (pv 2) ZD)))))
    (fun A'=>ZA (ZM 5 Um.nd (ZU (r:=Wg K) JP rfl B.isi Vf (pa2 (pv 4) (Zi (Z5 (Vq rfl XX.m1) (Z5 (Vq rfl XX.m2) (pa6 (Vq rfl XX.m3) (Vq rfl XX.m4) (Vq rfl XX.m5) (Vq rfl XX.m6) (Vq rfl XX.m7) (Vq rfl XX.m8))))))))
     (ZF (ZM 3 Um.nd (Zi (pa3 (Tu K rfl (pv 4) rfl) (Tu K rfl (pv 4) rfl) (JV (ZU (r:=Wg K) JP rfl B.isi Vf (pa2 (pv 4) (Vq rfl XX.mW))) (JV (ZU (r:=Wg K) JP rfl B.isi Vf (pa2 (pv 4) (My (v:= .ty "ValueError") rfl XX.mV PyProof.Rows.Boot.«ValueError» rfl))) (Jp (B2 (pv 5)))))))))))
  (ZA (Zg (ZN (MC hr41) (pv 2) (Zi (pa2 (pv 0) (pv 1))) (ZW _)) (ZF (ZV ZY)) ZO)
  (ZF (ZV (pv 3)))))),?_⟩
 dsimp only [Yo,Cx.nox,Cx.wish];show let a:=_;let b:=_;let c:=ZK (Zv _ b _) a;let d:=ZK _ c;let e:=ZK _ d;ZK _ e _ _ _
 intros
 refine ⟨kl,_,rfl, .inl (SqL.of hkl),fun l1 hl1=>?_⟩;refine up_in hl1 _ fun H1 s1 g1=>?_;refine ⟨dl,_,rfl, .inl (SqL.of (s1 _ _ hdl)),fun l2 hl2=>?_⟩;refine up_in hl2 _ fun H2 s2 g2=>?_;refine ⟨sl 2,fun t3 ht3=>?_⟩;refine up_in ht3 _ fun H3 s3 g3=>?_;have s03:=(s1.trans s2).trans s3;have g13:=s3 _ _ (s2 _ _ g1);have g23:=s3 _ _ g2;refine ⟨_,_,SqT.of g3,rfl,_,_,SqT.of g3,rfl,fun x dx hx hdx ndx=>?_⟩;have sX:Same H3 (upd (upd H3 dx (.own x)) x (.ins C dx [])):=fun b o e=>by rw [ZE (ZG e hx),ZE (ZG e hdx)];exact e
 refine ⟨x,dx,l1,l2,xs,zs,ks, [],c,d,ds,rfl,ZC,sX _ _ g13,by rw [List.append_nil];exact (hxs.mono s03).mono sX,kk,nd,kg,k0,k6,O7 _,(fun e he=>nomatch he),sX _ _ g23,fun z=>absurd rfl z,fun _=>⟨(hzs.mono s03).mono sX,d10,tx,fw,fun k hk H8 e s8' he=>?_⟩⟩;have s8:=Tz hx hdx s8';refine ⟨NB,rfl,XX.subB,fun e' z=>by cases z;exact ⟨_,he⟩,fun ea hea=>?_⟩;have sE:=ZH hea (JM ea NB (some e));have gE:upd H8 ea (JM ea NB (some e)) ea=some (JM ea NB (some e)):=ZC;have he1:=sE _ _ he;generalize upd H8 ea (JM ea NB (some e))=HE at sE gE he1 |-;refine ⟨sl 8,fun t1 ht1=>?_⟩;have sT:=ZH ht1 (.tup [.ref c1, .ref c2, .ref c3, .ref NK, .ref c5, .ref c6, .ref c7, .ref c8]);refine ⟨ea,NB,some e, .ref t1,false,rfl,⟨sT _ _ gE,fun d z=>by cases z;exact ⟨_,sT _ _ he1⟩⟩,XX.excB, .inl ⟨t1, [c1,c2,c3,NK,c5,c6,c7,c8],rfl,ZC,XX.b1⟩,?_⟩;generalize upd HE t1 (.tup [.ref c1, .ref c2, .ref c3, .ref NK, .ref c5, .ref c6, .ref c7, .ref c8])=HU at sT |-;have cU:TV HU ea NB (some e):=⟨sT _ _ gE,fun d z=>by cases z;exact ⟨_,sT _ _ he1⟩⟩;have eU:=sT _ _ he1;refine ⟨NB,e,_, .int (k:Nat),cU.at_,eU,XX.excB,XX.hd,XX.fn,rfl,?_⟩;refine ⟨NB,e,_, .non,cU.at_,eU,XX.excB,XX.hd,XX.fp,rfl,?_⟩;refine ⟨ea,NB,some e, .ref aW,true,rfl,cU,XX.excB, .inr (.inl ⟨aW,rfl,XX.b2⟩),⟨true,rfl,Z7 rfl ?_⟩⟩;refine ⟨ea,NB,some e, .ty "ValueError",true,rfl,cU,XX.excB, .inr (.inr ⟨"ValueError",rfl,XX.b3⟩),⟨true,rfl,Z7 rfl ?_⟩⟩;refine ⟨_,rfl,?_⟩;refine ⟨sl 3,fun t5 ht5=>?_⟩;have s5:=ZH ht5 (.tup [.int (k:Nat), .non, .bl (!false)]);have g5:upd HU t5 (.tup [.int (k:Nat), .non, .bl (!false)]) t5=some (.tup [.int (k:Nat), .non, .bl (!false)]):=ZC;have s35:=((s8.trans sE).trans sT).trans s5;generalize upd HU t5 (.tup [.int (k:Nat), .non, .bl (!false)])=H5 at g5 s35 |-;refine ⟨sl 2,fun t6 ht6=>?_⟩;refine up_in ht6 _ fun H6 s6 g6=>?_;have s36:=s35.trans s6;have s06:=s03.trans s36;have hx6:=hxs.mono s06;have hz6:=hzs.mono s06;refine ⟨.tup [.lst (ks.map Yf), .lst (ds.map VR)], .tup [.lst (ks.map Yf), .lst (ds.map VR)],Zk (s36 _ _ g3) (HasL.cons (YG (s36 _ _ g13) hx6) (HasL.one (YG (s36 _ _ g23) hz6))),
  Zk g6 (HasL.cons (YG (s06 _ _ hkl) hx6) (HasL.one (YG (s06 _ _ hdl) hz6))),((Uz (m:=38) (Dw kk nd k6) (NJ tx (by omega))).up (by decide)).1,_,rfl,?_⟩
 rw [Dat.pq_self];refine Zs (by simp) ?_;exact q k hk t5 _ s06 (Zk (s6 _ _ g5) (HasL.cons (by unfold Has;rfl) (HasL.cons (by unfold Has;rfl) (HasL.one (by unfold Has;rfl)))))
def Xx:Sp:=fun vs H Q _=> ∃ (kl dl:Addr) (xs zs:List V) (ks:List (Str × Shp)) (e:Str × Shp) (c d:Str->Nat),vs= [.ref kl, .ref dl]/\H kl=some (.lst xs)/\HasL H xs ((ks++ [e]).map Yf)/\KK 30 c d ks/\(ks.map (·.1)).Nodup/\KG ks/\0 < ks.length/\ks.length<=6/\e∈ks/\H dl=some (.lst zs)/\∀ H',Same H H'->Q (.bl true) H'
theorem UR:Za ["kinds","definitions","marks","e"] ["kinds","definitions"] (ZJ Gp):=Zu
theorem Np(hn:2<=n)(hm:m + 1<=n)(B:Blt mg)(XX:XC7 K mg aW c1 c2 c3 NK c5 c6 c7 c8 NB)(F:Fun K "_law_kinds_first" "_law_kinds_first" Gp f fd)(Mk':Mk K C gi)(mC:mg "Book" =some (.ref C))(GI:ZQ P w K mg base (CX1 P w) m gi idd ["self","kinds","definitions"] (Ju C CK NK NB))(bI:Binds K idd ["self","kinds","definitions"] []):
  ZQ P w K mg base CX0 (n + 1) f fd ["kinds","definitions"] Xx:=by
 refine F.oq UR fun cdv A outer s H vs Q E hr h=>?_;obtain ⟨kl,dl,xs,zs,ks,e,c,d,rfl,hkl,hxs,kk,nd,kg,k0,k6,em,hdl,q⟩:=h;have hr2:YR (1 + 1) _:=hr.mono hn;have hrm:YR (m + 1) _:=hr.mono hm;refine ⟨_,ZA (ZM 2 UR.nd (Zp YK))
  (ZA (Bw (i:=3) rfl rfl UR.nd rfl rfl rfl XX.mW XX.handW (tb:=fun EX=>Mi (RY C (Ju C CK NK NB) [] EX (YI (tCB (fun xs H Q=> ∃ p ys,xs= [.ref p]/\(SqL K H p ys \/ SqT K H p ys)/\∀ l,H l=none->Q (.ref l) (upd H l (.lst ys))) (YI (UB 0) Jj)) (YI (tCB (fun xs H Q=> ∃ p ys,xs= [.ref p]/\(SqL K H p ys \/ SqT K H p ys)/\∀ l,H l=none->Q (.ref l) (upd H l (.lst ys))) (YI (UB 1) Jj)) Jj))))
    (fun EX pn W hp=>ZF (Ye (Tw Mk' GI hrm rfl mC bI .nil hp (pa2 (Zm YH rfl B.list Z9 (pa1 (pv 0))) (Zm YH rfl B.list Z9 (pa1 (pv 1)))))))
    (fun A'=>ZF (ZM 2 UR.nd (Zp (pa2 (ZU (r:=Wg K) JP rfl B.isi Vf (pa2 (pv 3) (Vq rfl XX.m4))) (ZU (r:=Wg K) JP rfl B.isi Vf (pa2 (pv 3) (Vq rfl XX.mB))))))))
  (ZF (ZV (Yy (X8 hr2) (pv 2) (Zp (pa2 Vr Vr)) (ZW _))))),?_⟩
 dsimp only [Yo,Cx.nox,Cx.wish];show let a:=_;let b:=ZK _ a;ZK _ b _ _ _
 intros
 refine ⟨sl 0,fun ml fml=>?_⟩;have s2:=ZH fml (.lst []);generalize upd H ml (.lst [])=H2 at s2 |-;refine ⟨kl,_,rfl, .inl (SqL.of (s2 _ _ hkl)),fun l1 hl1=>?_⟩;refine up_in hl1 _ fun H3 s3 g3=>?_;refine ⟨dl,_,rfl, .inl (SqL.of (s3 _ _ (s2 _ _ hdl))),fun l2 hl2=>?_⟩;refine up_in hl2 _ fun H4 s4 g4=>?_;have s04:=(s2.trans s3).trans s4;refine fun x dx hx hdx ndx=>?_;have sX:Same H4 (upd (upd H4 dx (.own x)) x (.ins C dx [])):=fun b o e=>by rw [ZE (ZG e hx),ZE (ZG e hdx)];exact e
 refine ⟨x,dx,l1,l2,xs,zs,ks, [e],c,d, [],rfl,ZC,sX _ _ (s4 _ _ g3),(hxs.mono s04).mono sX,kk,nd,kg,k0,k6,Om _,(fun e' he=>by rw [Ox.mp he];exact em),sX _ _ g4,fun _ H8 s8'=>?_,fun z=>nomatch z⟩;have s8:=Tz hx hdx s8';refine ⟨NK,rfl,XX.subK,(fun d z=>nomatch z),fun ea hea=>?_⟩;have sE:=ZH hea (JM ea NK none);have cE:TV (upd H8 ea (JM ea NK none)) ea NK none:=⟨ZC,fun d z=>nomatch z⟩;generalize upd H8 ea (JM ea NK none)=HE at sE cE |-;refine ⟨ea,NK,none, .ref NK,true,rfl,cE,XX.excK, .inr (.inl ⟨NK,rfl,XX.q1⟩),?_⟩;refine ⟨ea,NK,none, .ref NB,false,rfl,cE,XX.excK, .inr (.inl ⟨NB,rfl,XX.q2⟩),?_⟩;refine ⟨sl 2,fun l3 hl3=>?_⟩;refine up_in hl3 _ fun H9 s9 g9=>?_;refine ⟨sl 2,fun l4 hl4=>?_⟩;have s5:=ZH hl4 (.lst [.bl true, .bl false]);have hb:∀ H,HasL H [.bl true, .bl false] [.bl true, .bl false]:=fun H=>HasL.cons (by unfold Has;rfl) (HasL.one (by unfold Has;rfl));refine ⟨.lst [.bl true, .bl false], .lst [.bl true, .bl false],YG (s5 _ _ g9) (hb _),YG ZC (hb _),by decide +kernel,?_⟩;rw [Dat.pq_self];exact q _ ((((s04.trans s8).trans sE).trans s9).trans s5)
end
end K4
namespace L2
open PySem PySem.Spec PyProof.Rows
def tK(d:Dat):TE:=fun _ H Q=> ∀ v H',Same H H'->Has H' v d->Q v H'
def tKs(ds:List Dat):TA:=fun _ H Q=> ∀ vs H',Same H H'->HasL H' vs ds->Q vs H'
structure PK7(X:Cx)(e:Expr)(d:Dat):Prop where
 pe:PE X e (tK d)
structure Eb(X:Cx)(es:List Expr)(ds:List Dat):Prop where
 pa:PA X es (tKs ds)
section
variable{X:Cx}
theorem Yj:Eb X [] []:=⟨fun pos pins s U H Q I q=>YK pos pins s U H Q I (q [] H (Same.refl _) HasL.nil)⟩
theorem Ze{e:Expr}{es:List Expr}{d:Dat}{ds:List Dat}(p:PK7 X e d)(r:Eb X es ds)(hs:starEach (e::es) X.env=(false,eval e X.env)::starEach es X.env:=by rfl):Eb X (e::es) (d::ds):=
 ⟨fun pos pins s U H Q I q=>Z5 p.pe r.pa hs pos pins s U H Q I fun v H1 s1 hv vs H2 s2 hvs=>q (v::vs) H2 (s1.trans s2) (HasL.cons (hv.mono s2) hvs)⟩
theorem Ya{x:Str}{j:Nat}{pos:Pos}:PK7 X (.Constant (.str x) j pos) (.str x):=⟨PE.imp ZY fun U H Q q=>q _ _ (Same.refl _) (by unfold Has;rfl)⟩
theorem VL{es:List Expr}{ds:List Dat}{k:Nat}{pos:Pos}(h:Eb X es ds)(l:ds.length<=1000:=by decide):PK7 X (.Tuple es k pos) (.tup ds):=
 ⟨PE.imp (Zi h.pa) fun U H Q q vs H1 s1 hvs=>⟨by rw [hvs.length];exact PF (ZI l),fun p hp=>q _ _ (s1.trans (ZH hp _)) (Zk ZC (hvs.mono (ZH hp _)))⟩⟩
def tL(ds:List Dat):TE:=fun _ H Q=> ∀ l vs H',Same H H'->H l=none->H' l=some (.lst vs)->HasL H' vs ds->Q (.ref l) H'
structure PL7(X:Cx)(e:Expr)(ds:List Dat):Prop where
 pe:PE X e (tL ds)
theorem EV{es:List Expr}{ds:List Dat}{pos:Pos}(h:Eb X es ds)(l:ds.length<=1000:=by decide):PL7 X (.List es pos) ds:=
 ⟨PE.imp (Zp h.pa) fun U H Q q vs H1 s1 hvs=>⟨by rw [hvs.length];exact PF (ZI l),fun p hp=>q p vs _ (s1.trans (ZH hp _)) (s1.free hp) ZC (hvs.mono (ZH hp _))⟩⟩
structure Bp(X:Cx)(st:Stmt)(t:TS):Prop where
 of:PS X st t
structure Bs(X:Cx)(ss:List Stmt)(t:TS):Prop where
 of:PSs X ss t
theorem Xo{st:Stmt}{ss:List Stmt}{t u:TS}(h1:Bp X st t)(h2:Bs X ss u):Bs X (st::ss) (ZK t u):=⟨ZA h1.of h2.of⟩
theorem Iu{ss:List Stmt}{t:TS}(h:PSs X ss t):Bs X ss t:=⟨h⟩
theorem Iv{ss:List Stmt}{R:TS->Prop}(h:∃ t,Bs X ss t/\R t):∃ t,PSs X ss t/\R t:=let ⟨t,a,b⟩:=h;⟨t,a.of,b⟩
theorem IP{x:Str}{e:Expr}{ds:List Dat}{pos pos':Pos}(i:Nat)(hN:X.N.Nodup)(he:PL7 X e ds)(hi:X.N[i]?=some x:=by exact rfl)(hx:Loc X.env.scope x:=by exact Or.inr rfl)(hs:swapsWith e (some (.Name x pos')) pos.line X.env=pure false:=by rfl)(hf:X.fn x=true \/ X.env.scope.names.lookup x=some .local:=by first | exact .inl rfl | exact .inr rfl):
  Bp X (.Assign [.Name x pos'] e pos) (Tg (tL ds) (YZ i)):=⟨ZM i hN he.pe hi hx hs hf⟩
theorem IQ{x y:Str}{e:Expr}{ds:List Dat}{pos pos' p1 p2:Pos}{tv:TE}(i:Nat)(hN:X.N.Nodup)(hv:PE X (.Name y p1) tv)(he:PL7 X e ds)(hi:X.N[i]?=some x:=by exact rfl)(hx:Loc X.env.scope x:=by exact Or.inr rfl)(hs:swapsWith (.BinOp (.Name y p1) .Add e p2) (some (.Name x pos')) pos.line X.env=pure false:=by rfl)(hf:X.fn x=true \/ X.env.scope.names.lookup x=some .local:=by first | exact .inl rfl | exact .inr rfl):
  Bp X (.Assign [.Name x pos'] (.BinOp (.Name y p1) .Add e p2) pos) (Tg (tOp Lb tv (tL ds)) (YZ i)):=⟨ZM i hN (ZX Vu hv he.pe) hi hx hs hf⟩
theorem IR{y:Str}{e:Expr}{d:Dat}{p1 apos cpos pos:Pos}{tv:TE}(hv:PE X (.Name y p1) tv)(he:PK7 X e d)(hbase:attributeBase (.Name y p1) "append" X.env (eval (.Name y p1) X.env)=eval (.Name y p1) X.env:=by rfl)(hfew:((backTo cpos (starEach [e] X.env)).all (fun x=>!x.1) && (backToKw cpos (keywordEach [] X.env)).all (fun x=>x.1.isSome) && decide ([e].length + ([]:List Keyword).length + (if ([]:List Keyword).isEmpty then 0 else 1) < 30))=true:=by rfl)(hline:(apos.endLine==cpos.line)=true:=by rfl)(hs:starEach [e] X.env=(false,eval e X.env)::starEach [] X.env:=by rfl)(hplain:(backTo cpos (starEach [] X.env)).any (·.1)=false:=by rfl)(hsw:swapsWith (.Call (.Attribute (.Name y p1) "append" apos) [e] [] cpos) none pos.line X.env=pure false:=by rfl):
  Bp X (.Expr (.Call (.Attribute (.Name y p1) "append" apos) [e] [] cpos) pos) (Mi (tBM X.K "list" Mu tv (YI (tK d) Jj))):=
 ⟨Ye (JI PySem.F.plainAttrs_list PySem.F.slot_list_append PySem.F.type_list_append Yp hv (pa1 he.pe hs) hbase hfew hline hs hplain) hsw⟩
theorem Lz{st:Stmt}{t:TS}(h:PS X st t):Bp X st t:=⟨h⟩
end
end L2
namespace K4
open PySem L2
def gks:List (Str × Shp):= [("q", .tags ["QA","QB","QC","QD"]),("qq", .pair "q" "q"),("qx", .tags ["QE","QF"]),("qz", .tags ["QG","QH","QI"]),("qy", .pair "qz" "qz"),("qw", .pair "qx" "qx")]
def gc(y:Str):Nat:=if y="q" then 5 else if y="qq" then 26 else if y="qx" then 3 else if y="qz" then 4 else if y="qy" then 17 else 10
def gd(y:Str):Nat:=if y="qq" \/ y="qy" \/ y="qw" then 1 else 0
theorem gkk:KK 30 gc gd gks:=fun i y s h=>by
 unfold gks at h |-
 match i,h with
 | 0,h=>cases h;exact ⟨by decide,by decide,by decide +kernel,by decide +kernel,by decide +kernel⟩
 | 1,h=>cases h;exact ⟨by decide +kernel,by decide +kernel,by decide +kernel,by decide +kernel,by decide +kernel,by decide +kernel⟩
 | 2,h=>cases h;exact ⟨by decide,by decide,by decide +kernel,by decide +kernel,by decide +kernel⟩
 | 3,h=>cases h;exact ⟨by decide,by decide,by decide +kernel,by decide +kernel,by decide +kernel⟩
 | 4,h=>cases h;exact ⟨by decide +kernel,by decide +kernel,by decide +kernel,by decide +kernel,by decide +kernel,by decide +kernel⟩
 | 5,h=>cases h;exact ⟨by decide +kernel,by decide +kernel,by decide +kernel,by decide +kernel,by decide +kernel,by decide +kernel⟩
 | n + 6,h=>cases h
theorem gnd:(gks.map (·.1)).Nodup:=by decide +kernel
theorem gkg:KG gks:=by
 refine ⟨⟨gnd,by decide +kernel,by decide +kernel⟩,⟨["QA","QB","QC","QD","A","B","C","D","QE","QF","E","F","QG","QH","QI","G"],⟨by decide +kernel,by decide +kernel,by decide +kernel⟩,fun i y ts h=>?_⟩,fun i1 i2 y1 y2 a b h1 h2=>?_⟩
 .unfold gks at h
  match i,h with
  | 0,h=>cases h;exact ⟨3,by decide,rfl⟩
  | 1,h=>cases h
  | 2,h=>cases h;exact ⟨1,by decide,rfl⟩
  | 3,h=>cases h;exact ⟨2,by decide,rfl⟩
  | 4,h=>cases h
  | 5,h=>cases h
  | n + 6,h=>cases h
 .have key:∀ (i j:Nat) (a b:Str),(gks[i]?.map (·.2))=some (.pair a b)->(gks[j]?.map (·.2))=some (.pair a b)->i=j:=fun i j a b h1 h2=>by
   unfold gks at h1 h2
   match i,h1 with
   | 0,h1=>cases h1
   | 1,h1=>cases h1;(match j,h2 with
    | 1,_=>rfl
    | 0,h=>cases h
    | 2,h=>cases h
    | 3,h=>cases h
    | 4,h=>injection h with h;injection h with h _;exact absurd h (by decide +kernel)
    | 5,h=>injection h with h;injection h with h _;exact absurd h (by decide +kernel)
    | n + 6,h=>cases h)
   | 2,h1=>cases h1
   | 3,h1=>cases h1
   | 4,h1=>cases h1;(match j,h2 with
    | 4,_=>rfl
    | 0,h=>cases h
    | 2,h=>cases h
    | 3,h=>cases h
    | 1,h=>injection h with h;injection h with h _;exact absurd h (by decide +kernel)
    | 5,h=>injection h with h;injection h with h _;exact absurd h (by decide +kernel)
    | n + 6,h=>cases h)
   | 5,h1=>cases h1;(match j,h2 with
    | 5,_=>rfl
    | 0,h=>cases h
    | 2,h=>cases h
    | 3,h=>cases h
    | 1,h=>injection h with h;injection h with h _;exact absurd h (by decide +kernel)
    | 4,h=>injection h with h;injection h with h _;exact absurd h (by decide +kernel)
    | n + 6,h=>cases h)
   | n + 6,h1=>cases h1
  exact key i1 i2 a b (by rw [h1];rfl) (by rw [h2];rfl)
section
def GX:Sp:=fun vs H Q _=> ∃ (p:Addr),vs= [.ref p]/\Zo H p/\
 ∀ (r kl dl:Addr) (xs zs:List V) (ds:List Dd) (H':Hp),SameB p H H'->Zo H' p->H' r=some (.tup [.ref kl, .ref dl])->H kl=none->kl≠p->H' kl=some (.lst xs)->HasL H' xs (gks.map Yf)->H dl=none->dl≠p->H' dl=some (.lst zs)->HasL H' zs (ds.map VR)->0 < ds.length->ds.length<=8->(∀ x∈ds,DT7 9 x)->Q (.ref r) H'
theorem Jw:Za ["stream","kinds","found","name","some"] ["stream"] (ZJ Rw):=Zu
theorem Kp:List.Nodup [("k" :Str),"kinds","stream"]:=by decide +kernel
theorem Im:List.Nodup [("k" :Str),"kind"]:=by decide +kernel
theorem Dh(B:Blt mg)(me:mg "enumerate" =none)(F:Fun K "_law_great" "_law_great" Rw f fd)(DT:Df P w K mg base n "_law_take" ["stream","many"] Yl)(DS:Df P w K mg base n "_law_small" ["stream","many"] JR):ZQ P w K mg base CX0 (n + 1) f fd ["stream"] GX:=by
 refine F.oq Jw fun cdv A outer s H vs Q E hr h=>?_;obtain ⟨p,rfl,st,q⟩:=h;refine Iv ⟨_,Xo (IP 1 Jw.nd (EV (Ze (VL (Ze Ya (Ze (VL (Ze Ya (Ze (VL (Ze Ya (Ze Ya (Ze Ya (Ze Ya Yj))))) Yj))) Yj))) (Ze (VL (Ze Ya (Ze (VL (Ze Ya (Ze Ya (Ze Ya Yj)))) Yj))) (Ze (VL (Ze Ya (Ze (VL (Ze Ya (Ze (VL (Ze Ya (Ze Ya Yj))) Yj))) Yj))) Yj)))))
  (Xo (IQ 1 Jw.nd (pv 1) (EV (Ze (VL (Ze Ya (Ze (VL (Ze Ya (Ze (VL (Ze Ya (Ze Ya (Ze Ya Yj)))) Yj))) Yj))) (Ze (VL (Ze Ya (Ze (VL (Ze Ya (Ze Ya (Ze Ya Yj)))) Yj))) Yj))))
  (Xo (IR (pv 1) (VL (Ze Ya (Ze (VL (Ze Ya (Ze Ya (Ze Ya Yj)))) Yj))))
  (Iu (ZA (ZM 2 Jw.nd (Zp YK))
  (ZA (Yb PassesOwn.never rfl (Yk (ZZ DS hr (pa2 (pv 0) (ZX YC ZD (ZZ DT hr (pa2 (pv 0) ZD)))))) (ZL 3 Jw.nd)
   (ZA (Mv (i0:=4) ["k"] [1,0] Jw.nd rfl (Or.inl rfl) (VN rfl B.range (pa1 (ZZ DT hr (pa2 (pv 0) ZD)))) (YO (i:=0) (by decide)) (fun cl C fp s H=>ZL 0 Kp rfl (Or.inl rfl) (Or.inr rfl))
     (fun cl C fp s H=>ZT (r:=Jm K) Zc (ZT (r:=R5 K) Zh (pv 1) (ZZ DT hr (pa2 (pv 2) ZD))) ZD))
   (ZF (Ye (JI PySem.F.plainAttrs_list PySem.F.slot_list_append PySem.F.type_list_append Yp (pv 2) (pa1 (Zi (pa4 (pv 3) (Zm Yq rfl B.tuple Yh (pa1 (Y4 ["k","kind"] [] (Xl rfl me (pa1 (pv 4))) D8 (fun cl C fp s H=>Yr (n:=2) rfl (Zf (ZL 0 Im rfl (Or.inl rfl) (Or.inr rfl)) (Zf (ZL 1 Im rfl (Or.inl rfl) (Or.inr rfl)) YX))) (fun cl C fp s H=>Zi (pa2 (ZT (r:=E7) WE ZY (pv 0)) (pv 1)))))) ZY (Zi (pa2 ZY ZY))))))))))
  (ZF (ZV (Zi (pa2 (pv 1) (pv 2)))))))))),?_⟩
 dsimp only [Yo,Cx.nox,Cx.wish];show let a:=_;let b:=_;let c:=ZK _ b;let d:=ZK (Vg _ _ c) a;let e:=ZK _ d;let f:=ZK _ e;let g:=ZK _ f;ZK _ g _ _ _
 intros
 intro l1 vs1 H1 s1 f1 g1 h1;intro l2 vs2 H2 s2 f2 g2 h2;have n1:=h1.length;have n2:=h2.length;refine ⟨l1,l2,vs1,vs2,rfl,rfl,s2 _ _ g1,g2,PF (ZI (by rw [n1,n2];decide)),fun kl hkl=>?_⟩;refine up_in hkl _ fun H3 s3 g3=>?_;refine ⟨.inl ⟨rfl,_,SqL.of g3⟩,fun v4 H4 s4 h4=>⟨kl,_,v4,rfl,rfl,s4 _ _ g3,ZI (by rw [Os,n1,n2];decide),?_⟩⟩;have f0:H kl=none:=(s1.trans s2).free hkl;have klp:kl≠p:=fun e=>by obtain ⟨_,_,_,_,z⟩:=st;rw [e,z] at f0;cases f0
 have hx5:HasL (upd H4 kl (.lst (vs1++ vs2++ [v4]))) (vs1++ vs2++ [v4]) (gks.map Yf):=by
  have tk:TK H4 (upd H4 kl (.lst (vs1++ vs2++ [v4]))):=Xr (s4 _ _ g3) fun ys z=>nomatch z
  refine Zj tk _ (YB gks) ?_;exact HasL.append (HasL.append (((h1.mono s2).mono s3).mono s4) ((h2.mono s3).mono s4)) (HasL.one h4)
 have s5:Same H (upd H4 kl (.lst (vs1++ vs2++ [v4]))):=(((s1.trans s2).trans s3).trans s4).putN f0;have g5:upd H4 kl (.lst (vs1++ vs2++ [v4])) kl=some (.lst (vs1++ vs2++ [v4])):=ZC;generalize upd H4 kl (.lst (vs1++ vs2++ [v4]))=H5 at hx5 s5 g5 |-;generalize vs1++ vs2++ [v4]=xs at hx5 g5;refine ⟨sl 0,fun fl hfl=>?_⟩;have s6:=ZH hfl (.lst []);have g6:upd H5 fl (.lst []) fl=some (.lst []):=ZC;have f6:H fl=none:=s5.free hfl;have flk:fl≠kl:=fun e=>by rw [e,g5] at hfl;cases hfl
 generalize upd H5 fl (.lst [])=H6 at s6 g6 |-;have s06:=s5.trans s6;have st6:=st.sm s06;have flp:fl≠p:=fun e=>by obtain ⟨_,_,_,_,z⟩:=st;rw [e,z] at f6;cases f6
 refine ⟨p,8,rfl,st6,by decide,by decide,fun r7 H7 r70 r71 b7 st7=>?_⟩;obtain ⟨rn,rfl⟩:∃ m:Nat,r7=m:=⟨r7.toNat,by omega⟩;refine ⟨p,1 + rn,(by show [V.ref p,V.int (1 + (rn:Int))]= [V.ref p,V.int ((1 + rn:Nat):Int)];push_cast;rfl),st7,by omega,fun wl ys H8 b8 st8 f8 np8 hwl lys wds=>?_⟩;refine ⟨⟨_,SqL.of hwl⟩,?_⟩;have sb8:SameB p H H8:=(s06.sb.trans b7.sb).trans b8;have g8:H8 fl=some (.lst []):=b8 _ _ flp (b7.sb _ _ flp g6);have k8:H8 kl=some (.lst xs):=b8 _ _ klp (b7.sb _ _ klp (s6 _ _ g5));have wlf:wl≠fl:=fun e=>by rw [<-e] at g6;rw [b7.sb _ _ np8 g6] at f8;cases f8
 have hx8:HasL H8 xs (gks.map Yf):=Zj (b8.tk st7) _ (YB gks) (Zj (b7.sb.tk st6) _ (YB gks) (hx5.mono s6))
 let I:Nat->St->Hp->Prop:=fun i U Hi=>GB p fl H8 Hi/\Zo Hi p/\∃ (zs:List V) (ds:List Dd) (z3 z4:Option V),Hi fl=some (.lst zs)/\HasL Hi zs (ds.map VR)/\ds.length=i/\(∀ x∈ds,DT7 9 x)/\U= [some (.ref p),some (.ref kl),some (.ref fl),z3,z4]
 refine J3 (xs:=ys.map V.str) I ⟨fun b o _ _ h=>h,st8, [], [],_,_,g8,HasL.nil,rfl,(fun x hx=>nomatch hx),rfl⟩ (fun i U Hi _ z=>SqL.of (z.1 _ _ np8 wlf hwl)) ?_ ?_
 .rintro BB RR i x U Hi hx ⟨gi,sti,zs,ds,z3,z4,hfi,hzi,li,di,rfl⟩
  obtain ⟨nm,hnm,rfl⟩:=Ml hx;have mn:=Oo hnm;have il:=(Ol.mp hnm).1;have tkI:TK H8 Hi:=fun b us h=>gi b _ (Zt st8 h) (fun e=>by rw [e,g8] at h;cases h) h;have kI:Hi kl=some (.lst xs):=gi _ _ klp (Ne.symm flk) k8;have hxI:=Zj tkI _ (YB gks) hx8;have nx:xs.length=6:=by rw [hx8.length];rfl
  refine ⟨p,4,rfl,sti,by decide,by decide,fun r9 H9 r90 r91 b9 st9=>⟨_,rfl,by omega,by omega,?_⟩⟩;have hx9:=Zj (b9.sb.tk sti) _ (YB gks) hxI;have k9:=b9.sb _ _ klp kI;have f9:=b9.sb _ _ flp hfi;have hz9:=Zj (b9.sb.tk sti) _ (Jc ds) hzi;have g89:GB p fl H8 H9:=gi.trans b9.sb.gb;refine YQ r9.toNat (ZI (by omega)) (fun j us Hj=>SameB p H9 Hj/\Zo Hj p/\∃ ws:List Str,us=ws.map V.str/\ws.length=j/\∀ y∈ws,y∈gks.map (·.1)) ⟨SameB.refl _ _,st9, [],rfl,rfl,fun y hy=>nomatch hy⟩
   (fun j us Hj z=>by obtain ⟨_,_,ws,e,l,_⟩:=z;rw [e,Oh,l]) (fun j us Hj hj z=>hj) (fun us Hj z=>Om _) ?_ ?_
  .intro j us Hj x' Hj' R hj z yl hR
   obtain ⟨rfl,rfl⟩:=yl;obtain ⟨zb,zst,ws,rfl,lw,mw⟩:=z;refine ⟨p,6,rfl,zst,by decide,by decide,fun r H3 r0 r1 b s3=>?_⟩;obtain ⟨j6,rfl⟩:∃ m:Nat,r=m:=⟨r.toNat,by omega⟩;have hv:xs[j6]?=some (xs[j6]'(by omega)):=Oi (by omega);generalize xs[j6]'(by omega)=xv at hv;obtain ⟨dk,hk1,hk2⟩:=hx9.get hv;rw [On] at hk1;obtain ⟨kk,hkk,rfl⟩:=PJ.mp hk1;obtain ⟨ka,yk,rfl,hka⟩:=WC kk xv hk2;have zb2:=zb.trans b.sb
   exact ⟨_,_,SqL.of (zb2 _ _ klp k9),YA hv,_,_,SqT.of ((zb2.tk st9) _ _ hka),YA (j:=0) (xs:= .str kk.1::yk) rfl,hR _ _ ⟨zb2,s3,ws++ [kk.1],by rw [Oq];rfl,by rw [Os,lw];rfl,fun y hy=>by
    rcases O2.mp hy with h | h
    .exact mw y h
    .rw [Ox.mp h];exact O1.mpr ⟨kk,Oo hkk,rfl⟩⟩⟩
  intro us HA sm z hsm;obtain ⟨zb,zst,ws,rfl,lw,mw⟩:=z;have smp:sm≠p:=zst.ne hsm;refine up_in hsm _ fun HB sB gB=>?_;have sb9:SameB p H9 HB:=zb.trans sB.sb;have stB:=zst.sm sB;have fB:=sb9 _ _ flp f9;have hzB:=Zj (sb9.tk st9) _ (Jc ds) hz9;have l3:ws.length<=3:=by omega
  refine ⟨.inl ⟨rfl,_,SqL.of fB⟩,?_⟩;refine ⟨sm,false,ws.map V.str,rfl,SqL.of gB,?_⟩;refine YQ ws.length (ZI (by omega)) (fun j us Hj=>Same HB Hj/\us.length=j/\∃ ps:List (Str × Str),HasL Hj us (ps.map fun p=>Dat.tup [.str p.1, .str p.2])/\ps.length=j/\(∀ q∈ps,Asc q.1/\q.1.length<=9)/\∀ q∈ps,Asc q.2/\q.2.length<=9) ⟨Same.refl _,rfl, [],HasL.nil,rfl,(fun q hq=>nomatch hq),fun q hq=>nomatch hq⟩
   (fun j us Hj z=>z.2.1) (fun j us Hj hj z=>⟨_,V.str ws[j],SqL.of (z.1 _ _ gB),by rw [On,Oi hj];rfl⟩) (fun us Hj z=>⟨_,SqL.of (z.1 _ _ gB),by rw [Oh];exact Om _⟩) ?_ ?_
  .intro j us Hj x' Hj' R hj z yl hR
   obtain ⟨r,x2,rfl,hr',rfl,hx2⟩:=yl;obtain ⟨zs',zl,ps,hps,lp,pn,pk⟩:=z;have ex:=hx2 _ (SqL.of (zs' _ _ gB));rw [On] at ex;obtain ⟨y,hy,rfl⟩:=PJ.mp ex;have my:=mw y (Oo hy);have ya:Asc y/\y.length<=9:=(by decide +kernel:∀ y∈gks.map (·.1),(∀ c∈y.cps.toList,c < 128)/\y.length<=9) y my;have sC:=ZH hr' (.tup [.int (j:Nat), .str y])
   obtain ⟨c,hc,hcA⟩:∃ c,atI (Str.ofString "abc").cps.toList (j:Int)=some c/\c < 128:=by
    match j,(show j < 3 by omega) with
    | 0,_=>exact ⟨97,by decide +kernel,by decide⟩
    | 1,_=>exact ⟨98,by decide +kernel,by decide⟩
    | 2,_=>exact ⟨99,by decide +kernel,by decide⟩
   refine ⟨_,SqT.of ZC,rfl,?_⟩;refine ⟨_,_,c,rfl,rfl,by decide,hc,sl 2,fun t ht=>?_⟩;have sD:=ZH ht (.tup [.str ⟨#[c]⟩, .str y]);refine hR _ _ ⟨(zs'.trans sC).trans sD,by rw [Os,zl];rfl,ps++ [(⟨#[c]⟩,y)],?_,by rw [Os,lp];rfl,fun q hq=>?_,fun q hq=>?_⟩
   .rw [Oq]
    exact HasL.append ((hps.mono sC).mono sD) (HasL.one (Zk ZC (HasL.cons Zn (HasL.one Zn))))
   .rcases O2.mp hq with h | h
    .exact pn q h
    .rw [Ox.mp h];exact ⟨Asc.one hcA,(by show 1<=9;decide)⟩
   .rcases O2.mp hq with h | h
    .exact pk q h
    .rw [Ox.mp h];exact ya
  intro us HC q2 z hq2;obtain ⟨zs',zl,ps,hps,lp,pn,pk⟩:=z;refine ⟨q2,_,rfl, .inl ⟨SqL.of ZC,fun tl htl=>?_⟩⟩;have sD:=(ZH hq2 (.lst us)).trans (ZH htl (.tup us));have gD:upd (upd HC q2 (.lst us)) tl (.tup us) tl=some (.tup us):=ZC;generalize upd (upd HC q2 (.lst us)) tl (.tup us)=HD at sD gD |-;refine ⟨sl 2,fun tb htb=>?_⟩;refine up_in htb _ fun HE sE gE=>?_;refine ⟨sl 4,fun td htd=>?_⟩;refine up_in htd _ fun HF sF gF=>?_;have sBF:=((zs'.trans sD).trans sE).trans sF;have lz:=hzi.length;rw [Oh] at lz;have ly8:ys.length<=8:=by omega
  refine ⟨fl,zs, .ref td,rfl,rfl,sBF _ _ fB,ZI (by omega),?_⟩;have tkG:TK HF (upd HF fl (.lst (zs++ [.ref td]))):=Xr (sBF _ _ fB) fun us' z=>nomatch z
  refine ⟨fun b o n1' n2' h=>?_,?_,zs++ [.ref td],ds++ [(((nm,ps,Str.ofString "q"),Bd.tag (Str.ofString "QA")):Dd)],_,_,ZC,?_,by rw [Os,li];rfl,fun x hx=>?_,rfl⟩
  .rw [ZE n2']
   exact sBF _ _ (sb9 _ _ n1' (g89 _ _ n1' n2' h))
  .exact (stB.sm sBF).keep (by rw [ZE (Ne.symm flp)])
  .rw [Oq]
   refine HasL.append (Zj tkG _ (Jc ds) (hzB.mono sBF)) (HasL.one (YU tkG _ (NL _) ?_));exact Zk gF (HasL.cons Zn (HasL.cons (Zk (sF _ _ (sE _ _ gD)) (((hps.mono sD).mono sE).mono sF)) (HasL.cons Zn (HasL.one (Zk (sF _ _ gE) (HasL.cons Zn (HasL.one Zn)))))))
  .rcases O2.mp hx with h | h
   .exact di x h
   .rw [Ox.mp h]
    have l8:=(wds.len nm mn).2;exact ⟨fun c hc=>by have:=wds.abc nm mn c hc;omega,by show nm.length<=9;omega,⟨by show ps.length<=5;omega,pn,pk⟩,by show (Str.ofString "q").length<=9;decide,by show Bd.dep (.tag _)<=11;unfold Bd.dep;decide,by show Bd.ok (.tag _);unfold Bd.ok;trivial⟩
 .rintro U Hi ⟨gi,sti,zs,ds,z3,z4,hfi,hzi,li,di,rfl⟩
  refine ⟨sl 2,fun r hr9=>?_⟩;have tkI:TK H8 Hi:=fun b us h=>gi b _ (Zt st8 h) (fun e=>by rw [e,g8] at h;cases h) h;have sR:=ZH hr9 (.tup [.ref kl, .ref fl]);rw [Oh] at li;exact q r kl fl xs zs ds _ ((fun b o n e=>sR _ _ (gi b o n (fun z=>by rw [z,f6] at e;cases e) (sb8 b o n e)))) (sti.sm sR) ZC f0 klp (sR _ _ (gi _ _ klp (Ne.symm flk) k8)) ((Zj tkI _ (YB gks) hx8).mono sR) f6 flp (sR _ _ hfi) (hzi.mono sR) (by omega) (by omega) di
end
theorem M3{H:Hp}{p l r:Addr}{xs:List V}(st:Zo H p)(h:H l=some (.lst xs))(hx:xs[0]?=some (.ref r)):l≠p:=fun e=>by
 obtain ⟨a,b,c,d,z⟩:=st;rw [e,z] at h;cases h;cases hx
structure KD7(H:Hp)(p kl dl:Addr)(m:Nat)(xs zs:List V)(ks:List (Str × Shp))(c d:Str->Nat)(ds:List Dd):Prop where
 klp:kl≠p
 dlp:dl≠p
 hkl:H kl=some (.lst xs)
 hxs:HasL H xs (ks.map Yf)
 kk:KK 30 c d ks
 nd:(ks.map (·.1)).Nodup
 k0:0 < ks.length
 k6:ks.length<=6
 kg:KG ks
 hdl:H dl=some (.lst zs)
 hzs:HasL H zs (ds.map VR)
 d0:0 < ds.length
 d10:ds.length<=10
 dt:∀ x∈ds,DT7 m x
theorem KD7.mono(h:KD7 H p kl dl m xs zs ks c d ds)(b:SameB p H H')(s:Zo H p):KD7 H' p kl dl m xs zs ks c d ds:=
 ⟨h.klp,h.dlp,b _ _ h.klp h.hkl,Zj (b.tk s) _ (YB ks) h.hxs,h.kk,h.nd,h.k0,h.k6,h.kg,b _ _ h.dlp h.hdl,Zj (b.tk s) _ (Jc ds) h.hzs,h.d0,h.d10,h.dt⟩
theorem KD7.ks8(h:KD7 H p kl dl m xs zs ks c d ds):∀ k∈ks,k.1.length<=8/\Asc k.1:=fun k hk=>by
 have m:k.1∈ks.map (·.1):=O1.mpr ⟨k,hk,rfl⟩;exact ⟨(h.kg.nm.len _ m).2,fun c hc=>by have:=h.kg.nm.abc _ m c hc;omega⟩
theorem EK{ks:List (Str × Shp)}{ds:List Dd}{c:Str->Nat}{hs:List Hd}{tp:Nat}(kg:KG ks)(w:Wds 97 (ds.map fun x:Dd=>x.1.1))(ho:∀ x∈ds,Ed (ks.map (·.1)) c tp x.1)(dk:∀ x∈ds,Ef ks hs x):∀ x∈ds,DT7 9 x:=fun x hx=>by
 have kn:∀ y∈ks.map (·.1),Asc y/\y.length<=9:=fun y hy=>⟨fun c hc=>by have:=kg.nm.abc y hy c hc;omega,Nat.le_succ_of_le (kg.nm.len y hy).2⟩;have m:x.1.1∈ds.map fun x=>x.1.1:=O1.mpr ⟨x,hx,rfl⟩;have h:=ho x hx;exact ⟨fun c hc=>by have:=w.abc _ m c hc;omega,Nat.le_succ_of_le (w.len _ m).2,⟨O6 h.len (by decide),fun p hp=>⟨fun c hc=>by have:=(h.spl p hp).2.2 c hc;omega,Nat.le_succ_of_le (h.spl p hp).2.1⟩,fun p hp=>kn _ (h.kin p hp)⟩,(kn _ h.own).2,(dk x hx).dep,(dk x hx).ok⟩
theorem M8{H:Hp}{p kl dl:Addr}{xs zs:List V}{ks:List (Str × Shp)}{c d:Str->Nat}{hs:List Hd}{ds:List Dd}{tp:Nat}(st:Zo H p)(hkl:H kl=some (.lst xs))(hxs:HasL H xs (ks.map Yf))(kk:KK 30 c d ks)(nd:(ks.map (·.1)).Nodup)(k0:0 < ks.length)(k6:ks.length<=6)(kg:KG ks)(hdl:H dl=some (.lst zs))(hzs:HasL H zs (ds.map VR))(edd:ds.map (·.1)=hs)(h0:0 < hs.length)(h8:hs.length<=8)(wdh:Wds 97 (hs.map (·.1)))(hok:∀ h∈hs,Ed (ks.map (·.1)) c tp h)(dok:∀ x∈ds,Ef ks hs x):KD7 H p kl dl 9 xs zs ks c d ds:=by
 have lx:=hxs.length;have lz:=hzs.length;rw [Oh] at lx lz;subst edd;rw [Oh] at h0 h8;have e1:xs[0]?=some (xs[0]'(by omega)):=Oi (by omega);have e2:zs[0]?=some (zs[0]'(by omega)):=Oi (by omega);obtain ⟨d1,f1,g1⟩:=hxs.get e1;obtain ⟨d2,f2,g2⟩:=hzs.get e2;rw [On] at f1 f2;obtain ⟨u1,_,rfl⟩:=PJ.mp f1;obtain ⟨u2,_,rfl⟩:=PJ.mp f2;obtain ⟨r1,_,q1,_⟩:=WC _ _ g1;obtain ⟨r2,_,_,q2,_⟩:=Ja g2;exact ⟨M3 st hkl (e1.trans (congrArg some q1)),M3 st hdl (e2.trans (congrArg some q2)),hkl,hxs,kk,nd,k0,k6,kg,hdl,hzs,h0,O6 h8 (by decide),EK kg (by rw [List.map_map] at wdh;exact wdh) (fun x hx=>hok _ (O1.mpr ⟨x,hx,rfl⟩)) dok⟩
theorem Fn{ns:List Int}{c:Int}{lo hi:Option Int}(h:ns.length<=63):∃ ms:List Int, [V.int c]++ JN (ns.map V.int) lo hi=ms.map V.int/\ms.length<=64:=by
 refine ⟨c::(ns.drop (HT.sIx (ns.map V.int).length 0 lo)).take (HT.sIx (ns.map V.int).length (ns.map V.int).length hi - HT.sIx (ns.map V.int).length 0 lo),?_,?_⟩
 .unfold JN
  rw [O0,List.map_take,List.map_drop]
  rfl
 .rw [PB,Ou,List.length_drop]
  omega
theorem Wt(a:JF ks c ds k)(b:JF ks c ds j):k=j:=by
 rcases a with ⟨e,rfl⟩ | ⟨x,hx,h1,n1⟩ <;> rcases b with ⟨e',rfl⟩ | ⟨y,hy,h2,n2⟩
 .rfl
 .rw [e] at hy;cases hy
 .rw [e'] at hx;cases hx
 .rcases Nat.lt_trichotomy k j with h | h | h
  .exact absurd (h2 k x h hx) n1
  .exact h
  .exact absurd (h1 j y h hy) n2
theorem Tp{H:Hp}{t:Addr}{k:Int}(h:H t=some (.tup [.int k, .non, .bl true])):Has H (.ref t) (.tup [.int k, .non, .bl true]):=
 Zk h (HasL.cons (by unfold Has;rfl) (HasL.cons (by unfold Has;rfl) (HasL.one (by unfold Has;rfl))))
theorem Xi{k:Int}:DW 40 (.tup [.int k, .non, .bl true]):=by
 refine ⟨?_,?_⟩
 .simp [Dat.dep,Dat.deps]
 .simp [Dat.wid,Dat.wids]
def qks:List (Str × Shp):= [("q", .tags ["Q"])]
theorem qkk:KK 30 (fun _=>2) (fun _=>0) qks:=fun i y s h=>by
 unfold qks at h |-
 match i,h with
 | 0,h=>cases h;exact ⟨by decide,by decide,by decide +kernel,by decide +kernel,by decide +kernel⟩
 | n + 1,h=>cases h
theorem qkg:KG qks:=by
 refine ⟨⟨by decide +kernel,by decide +kernel,by decide +kernel⟩,⟨["Q"],⟨by decide +kernel,by decide +kernel,by decide +kernel⟩,fun i y ts h=>?_⟩,fun i1 i2 y1 y2 a b h1 h2=>?_⟩
 .unfold qks at h
  match i,h with
  | 0,h=>cases h;exact ⟨0,by decide,rfl⟩
  | n + 1,h=>cases h
 .unfold qks at h1
  match i1,h1 with
  | 0,h=>cases h
  | n + 1,h=>cases h
section
def Mm(K:W.Frag):Sp:=fun vs H Q _=> ∃ (a:Addr) (ns:List Int),vs= [.ref a]/\SqL K H a (ns.map V.int)/\ns.length<=63/\∀ H',Q (.bl true) H'
theorem Vl:Za ["script","cell","stream","kinds","definitions","turn","extra","some","first"] ["script"] (ZJ Rq):=Zu
theorem Kr:List.Nodup [("k" :Str),"kinds","definitions"]:=by decide +kernel
theorem Ki(hn:46<=n)(B:Blt mg)(F:Fun K "law" "law" Rq f fd)(DC:Df P w K mg base n "_law_cell" ["script","k"] (BY K))(DS:Df P w K mg base n "_law_stream" ["cell"] Xu)(DM:Df P w K mg base n "_law_mixed" ["cell","k"] GE)(DT:Df P w K mg base n "_law_take" ["stream","many"] Yl)(DB:Df P w K mg base n "_law_book" ["cell","most","many","top","left"] Rf)(DG:Df P w K mg base n "_law_great" ["stream"] GX)(DP:Df P w K mg base n "_law_spoilt" ["stream","kinds","definitions"] Xv)(DF:Df P w K mg base n "_law_kinds_first" ["kinds","definitions"] Xx)(DW:Df P w K mg base n "_law_first_wrong" ["shapes","definitions"] GY)(DR:Df P w K mg base n "_law_refusal" ["kinds","definitions"] Rb)(DE:Df P w K mg base n "_law_same" ["found","due"] (UD 45)):
  ZQ P w K mg base CX0 (n + 1) f fd ["script"] (Mm K):=by
 refine F.oq Vl fun cdv A outer s H vs Q E hr h=>?_;obtain ⟨a,ns,rfl,hS,h63,q⟩:=h;refine Iv ⟨_,Xo (Lz (Yb PassesOwn.never rfl (Yk (ZX Vu (Zp (pa1 (ZZ DC hr (pa2 (pv 0) ZD)))) (Z3 V2 (pv 0) (YE ZD) (YE ZD)))) (ZL 1 Vl.nd)
   (ZA (ZM 2 Vl.nd (ZZ DS hr (pa1 (pv 1))))
   (ZA (V9 (ZZ DB hr (pa5 (ZZ DM hr (pa2 (pv 1) ZD)) ZD ZD ZD ZD)) (Yr (n:=2) rfl (Zf (ZL 3 Vl.nd rfl (Or.inr rfl) (Or.inl rfl)) (Zf (ZL 4 Vl.nd rfl (Or.inr rfl) (Or.inl rfl)) YX))))
   (ZA (Zg (ZN YN (ZZ DT hr (pa2 (pv 2) ZD)) ZD (ZW _)) (ZF (V9 (ZZ DB hr (pa5 (pv 1) ZD ZD ZD ZD)) (Yr (n:=2) rfl (Zf (ZL 3 Vl.nd rfl (Or.inr rfl) (Or.inl rfl)) (Zf (ZL 4 Vl.nd rfl (Or.inr rfl) (Or.inl rfl)) YX))))) ZO)
   (ZA (Zg (ZN YN (ZZ DT hr (pa2 (pv 2) ZD)) ZD (ZW _)) (ZF (V9 (ZZ DG hr (pa1 (pv 2))) (Yr (n:=2) rfl (Zf (ZL 3 Vl.nd rfl (Or.inr rfl) (Or.inl rfl)) (Zf (ZL 4 Vl.nd rfl (Or.inr rfl) (Or.inl rfl)) YX))))) ZO)
   (ZA (Yb PassesOwn.never rfl (VN rfl B.range (pa1 (ZZ DT hr (pa2 (pv 2) ZD)))) (ZL 5 Vl.nd)
    (ZF (ZM 4 Vl.nd (ZZ DP hr (pa3 (pv 2) (pv 3) (pv 4))) (hx:=Or.inr rfl))))
   (ZA (Zg (ZN YN (ZZ DT hr (pa2 (pv 2) ZD)) ZD (ZW _))
    (ZA (Mv (i0:=6) ["k"] [3,4] Vl.nd rfl (Or.inl rfl) (VN rfl B.range (pa1 ZD)) (YO (i:=0) (by decide)) (fun cl C fp s H=>ZL 0 Kr rfl (Or.inl rfl) (Or.inr rfl))
     (fun cl C fp s H=>Zi (pa4 (ZX Vv ZY (ZT (r:=E7) WE ZY (pv 0))) (Zi YK) (ZT (r:=Jm K) Zc (ZT (r:=R5 K) Zh (pv 1) ZD) ZD) (ZT (r:=Jm K) Zc (ZT (r:=R5 K) Zh (pv 2) ZD) ZD))))
    (ZF (ZM 4 Vl.nd (Z3 V2 (ZX Vu (pv 4) (pv 6)) YW (YE ZD)) (hx:=Or.inr rfl)))) ZO)
   (ZA (Yb PassesOwn.never rfl (Yk (Zp (pa2 (pv 4) (Zp YK)))) (ZL 7 Vl.nd)
    (ZF (Zg (Yz (Yi (ZZ DF hr (pa2 (ZX Vu (pv 3) (Zp (pa1 (ZT Zh (pv 3) (ZZ DT hr (pa2 (pv 2) (ZU ZP rfl B.len PySem.boot_len (pa1 (pv 3))))))))) (pv 7))))) (ZF Y2) ZO)))
   (ZA (ZM 8 Vl.nd (ZZ DW hr (pa2 (Zm (r:=R6 K) (WO rfl) rfl B.dict Jd (pa1 (pv 3))) (pv 4))))
   (ZF (Zg (PW.pt (Vo (ZN FK (pv 8) Y0 (ZW _)) (VE (Yz (Yi (ZZ DE hr (pa2 (ZZ DR hr (pa2 (pv 3) (pv 4))) (Zi (pa3 (pv 8) Y0 Vr)))))))))
    (ZF Y2) ZO))))))))))))
  (Iu (ZF (ZV (ZZ DE hr (pa2 (ZZ DR hr (pa2 (PL7.pe (EV (Ze (VL (Ze Ya (Ze (VL (Ze Ya (Ze (VL (Ze Ya Yj)) Yj))) Yj))) Yj))) (Zp YK))) (Zi (pa3 ZD Y0 Vr))))))),?_⟩
 dsimp only [Yo,Cx.nox,Cx.wish];show let a:=_;let b:=_;let c:=Zv _ b _;let d:=ZK _ c;let e:=_;let f:=Zv _ e _;let g:=ZK (Vg _ _ f) d;let h:=_;let i:=ZK _ h;let j:=ZK (Zv _ i _) g;let k:=_;let l:=ZK (Vg _ _ k) j;let m:=_;let n:=ZK (Zv _ m _) l;let o:=_;let p:=ZK (Zv _ o _) n;let q:=ZK _ p;let r:=ZK _ q;ZK (Vg _ _ r) a _ _ _
 intros
 refine ⟨a,ns,0,rfl,hS,by decide,fun c0=>⟨sl 1,fun l1 h1=>?_⟩⟩;refine up_in h1 _ fun H1 s1 g1=>?_;refine ⟨_,rfl,_,rfl,a,_,rfl,s1.seq hS,fun l2 h2=>?_⟩;refine up_in h2 _ fun H2 s2 g2=>?_;obtain ⟨ms,em,lm⟩:=Fn (c:=c0) (lo:=some 1) (hi:=some 12) h63;have lc:=congrArg List.length em;rw [Os,Oh] at lc;refine ⟨l1,l2,_,_,rfl,rfl,s2 _ _ g1,g2,PF (ZI (by omega)),fun l h3=>?_⟩;rw [em];refine up_in h3 _ fun H3 s3 g3=>?_;refine ⟨⟨_,SqL.of g3⟩,?_⟩
 let I:Nat->St->Hp->Prop:=fun i U Hi=>Same H3 Hi/\∃ z1 z2 z3 z4 z5 z6 z7 z8:Option V,U= [some (.ref a),z1,z2,z3,z4,z5,z6,z7,z8]
 refine J3 (xs:=ms.map V.int) I ⟨Same.refl _,_,_,_,_,_,_,_,_,rfl⟩ (fun i U Hi _ z=>SqL.of (z.1 _ _ g3)) ?_ ?_
 case refine_2=>
  rintro U Hi ⟨si,z1,z2,z3,z4,z5,z6,z7,z8,rfl⟩;intro kl xs H4 s4 f4 g4 h4;refine ⟨sl 0,fun dl hdl=>?_⟩;refine up_in hdl _ fun H5 s5 g5=>?_;refine ⟨kl,dl,xs, [],qks,fun _=>2,fun _=>0, [],rfl,s5 _ _ g4,h4.mono s5,qkk,by decide +kernel,qkg,by decide,by decide,g5,HasL.nil,by decide,(fun x hx=>nomatch hx),⟨0, .inl ⟨rfl,rfl⟩⟩,fun k fw r6 H6 s6 h6=>?_⟩;cases Wt fw (.inl ⟨rfl,rfl⟩);refine ⟨sl 3,fun t9 h9=>?_⟩;refine up_in h9 _ fun H9 s9 g9=>?_;refine ⟨_,_,_,_,rfl,h6.mono s9,Tp g9,Xi.lt,Xi.2,fun H7 _=>?_⟩;rw [show (Dat.tup [.int ((0:Nat):Int), .non, .bl true]).beq (.tup [.int 0, .non, .bl true])=true from Dat.beq_self _];exact q _
 rintro BB RR i x U Hi hx ⟨si,z1,z2,z3,z4,z5,z6,z7,z8,rfl⟩;rw [On] at hx;obtain ⟨ce,_,rfl⟩:=PJ.mp hx;refine ⟨ce,rfl,fun p H4 f4 b4 st4=>?_⟩;have sb4:SameB p Hi H4:=b4.sb;refine ⟨ce,800,rfl,fun r5 _ _=>?_⟩;refine ⟨r5,6,8,40,4,rfl,by decide,by decide,by decide,by decide,by decide,by decide,fun rt kl dl ks c d hs ds xs zs H5 s5 hr5 hkl hxs kk nd k0 k6 kg hdl hzs edd h0 h8 wdh hok dok=>?_⟩;have st5:=st4.sm s5;have kd5:=M8 st5 hkl hxs kk nd k0 k6 kg hdl hzs edd h0 h8 wdh hok dok;refine ⟨_,SqT.of hr5,rfl,?_⟩;dsimp only [Jh,RE,YZ]
 let M:Nat->St->Hp->Prop:=fun m U Hn=> ∃ (kl dl:Addr) (xs zs:List V) (ks:List (Str × Shp)) (c d:Str->Nat) (ds:List Dd) (z5 z6 z7 z8:Option V),SameB p Hi Hn/\Zo Hn p/\KD7 Hn p kl dl m xs zs ks c d ds/\
  U= [some (.ref a),some (.int ce),some (.ref p),some (.ref kl),some (.ref dl),z5,z6,z7,z8]
 refine YS (M 9) ?_ fun N1 k1=>?_
 case refine_2=>
  refine ⟨p,3,rfl,st5,by decide,by decide,fun r6 H6 _ _ b6 st6=>⟨rfl,_,rfl,?_⟩⟩;have sb6:=(sb4.trans s5.sb).trans b6.sb;refine Yc (fun _=>?_) (fun _=>k1 _ _ ⟨kl,dl,xs,zs,ks,c,d,ds,_,_,_,_,sb6,st6,kd5.mono b6.sb st5,rfl⟩);refine ⟨ce,6,8,40,4,rfl,by decide,by decide,by decide,by decide,by decide,by decide,fun rt kl dl ks c d hs ds xs zs H7 s7 hr7 hkl hxs kk nd k0 k6 kg hdl hzs edd h0 h8 wdh hok dok=>?_⟩;have st7:=st6.sm s7;exact ⟨_,SqT.of hr7,rfl,k1 _ _ ⟨kl,dl,xs,zs,ks,c,d,ds,_,_,_,_,sb6.trans s7.sb,st7,M8 st7 hkl hxs kk nd k0 k6 kg hdl hzs edd h0 h8 wdh hok dok,rfl⟩⟩
 clear kd5 hok dok wdh edd hzs hdl kg nd kk hxs hkl hr5;rintro σ6 H6 ⟨kl,dl,xs,zs,ks,c,d,ds,z5,z6,z7,z8,sb6,st6,kd6,rfl⟩;refine YS (M 9) ?_ fun N2 k2=>?_
 case refine_2=>
  refine ⟨p,5,rfl,st6,by decide,by decide,fun r7 H7 _ _ b7 st7=>⟨rfl,_,rfl,?_⟩⟩;refine Yc (fun _=>?_) (fun _=>k2 _ _ ⟨kl,dl,xs,zs,ks,c,d,ds,_,_,_,_,sb6.trans b7.sb,st7,kd6.mono b7.sb st6,rfl⟩);refine ⟨p,rfl,st7,fun rt kl dl xs zs ds H8 s8 st8 hr8 _ nk hkl hxs _ nd hdl hzs d0 d8 dt=>?_⟩;exact ⟨_,SqT.of hr8,rfl,k2 _ _ ⟨kl,dl,xs,zs,gks,K4.gc,K4.gd,ds,_,_,_,_,(sb6.trans b7.sb).trans s8,st8,⟨nk,nd,hkl,hxs,gkk,gnd,by decide,by decide,gkg,hdl,hzs,d0,by omega,dt⟩,rfl⟩⟩
 clear kd6;rintro σ7 H7 ⟨kl,dl,xs,zs,ks,c,d,ds,z5,z6,z7,z8,sb7,st7,kd7,rfl⟩;refine ⟨p,4,rfl,st7,by decide,by decide,fun r8 H8 r80 r81 b8 st8=>⟨_,rfl,by omega,by omega,?_⟩⟩;refine Ub (n:=r8.toNat) (fun j U Hn=>M (9 + j) U Hn) ⟨kl,dl,xs,zs,ks,c,d,ds,_,_,_,_,sb7.trans b8.sb,st8,kd7.mono b8.sb st7,rfl⟩ ?_ ?_
 .rintro BB RR j U Hj hj ⟨kl,dl,xs,zs,ks,c,d,ds,z5,z6,z7,z8,sbj,stj,kj,rfl⟩
  refine ⟨p,kl,dl,xs,zs,ks,ds,9 + j,rfl,stj,kj.klp,kj.dlp,kj.hkl,kj.hxs,kj.k0,kj.k6,kj.ks8,kj.hdl,kj.hzs,kj.d0,kj.d10,kj.dt,by omega,by omega,fun r ys es H' sb' st' fr nr hr' hys le dt=>?_⟩;have k':=kj.mono sb' stj;have d0:=kj.d0;have d10:=kj.d10;exact ⟨kl,r,xs,ys,ks,c,d,es,_,_,_,_,sbj.trans sb',st',⟨k'.klp,nr,k'.hkl,k'.hxs,k'.kk,k'.nd,k'.k0,k'.k6,k'.kg,hr',hys,by omega,by omega,dt⟩,rfl⟩
 clear kd7;rintro σ9 H9 ⟨kl,dl,xs,zs,ks,c,d,ds,z5,z6,z7,z8,sb9,st9,kd9',rfl⟩;have kd9:KD7 H9 p kl dl 12 xs zs ks c d ds:={kd9' with dt:=fun x hx=>(kd9'.dt x hx).up (by omega)};clear kd9';dsimp only;refine YS (M 12) ?_ fun N3 k3=>?_
 case refine_2=>
  refine ⟨p,9,rfl,st9,by decide,by decide,fun r10 H10 _ _ b10 st10=>⟨rfl,_,rfl,?_⟩⟩;have sb10:=sb9.trans b10.sb;have kd:=kd9.mono b10.sb st9;refine Yc (fun _=>?_) (fun _=>k3 _ _ ⟨kl,dl,xs,zs,ks,c,d,ds,_,_,_,_,sb10,st10,kd,rfl⟩);refine ⟨9,rfl,by decide,by decide,?_⟩;have lx:=kd.hxs.length;have lz:=kd.hzs.length;rw [Oh] at lx lz;have k0:=kd.k0;have d0:=kd.d0;have d10:=kd.d10;have e1:xs[0]?=some (xs[0]'(by omega)):=Oi (by omega);have e2:zs[0]?=some (zs[0]'(by omega)):=Oi (by omega);generalize xs[0]'(by omega)=x0 at e1;generalize zs[0]'(by omega)=y0 at e2;obtain ⟨d1,f1,j1⟩:=kd.hxs.get e1;obtain ⟨d2,f2,j2⟩:=kd.hzs.get e2;rw [On] at f1 f2;obtain ⟨u1,mu1,rfl⟩:=PJ.mp f1;obtain ⟨u2,mu2,rfl⟩:=PJ.mp f2;obtain ⟨t1,w1,rfl,ht1⟩:=WC _ _ j1;obtain ⟨t2,uu,w2,rfl,ht2,_,hw2⟩:=Ja j2;have n1:=kd.ks8 u1 (Oo mu1);have n2:=kd.dt u2 (Oo mu2);refine YQ 9 (ZI (by decide)) (fun j us Hj=>Same H10 Hj/\us.length=j/\∃ es:List Dd,HasL Hj us (es.map VR)/\es.length=j/\∀ x∈es,DT7 12 x) ⟨Same.refl _,rfl, [],HasL.nil,rfl,fun x hx=>nomatch hx⟩
   (fun j us Hj z=>z.2.1) (fun j us Hj hj z=>hj) (fun us Hj z=>Om _) ?_ ?_
  .intro j us Hj x' Hj' R hj z yl hR
   obtain ⟨rfl,rfl⟩:=yl;obtain ⟨sj,zl,es,he,le,de⟩:=z
   obtain ⟨c,hc,hcA⟩:∃ c,atI (Str.ofString "abcdefghi").cps.toList (j:Int)=some c/\c < 128:=by
    match j,hj with
    | 0,_=>exact ⟨97,by decide +kernel,by decide⟩
    | 1,_=>exact ⟨98,by decide +kernel,by decide⟩
    | 2,_=>exact ⟨99,by decide +kernel,by decide⟩
    | 3,_=>exact ⟨100,by decide +kernel,by decide⟩
    | 4,_=>exact ⟨101,by decide +kernel,by decide⟩
    | 5,_=>exact ⟨102,by decide +kernel,by decide⟩
    | 6,_=>exact ⟨103,by decide +kernel,by decide⟩
    | 7,_=>exact ⟨104,by decide +kernel,by decide⟩
    | 8,_=>exact ⟨105,by decide +kernel,by decide⟩
   have lq:(Str.ofString "qqq" ++ (⟨#[c]⟩:Str)).length=4:=by
    rw [PySem.Str.length_append];rfl
   refine ⟨_,_,c,rfl,rfl,by decide,(by rw [Int.zero_add];exact hc),?_⟩;refine ⟨_,_,rfl,rfl,PF (ZI (show 3 + 1<=1000 by decide)),sl 0,fun t0 ht0=>?_⟩;refine up_in ht0 _ fun HC sC gC=>?_;have sjC:=sj.trans sC;refine ⟨_,_,SqL.of (sjC _ _ kd.hkl),YA (j:=0) e1,_,_,SqT.of (sjC _ _ ht1),YA (j:=0) (xs:= .str u1.1::w1) rfl,?_⟩;refine ⟨_,_,SqL.of (sjC _ _ kd.hdl),YA (j:=0) e2,_,_,SqT.of (sjC _ _ ht2),rfl,sl 4,fun t ht=>?_⟩;have sD:=ZH ht (.tup [.str (Str.ofString "qqq" ++ (⟨#[c]⟩:Str)), .ref t0, .str u1.1,w2]);refine hR _ _ ⟨sjC.trans sD,by rw [Os,zl];rfl,es++ [((Str.ofString "qqq" ++ (⟨#[c]⟩:Str), [],u1.1),u2.2)],?_,by rw [Os,le];rfl,fun x hx=>?_⟩
   .rw [Oq]
    refine HasL.append ((he.mono sC).mono sD) (HasL.one ?_);exact Zk ZC (HasL.cons Zn (HasL.cons (Zk (sD _ _ gC) HasL.nil) (HasL.cons Zn (HasL.one ((hw2.mono sjC).mono sD)))))
   .rcases O2.mp hx with h | h
    .exact de x h
    .rw [Ox.mp h]
     exact ⟨Asc.app (by decide +kernel:∀ c∈(Str.ofString "qqq").cps.toList,c < 128) (Asc.one hcA),by show (Str.ofString "qqq" ++ (⟨#[c]⟩:Str)).length<=12;rw [lq];decide,⟨O7 _,(fun q hq=>nomatch hq),fun q hq=>nomatch hq⟩,O6 n1.1 (by decide),n2.dep,n2.ok⟩
  intro us HB sm z hsm;obtain ⟨sB,ul,es,he,le,de⟩:=z;refine up_in hsm _ fun HC sC gC=>?_;have s1C:=sB.trans sC;refine ⟨dl,sm,zs,us,rfl,rfl,s1C _ _ kd.hdl,gC,PF (ZI (by omega)),fun q hq=>?_⟩;refine up_in hq _ fun HD sD gD=>?_;have s1D:=s1C.trans sD;refine ⟨_,rfl,q,_,rfl,SqL.of gD,fun r hr'=>?_⟩;have ec:JN (zs++ us) none (some 10)=(zs++ us).take 10:=Vz _ 10 (by rw [Os];omega);rw [ec];have sE:=ZH hr' (.lst ((zs++ us).take 10));have gE:upd HD r (.lst ((zs++ us).take 10)) r=some (.lst ((zs++ us).take 10)):=ZC;have s1E:=s1D.trans sE;have stE:=st10.sm s1E;have rp:r≠p:=(st10.sm s1D).ne hr';generalize upd HD r (.lst ((zs++ us).take 10))=HE at sE gE s1E stE |-;have k':=kd.mono s1E.sb st10
  have hE:HasL HE ((zs++ us).take 10) (((ds++ es).take 10).map VR):=by
   rw [List.map_take,Oq];exact HasL.take 10 (HasL.append k'.hzs (he.mono ((sC.trans sD).trans sE)))
  have l10:((ds++ es).take 10).length=10:=by rw [Ou,Os];omega
  exact k3 _ _ ⟨kl,r,xs,_,ks,c,d,(ds++ es).take 10,_,_,_,_,sb10.trans s1E.sb,stE,⟨k'.klp,rp,k'.hkl,k'.hxs,k'.kk,k'.nd,k'.k0,k'.k6,k'.kg,gE,hE,by omega,by omega,fun x hx=>(O2.mp (PK hx)).elim (kd.dt x) (de x)⟩,rfl⟩
 clear kd9;rintro σA HA ⟨kl,dl,xs,zs,ks,c,d,ds,z5,z6,z7,z8,sbA,stA,kd,rfl⟩;have lx:=kd.hxs.length;rw [Oh] at lx;have k0:=kd.k0;have k6:=kd.k6;refine ⟨sl 0,fun l4 h4=>⟨sl 2,fun l5 h5=>?_⟩⟩;have s4:=ZH h4 (.lst []);have g4:upd HA l4 (.lst []) l4=some (.lst []):=ZC;generalize upd HA l4 (.lst [])=HB at s4 g4 h5 |-;have s5':=ZH h5 (.lst [.ref dl, .ref l4]);have g5:upd HB l5 (.lst [.ref dl, .ref l4]) l5=some (.lst [.ref dl, .ref l4]):=ZC;have p4:l4≠p:=stA.ne h4;have p5:l5≠p:=(stA.sm s4).ne h5;generalize upd HB l5 (.lst [.ref dl, .ref l4])=HC at s5' g5 |-;have sAC:=s4.trans s5';have stC:=stA.sm sAC;have kdC:=kd.mono sAC.sb stA;have g4C:=s5' _ _ g4;refine ⟨⟨_,SqL.of g5⟩,?_⟩
 let I2:Nat->St->Hp->Prop:=fun i U Hn=>SameB p HC Hn/\Zo Hn p/\∃ z7:Option V,U= [some (.ref a),some (.int ce),some (.ref p),some (.ref kl),some (.ref dl),z5,z6,z7,z8]
 refine J3 (xs:= [.ref dl, .ref l4]) I2 ⟨SameB.refl _ _,stC,_,rfl⟩ (fun i U Hn _ z=>SqL.of (z.1 _ _ p5 g5)) ?_ ?_
 .rintro BB2 RR2 i2 x U Hn hx2 ⟨sbn,stn,z7',rfl⟩
  have kn:=kdC.mono sbn stC
  obtain ⟨y,ws,py,rfl,hy⟩:∃ y ws,y≠p/\x= .ref y/\Hn y=some (.lst ws):=by
   match i2,hx2 with
   | 0,hx2=>cases hx2;exact ⟨dl,zs,kn.dlp,rfl,kn.hdl⟩
   | 1,hx2=>cases hx2;exact ⟨l4, [],p4,rfl,sbn _ _ p4 g4C⟩
  refine ⟨kl,_,rfl, .inl (SqL.of kn.hkl),p,_,rfl,stn,by omega,by omega,fun r H1 r0 r1 b1 st1=>?_⟩;obtain ⟨j,rfl⟩:∃ m:Nat,r=m:=⟨r.toNat,by omega⟩;have hv:xs[j]?=some (xs[j]'(by omega)):=Oi (by omega);generalize xs[j]'(by omega)=xv at hv;have k1:=kn.mono b1.sb stn;obtain ⟨dk,hk1,hk2⟩:=k1.hxs.get hv;rw [On] at hk1;obtain ⟨kk,hkk,rfl⟩:=PJ.mp hk1;refine ⟨_,_,SqL.of k1.hkl,YA hv,sl 1,fun l6 h6=>?_⟩;refine up_in h6 _ fun H2' s6 g6=>?_;refine ⟨kl,l6,xs, [xv],rfl,rfl,s6 _ _ k1.hkl,g6,PF (ZI (by show xs.length + 1<=1000;omega)),fun l7 h7=>?_⟩;refine up_in h7 _ fun H3' s7 g7=>?_;have s67:=s6.trans s7;refine ⟨l7,y,_,ws,ks,kk,c,d,rfl,g7,by rw [Oq];exact HasL.append (k1.hxs.mono s67) (HasL.one (hk2.mono s67)),k1.kk,k1.nd,k1.kg,k1.k0,k1.k6,Oo hkk,s67 _ _ (b1.sb _ _ py hy),fun H4' s4'=>⟨_,rfl,Zs (by simp) ?_⟩⟩;have sall:=s67.trans s4';exact ⟨(sbn.trans b1.sb).trans sall.sb,st1.sm sall,_,rfl⟩
 rintro U Hn ⟨sbn,stn,z7',rfl⟩;have kn:=kdC.mono sbn stC;obtain ⟨ts,kvs,exs,pr,ek,hsh⟩:=Ux (K:=K) kn.hxs;refine ⟨kl,ts,kvs,rfl,SqL.of (by rw [<-exs];exact kn.hkl),pr,M7 ek kn.nd,fun dA hdA=>?_⟩;refine up_in hdA _ fun H6' s6 g6=>?_;have k6':=kn.mono s6.sb stn;have tx:∀ x∈ds,DTx x:=fun x hx=>(kn.dt x hx).tx (by decide);have fin:∀ {H':Hp},Same H6' H'->Same H3 H':=fun s'=>si.trans ((((sbA.trans sAC.sb).trans sbn).trans (s6.trans s').sb).same f4);refine ⟨dA,dl,zs,ks,c,d,ds,rfl,⟨kvs, .inl g6,ek,fun y s e=>let ⟨v,e1,e2⟩:=hsh y s e;⟨v,e1,e2.mono s6⟩⟩,k6'.kk,k6'.hdl,k6'.hzs,k6'.d10,tx,fun k fw H7' s7=>?_,fun nf H7' s7=>?_⟩
 case refine_2=>
  refine ⟨rfl,_,rfl,?_⟩;refine Zs (by simp) ?_;exact Zs (by simp) ⟨fin s7,_,_,_,_,_,_,_,_,rfl⟩
 have k7:=k6'.mono s7.sb (stn.sm s6);refine ⟨rfl,_,rfl,Z7 (by simp) ?_⟩;refine ⟨kl,dl,xs,zs,ks,c,d,ds,rfl,k7.hkl,k7.hxs,k7.kk,k7.nd,k7.kg,k7.k0,k7.k6,k7.hdl,k7.hzs,k7.d10,tx,⟨k,fw⟩,fun k2 fw2 r8 H8 s8 hr8=>?_⟩;cases Wt fw2 fw;refine ⟨sl 3,fun t9 h9=>?_⟩;refine up_in h9 _ fun H9' s9 g9=>?_;refine ⟨_,_,_,_,rfl,hr8.mono s9,Tp g9,Xi.lt,Xi.2,fun H10' s10=>⟨_,rfl,?_⟩⟩;rw [Dat.beq_self];exact Zs (by simp) ⟨fin (((s7.trans s8).trans s9).trans s10),_,_,_,_,_,_,_,_,rfl⟩
end
section
variable{P:Program}{w:World}{K:W.Frag}{mg:Str->Option Value}{base:Heap}{f g:Addr}{fd gd:FuncData}
theorem NW{m:Nat}:ZQ P w K mg base CX0 m f fd ["body"] (Uh 0):=
 ⟨fun vs H Q E h=>let ⟨_,_,_,_,_,hd,_⟩:=h;absurd hd (Nat.not_lt_zero _),fun A outer s H args us vs Q E _ _ _ _ h=>let ⟨_,_,_,_,_,hd,_⟩:=h;absurd hd (Nat.not_lt_zero _)⟩
theorem Mn(B:Blt mg)(ms:mg "sum" =none)(F:Fun K "_law_size" "_law_size" Mr f fd)(bG:Binds K fd ["body"] [])(mG:mg "_law_size" =some (.ref f))(GL:ZQ P w K mg base CX0 1 g gd ["body"] UP)(bL:Binds K gd ["body"] [])(kL:W.keepIn K (.ref g)=true)(mL:mg "_law_parts" =some (.ref g)):∀ n,ZQ P w K mg base CX0 (1 + n) f fd ["body"] (Uh n)
 | 0=>NW
 | n + 1=>FV (m:=1 + n) B ms F (Mn B ms F bG mG GL bL kL mL n) bG mG (GL.mono (by omega)) bL kL mL
end
theorem Ud{K:W.Frag}{C:Addr}{v:Value}{b:Bool}(h:W.mroIn K C v=some b):(W.clsIn K C).isSome=true:=by
 unfold W.mroIn at h;obtain ⟨cd,a,_⟩:=Option.bind_eq_some_iff.mp h;rw [a];rfl
def At(K:W.Frag)(f:Addr)(x q:Str)(st:Stmt):Prop:= ∃ (oc:Value) (od:Option Addr) (kV dc pm:Value) (an:Option Addr) (cd ct:Value) (sl:Array (Option Value)),K.lookup f=some ⟨oc,od, .func (W.fnOf x q (V7 st) (Y5 st) (ZJ st) .none kV dc pm an cd ct),sl⟩/\W.codeIn K cd q=true/\W.keepIn K (.ref f)=true
theorem At.of{K:W.Frag}{f:Addr}{x q:Str}{st:Stmt}{oc:Value}{od:Option Addr}{kV dc pm:Value}{an:Option Addr}{cd ct:Value}{sl:Array (Option Value)}(l:K.lookup f=some ⟨oc,od, .func (W.fnOf x q (V7 st) (Y5 st) (ZJ st) .none kV dc pm an cd ct),sl⟩)(d:W.codeIn K cd q=true)(k:W.keepIn K (.ref f)=true):At K f x q st:=⟨oc,od,kV,dc,pm,an,cd,ct,sl,l,d,k⟩
section
variable{K:W.Frag}{x q:Str}{st:Stmt}{f:Addr}{fd:FuncData}{ps:List Str}
def BA1(x q:Str)(st:Stmt)(ps:List Str)(us:List Value):Prop:= ∀ (kV doc pm:Value) (an:Option Addr) (cdv ct:Value),bindArgs (W.fnOf x q (V7 st) (Y5 st) (ZJ st) .none kV doc pm an cdv ct) ⟨us, []⟩=pure (ps.zip us)
def Eg:Nat->(List Value->Prop)->Prop
 | 0,R=>R []
 | n + 1,R=> ∀ a,Eg n fun us=>R (a::us)
theorem Eg.at:∀ {n:Nat}{R:List Value->Prop}{us:List Value},Eg n R->us.length=n->R us
 | 0,_, [],h,_=>h
 | _ + 1,R,a::_,h,e=>Eg.at (R:=fun us=>R (a::us)) (h a) (Nat.succ.inj e)
theorem _root_.L2.Fun.bn(F:Fun K x q st f fd)(ps:List Str)(h:Eg ps.length (BA1 x q st ps)):Binds K fd ps []:=F.binds fun _ _ _ _ _ _ _ e=>h.at e _ _ _ _ _ _
theorem _root_.L2.Fun.b1(F:Fun K x q st f fd)(p:Str)(h:∀ a,BA1 x q st [p] [a]:=by exact fun _ _ _ _ _ _ _=>rfl):Binds K fd [p] []:=F.bn [p] h
theorem _root_.L2.Fun.b2(F:Fun K x q st f fd)(p p1:Str)(h:∀ a b,BA1 x q st [p,p1] [a,b]:=by exact fun _ _ _ _ _ _ _ _=>rfl):Binds K fd [p,p1] []:=F.bn [p,p1] h
theorem _root_.L2.Fun.b3(F:Fun K x q st f fd)(p p1 p2:Str)(h:∀ a b c,BA1 x q st [p,p1,p2] [a,b,c]:=by exact fun _ _ _ _ _ _ _ _ _=>rfl):Binds K fd [p,p1,p2] []:=F.bn [p,p1,p2] h
theorem _root_.L2.Fun.b4(F:Fun K x q st f fd)(p p1 p2 p3:Str)(h:∀ a b c d,BA1 x q st [p,p1,p2,p3] [a,b,c,d]:=by exact fun _ _ _ _ _ _ _ _ _ _=>rfl):Binds K fd [p,p1,p2,p3] []:=F.bn [p,p1,p2,p3] h
theorem _root_.L2.Fun.b5(F:Fun K x q st f fd)(p p1 p2 p3 p4:Str)(h:∀ a b c d i,BA1 x q st [p,p1,p2,p3,p4] [a,b,c,d,i]:=by exact fun _ _ _ _ _ _ _ _ _ _ _=>rfl):Binds K fd [p,p1,p2,p3,p4] []:=F.bn [p,p1,p2,p3,p4] h
theorem _root_.L2.Fun.b6(F:Fun K x q st f fd)(p p1 p2 p3 p4 p5:Str)(h:∀ a b c d i j,BA1 x q st [p,p1,p2,p3,p4,p5] [a,b,c,d,i,j]:=by exact fun _ _ _ _ _ _ _ _ _ _ _ _=>rfl):Binds K fd [p,p1,p2,p3,p4,p5] []:=F.bn [p,p1,p2,p3,p4,p5] h
end
theorem At.fn{K:W.Frag}{f:Addr}{x q:Str}{st:Stmt}(h:At K f x q st):∃ fd,Fun K x q st f fd:=by
 obtain ⟨_,_,_,_,_,_,_,_,_,l,d,k⟩:=h;exact ⟨_,ED (st:=st) l d k⟩
def GA(K:W.Frag)(x:Str)(f:Addr)(st:Stmt):Prop:=W.nsIn K mainGlobals x=some (some (.ref f))/\At K f x x st
def GM(K:W.Frag)(C:Addr)(x q:Str)(f:Addr)(st:Stmt):Prop:=(W.findIn K (.ref C) x=some (some (.ref f))/\W.isFn K (.ref f)=true)/\At K f x q st
def GN(K:W.Frag)(x:Str):Prop:=W.nsIn K mainGlobals x=some none
def GC(K:W.Frag)(x:Str)(f:Addr):Prop:=W.nsIn K mainGlobals x=some (some (.ref f))
def GV(K:W.Frag)(x:Str)(v:V)(u:Value):Prop:=W.nsIn K mainGlobals x=some (some u)/\RelV v u
def GF(K:W.Frag)(C:Addr)(x:Str):Prop:=W.findIn K (.ref C) x=some none
theorem GA.go{K:W.Frag}{h:Heap}{mg:Str->Option Value}{x:Str}{f:Addr}{st:Stmt}(X:K.In h)(G:h.Ns mainGlobals mg)(a:GA K x f st):∃ fd,Fun K x x st f fd/\W.keepIn K (.ref f)=true/\mg x=some (.ref f):=
 let ⟨fd,F⟩:=a.2.fn
 ⟨fd,F,F.kp,W.mg_of X G a.1⟩
theorem GM.go{K:W.Frag}{c:Addr}{x q:Str}{f:Addr}{st:Stmt}(a:GM K c x q f st):∃ fd,Fun K x q st f fd/\XB K c x f:=
 let ⟨fd,F⟩:=a.2.fn
 ⟨fd,F,a.1.1,a.1.2,F.kp⟩
theorem GV.go{K:W.Frag}{h:Heap}{mg:Str->Option Value}{x:Str}{v:V}{u:Value}(X:K.In h)(G:h.Ns mainGlobals mg)(a:GV K x v u):mg x=some u/\RelV v u:=⟨W.mg_of X G a.1,a.2⟩
structure CA(K:W.Frag)(C:Addr):Prop where
 pg:W.plainGet K C Str.empty=true
 hd:W.hasDictIn K C=true
 po:W.plainOver K C=true
 sa:W.findIn K (.ref C) "__setattr__" =some (some (.builtin "object.__setattr__"))
 ma:W.makesIn K C=true
 kc:W.keepIn K (.ref C)=true
theorem all_at{l:W.OpenLaw}{w:World}{K:W.Frag}{h:Heap}{mg:Str->Option Value}{fa CK C f1 f2 f3 f4 f5 f6 f7 f8 f9 f10 f11 f12 f13 f14 f15 f16 f17 f18 f19 f20 f21 f22 f23 f24 f25 f26 f27 f28 f29 f30 f31 f32 f33 f34 f35 f36 f37 f38 f39 f40 f41 f42 f43 f44 f45 f46 f47 aW c1 c2 c3 NK c5 c6 c7 c8 NB:Addr}{u1v u2v u3v u4v u5v u6v u7v u8v u9v u10v u11v:Value}(X:K.In h)(G:h.Ns mainGlobals mg)(hfa:mg "law" =some (.ref fa))(aC:GC K "Kinds" CK)(aB:GC K "Book" C)(e1:GC K "WantError" aW)(e2:GC K "Falling" c1)(e3:GC K "NoAsking" c2)(e4:GC K "NoCell" c3)(e5:GC K "NoKinds" NK)(e6:GC K "NoMore" c5)(e7:GC K "NoNote" c6)(e8:GC K "NoRows" c7)(e9:GC K "Torn" c8)(e10:GC K "NoBook" NB)(a1:GA K "is_name" f1 Gq)(a2:GA K "is_tag" f2 Rt)(a3:GA K "is_spelt" f3 Rl)(a4:GA K "are_parameters" f4 R0)(a5:GA K "row_count" f5 Uq)(a6:GA K "rows_over" f6 Up)(a7:GA K "_law_cell" f7 Bo)(a8:GA K "_law_mixed" f8 Rp)(a9:GA K "_law_stream" f9 Gh)(a10:GA K "_law_take" f10 Bj)(a11:GA K "_law_words" f11 Rk)(a12:GA K "_law_small" f12 Rm)(a13:GA K "_law_pair" f13 Bm)(a14:GA K "_law_kinds" f14 Rr)(a15:GA K "_law_heads" f15 Ru)(a16:GA K "_law_plain" f16 X4)(a17:GA K "_law_some" f17 Mq)(a18:GA K "_law_choose" f18 Xh)(a19:GA K "_law_ask" f19 E5)(a20:GA K "_law_part" f20 Gk)(a21:GA K "_law_let" f21 E4)(a22:GA K "_law_body" f22 Tn)(a23:GA K "_law_parts" f23 Gj)(a24:GA K "_law_size" f24 Mr)(a25:GA K "_law_book" f25 Bq)(a26:GA K "_law_same" f26 Ms)(a27:GA K "_law_worths" f27 Xg)(a28:GA K "_law_word" f28 Bi)(a29:GA K "_law_many" f29 Bn)(a30:GA K "_law_head_right" f30 Rv)(a31:GA K "_law_first_wrong" f31 Rx)(a32:GA K "_law_bad_word" f32 Br)(a33:GA K "_law_spoilt" f33 Gi)(a34:GA K "_law_refusal" f34 Bl)(a35:GA K "_law_kinds_first" f35 Gp)(a36:GA K "_law_great" f36 Rw)(a37:GA K "law" f37 Rq)(a38:GM K CK "__init__" "Kinds.__init__" f38 Mt)(a39:GM K CK "take" "Kinds.take" f39 Gn)(a40:GM K CK "take_tags" "Kinds.take_tags" f40 Bk)(a41:GM K CK "take_pair" "Kinds.take_pair" f41 Rn)(a42:GM K CK "names" "Kinds.names" f42 Ro)(a43:GM K CK "worths_of" "Kinds.worths_of" f43 Uo)(a44:GM K C "__init__" "Book.__init__" f44 Gr)(a45:GM K C "take_heads" "Book.take_heads" f45 Ry)(a46:GM K C "is_head" "Book.is_head" f46 Rz)(a47:GM K NB "__init__" "NoBook.__init__" f47 Gm)(z1:GN K "len")(z2:GN K "isinstance")(z3:GN K "bool")(z4:GN K "str")(z5:GN K "int")(z6:GN K "tuple")(z7:GN K "list")(z8:GN K "dict")(z9:GN K "all")(z10:GN K "zip")(z11:GN K "max")(z12:GN K "range")(z13:GN K "sorted")(z14:GN K "min")(z15:GN K "sum")(z16:GN K "enumerate")(z17:GN K "ValueError")(g1:GV K "SMALL" (.str (Str.ofString "abcdefghijklmnopqrstuvwxyz")) u1v)(g2:GV K "GREAT" (.str (Str.ofString "ABCDEFGHIJKLMNOPQRSTUVWXYZ")) u2v)(g3:GV K "LONGEST" (.int 8) u3v)(g4:GV K "MOST_KINDS" (.int 6) u4v)(g5:GV K "MOST_TAGS" (.int 4) u5v)(g6:GV K "MOST_WORTHS" (.int 30) u6v)(g7:GV K "MOST_PAIRS_DEEP" (.int 2) u7v)(g8:GV K "MOST_DEFINITIONS" (.int 8) u8v)(g9:GV K "MOST_PARAMETERS" (.int 3) u9v)(g10:GV K "MOST_ROWS" (.int 200) u10v)(g11:GV K "MOST_ROWS_IN_ALL" (.int 400) u11v)(caCK:CA K CK)(caC:CA K C)(n1:GF K CK "shapes")(n2:GF K CK "worths")(n3:GF K CK "heights")(n4:GF K CK "pairs_deep")(n5:GF K CK "tag_kinds")(n6:GF K CK "pair_kinds")(nb1:GF K C "sorts")(nb2:GF K C "told")(nb3:GF K C "rows")(nb4:GF K C "turns")(h2:W.typeIn K (.ref aW)=some (.type "type"))(h3:W.mroIn K aW (.type "BaseException")=some true)(h4:W.typeIn K (.ref NB)=some (.type "type"))(x2:W.findIn K (.ref NB) "__getattribute__" =some (some (.builtin "BaseException.__getattribute__")))(x3:W.findIn K (.ref NB) "__getattr__" =some none)(x4:W.mroIn K NB (.type "BaseException")=some true)(x5:W.mroIn K NB (.type "object")=some true)(x6:W.findIn K (.ref NB) "__class__" =some (some (.builtin "object.__class__")))(y2:W.findIn K (.ref NK) "__getattribute__" =some (some (.builtin "BaseException.__getattribute__")))(y3:W.findIn K (.ref NK) "__getattr__" =some none)(y4:W.mroIn K NK (.type "BaseException")=some true)(y5:W.mroIn K NK (.type "object")=some true)(y6:W.findIn K (.ref NK) "__class__" =some (some (.builtin "object.__class__")))(x7:W.specialIn K (.builtin "object.__class__") "__get__" =some (some (.builtin "getset_descriptor.__get__")))(x8:W.takesIn K (.builtin "object.__class__")=some true)(y9:W.excIn K NK [.type "ValueError", .type "Exception", .type "BaseException", .type "object"] "ValueError.__new__" =true)(s1:W.subIn K (.ref NB) (.ref NB)=some true)(s2:W.subIn K (.ref NK) (.ref aW)=some true)(u1:W.kitAny K (.ref NB) [.ref c1, .ref c2, .ref c3, .ref NK, .ref c5, .ref c6, .ref c7, .ref c8]=some false)(u2:W.kitOne K (.ref NB) (.ref aW)=some true)(u3:W.kitOne K (.ref NB) (.type "ValueError")=some true)(u4:W.kitOne K (.ref NK) (.ref NK)=some true)(u5:W.kitOne K (.ref NK) (.ref NB)=some false)(v1:W.hasDictIn K NB=true)(v2:W.findIn K (.ref NB) "number" =some none)(v3:W.findIn K (.ref NB) "place" =some none)(v4:W.findIn K (.ref NB) "__setattr__" =some (some (.builtin "object.__setattr__")))(v5:W.keepIn K (.ref NB)=true)(v6:W.xcIn K NB f47=true):∃ fd:FuncData,(∀ (s:Shared) (v:Value),BindsTo s fd ⟨[v], []⟩ [("script",v)])/\∀ base:Heap,K.In base->base.Ns mainGlobals mg->ZQ l.prog w K mg base CX0 53 fa fd ["script"] (Mm K):=by
 have e:=hfa.symm.trans (W.mg_of X G a37.1);cases e;obtain ⟨d1,F1,k1,m1⟩:=a1.go X G;have b1:=F1.b1 "text";obtain ⟨d2,F2,k2,m2⟩:=a2.go X G;have b2:=F2.b1 "text";obtain ⟨d3,F3,k3,m3⟩:=a3.go X G;have b3:=F3.b2 "text" "letters";obtain ⟨d4,F4,k4,m4⟩:=a4.go X G;have b4:=F4.b2 "kinds" "parameters";obtain ⟨d5,F5,k5,m5⟩:=a5.go X G;have b5:=F5.b2 "kinds" "parameters";obtain ⟨d6,F6,k6,m6⟩:=a6.go X G;have b6:=F6.b2 "kinds" "parameters";obtain ⟨d7,F7,k7,m7⟩:=a7.go X G;have b7:=F7.b2 "script" "k";obtain ⟨d8,F8,k8,m8⟩:=a8.go X G;have b8:=F8.b2 "cell" "k";obtain ⟨d9,F9,k9,m9⟩:=a9.go X G;have b9:=F9.b1 "cell";obtain ⟨d10,F10,k10,m10⟩:=a10.go X G;have b10:=F10.b2 "stream" "many";obtain ⟨d11,F11,k11,m11⟩:=a11.go X G;have b11:=F11.b4 "stream" "many" "letters" "ways";obtain ⟨d12,F12,k12,m12⟩:=a12.go X G;have b12:=F12.b2 "stream" "many";obtain ⟨d13,F13,k13,m13⟩:=a13.go X G;have b13:=F13.b6 "stream" "names" "counts" "depths" "taken" "top";obtain ⟨d14,F14,k14,m14⟩:=a14.go X G;have b14:=F14.b3 "stream" "most" "top";obtain ⟨d15,F15,k15,m15⟩:=a15.go X G;have b15:=F15.b5 "stream" "kinds" "counts" "most" "top";obtain ⟨d16,F16,k16,m16⟩:=a16.go X G;have b16:=F16.b4 "stream" "world" "around" "kind";obtain ⟨d17,F17,k17,m17⟩:=a17.go X G;have b17:=F17.b5 "stream" "world" "around" "kind" "deep";obtain ⟨d18,F18,k18,m18⟩:=a18.go X G;have b18:=F18.b5 "stream" "world" "around" "kind" "deep";obtain ⟨d19,F19,k19,m19⟩:=a19.go X G;have b19:=F19.b5 "stream" "world" "around" "kind" "deep";obtain ⟨d20,F20,k20,m20⟩:=a20.go X G;have b20:=F20.b5 "stream" "world" "around" "kind" "deep";obtain ⟨d21,F21,k21,m21⟩:=a21.go X G;have b21:=F21.b5 "stream" "world" "around" "kind" "deep";obtain ⟨d22,F22,k22,m22⟩:=a22.go X G;have b22:=F22.b5 "stream" "world" "around" "kind" "deep";obtain ⟨d23,F23,k23,m23⟩:=a23.go X G;have b23:=F23.b1 "body";obtain ⟨d24,F24,k24,m24⟩:=a24.go X G;have b24:=F24.b1 "body";obtain ⟨d25,F25,k25,m25⟩:=a25.go X G;have b25:=F25.b5 "cell" "most" "many" "top" "left";obtain ⟨d26,F26,k26,m26⟩:=a26.go X G;have b26:=F26.b2 "found" "due";obtain ⟨d27,F27,k27,m27⟩:=a27.go X G;have b27:=F27.b2 "shapes" "kind";obtain ⟨d28,F28,k28,m28⟩:=a28.go X G;have b28:=F28.b1 "text";obtain ⟨d29,F29,k29,m29⟩:=a29.go X G;have b29:=F29.b2 "shapes" "parameters";obtain ⟨d30,F30,k30,m30⟩:=a30.go X G;have b30:=F30.b4 "shapes" "name" "parameters" "kind";obtain ⟨d31,F31,k31,m31⟩:=a31.go X G;have b31:=F31.b2 "shapes" "definitions";obtain ⟨d32,F32,k32,m32⟩:=a32.go X G;have b32:=F32.b2 "word" "way";obtain ⟨d33,F33,k33,m33⟩:=a33.go X G;have b33:=F33.b3 "stream" "kinds" "definitions";obtain ⟨d34,F34,k34,m34⟩:=a34.go X G;have b34:=F34.b2 "kinds" "definitions";obtain ⟨d35,F35,k35,m35⟩:=a35.go X G;have b35:=F35.b2 "kinds" "definitions";obtain ⟨d36,F36,k36,m36⟩:=a36.go X G;have b36:=F36.b1 "stream";obtain ⟨_,_,kV,dc,pm,an,cd,ct,_,l',d',k37⟩:=a37.2;have F37:=ED (st:=Rq) l' d' k37;obtain ⟨d38,F38,w38⟩:=a38.go;have b38:=F38.b2 "self" "told";obtain ⟨d39,F39,w39⟩:=a39.go;have b39:=F39.b3 "self" "name" "shape";obtain ⟨d40,F40,w40⟩:=a40.go;have b40:=F40.b3 "self" "name" "tags";obtain ⟨d41,F41,w41⟩:=a41.go;have b41:=F41.b4 "self" "name" "one" "other";obtain ⟨d42,F42,w42⟩:=a42.go;have b42:=F42.b1 "self";obtain ⟨d43,F43,w43⟩:=a43.go;have b43:=F43.b2 "self" "kind";obtain ⟨d44,F44,w44⟩:=a44.go;have b44:=F44.b3 "self" "kinds" "definitions";obtain ⟨d45,F45,w45⟩:=a45.go;have b45:=F45.b2 "self" "definitions";obtain ⟨d46,F46,w46⟩:=a46.go;have b46:=F46.b4 "self" "name" "parameters" "kind";obtain ⟨d47,F47,w47⟩:=a47.go;have b47:=F47.b3 "self" "number" "place";have mC:=W.mg_of X G aC;have mB:=W.mg_of X G aB;have B:Blt mg:=⟨W.mg_none_of X G z1,W.mg_none_of X G z2,W.mg_none_of X G z3,W.mg_none_of X G z4,W.mg_none_of X G z5,W.mg_none_of X G z6,W.mg_none_of X G z7,W.mg_none_of X G z8,W.mg_none_of X G z9,W.mg_none_of X G z10,W.mg_none_of X G z11,W.mg_none_of X G z12,W.mg_none_of X G z13⟩;have nmin:=W.mg_none_of X G z14;have nsum:=W.mg_none_of X G z15;have nenumerate:=W.mg_none_of X G z16;have nValueError:=W.mg_none_of X G z17;obtain ⟨q1,r1⟩:=g1.go X G;obtain ⟨q2,r2⟩:=g2.go X G;obtain ⟨q3,r3⟩:=g3.go X G;obtain ⟨q4,r4⟩:=g4.go X G;obtain ⟨q5,r5⟩:=g5.go X G;obtain ⟨q6,r6⟩:=g6.go X G;obtain ⟨q7,r7⟩:=g7.go X G;obtain ⟨q8,r8⟩:=g8.go X G;obtain ⟨q9,r9⟩:=g9.go X G;obtain ⟨q10,r10⟩:=g10.go X G;obtain ⟨q11,r11⟩:=g11.go X G;have T:KCl K CK:=⟨⟨caCK.pg,caCK.hd,caCK.po,caCK.sa⟩,n1,n2,n3,n4,n5,n6⟩;have TB:BCl K C:=⟨⟨caC.pg,caC.hd,caC.po,caC.sa⟩,nb1,nb2,nb3,nb4⟩;have XX:XC7 K mg aW c1 c2 c3 NK c5 c6 c7 c8 NB:=⟨W.mg_of X G e1,W.mg_of X G e2,W.mg_of X G e3,W.mg_of X G e4,W.mg_of X G e5,W.mg_of X G e6,W.mg_of X G e7,W.mg_of X G e8,W.mg_of X G e9,W.mg_of X G e10,nValueError,⟨Ud h3,h2,h3⟩,⟨Ud x4,h4,x4⟩,⟨Ud x4,x2,x3,x4,x5,x6,x7,x8⟩,⟨Ud y4,y2,y3,y4,y5,y6,x7,x8⟩,s1,s2,u1,u2,u3,u4,u5,v1,v2,v3⟩;have xc:XCl K NB f47:=⟨v6,x5,v4⟩;refine ⟨W.fnOf "law" "law" (V7 Rq) (Y5 Rq) (ZJ Rq) .none kV dc pm an cd ct,fun s v=> .of_eq rfl,fun base hIn _=>?_⟩;have tk:∀ n,ZQ l.prog w K mg base CX0 (n + 2) f10 _ ["stream","many"] Yl:=fun n=>FT F10 (T5 (n:=n) F8) b8 k8 m8;have wo:∀ n,ZQ l.prog w K mg base CX0 (n + 3) f11 _ ["stream","many","letters","ways"] XZ:=fun n=>B9 B F11 (tk n) b10 k10 m10;have sm:∀ n,ZQ l.prog w K mg base CX0 (n + 4) f12 _ ["stream","many"] JR:=fun n=>DI F12 (wo n) b11 k11 m11;have pr:ZQ l.prog w K mg base CX0 9 f13 _ ["stream","names","counts","depths","taken","top"] (Rc K):=FY (n:=2) B F13 (tk 6) b10 k10 m10;have kn:ZQ l.prog w K mg base CX0 10 f14 _ ["stream","most","top"] GJ:=Da (n:=9) B F14 (tk 7) b10 k10 m10 (sm 5) b12 k12 m12 (wo 6) b11 k11 m11 pr b13 k13 m13;have hd':ZQ l.prog w K mg base CX0 10 f15 _ ["stream","kinds","counts","most","top"] GR:=De (n:=9) B F15 ⟨f10,_,m10,k10,b10,tk 7⟩ ⟨f12,_,m12,k12,b12,sm 5⟩;have DT:∀ n,Df l.prog w K mg base (n + 2) "_law_take" ["stream","many"] Yl:=fun n=>⟨f10,_,m10,k10,b10,tk n⟩;have pn:ZQ l.prog w K mg base CX0 6 f16 _ ["stream","world","around","kind"] (VD 3):=X7 B DT F16 b16 m16 3;have dw:=(F0 B DT F16 b16 m16 F17 b17 m17 F18 b18 m18 F19 b19 m19 F20 b20 m20 F21 b21 m21 F22 b22 m22 9).2;have pL:ZQ l.prog w K mg base CX0 1 f23 _ ["body"] UP:=Nl (n:=0) B F23;have sz:ZQ l.prog w K mg base CX0 13 f24 _ ["body"] (Uh 12):=Mn B nsum F24 b24 m24 pL b23 k23 m23 12;have sa:ZQ l.prog w K mg base CX0 45 f26 _ ["found","due"] (UD 45):=Mp B F26 b26 m26 45;have bk:ZQ l.prog w K mg base CX0 49 f25 _ ["cell","most","many","top","left"] Rf:=Fc (n:=48) B nmin F25 ⟨f9,_,m9,k9,b9,Wl (n:=47) F9⟩ ⟨f10,_,m10,k10,b10,tk 46⟩ ⟨f12,_,m12,k12,b12,sm 44⟩ ⟨f14,_,m14,k14,b14,kn.mono (by decide)⟩ ⟨f15,_,m15,k15,b15,hd'.mono (by decide)⟩ (dw.up (by decide)) ⟨f16,_,m16,k16,b16,pn.mono (by decide)⟩ ⟨f24,_,m24,k24,b24,sz.mono (by decide)⟩;have sp:ZQ l.prog w K mg base CX0 1 f3 _ ["text","letters"] Xa:=DD (n:=0) B F3 q3 r3;have na:ZQ l.prog w K mg base CX0 2 f1 _ ["text"] Jk:=Nq (n:=1) F1 sp b3 k3 m3 q1 r1;have nw:ZQ l.prog w K mg base CX0 2 f1 _ ["text"] (UC 97):=na.sub NQ;have ta:ZQ l.prog w K mg base CX0 2 f2 _ ["text"] (UC 65):=Dc (n:=1) F2 sp b3 k3 m3 q2 r2;have tt:ZQ l.prog w K mg base CX0 3 f40 _ ["self","name","tags"] (Ra CK):=FU (n:=2) B T F40 q5 r5 ta b2 k2 m2;have tp:ZQ l.prog w K mg base CX0 3 f41 _ ["self","name","one","other"] (GD CK):=DU (n:=2) B T F41 q7 r7 q6 r6;have kt:ZQ l.prog w K mg base CX0 4 f39 _ ["self","name","shape"] (GO CK):=DY (n:=3) B T F39 (nw.mono (by decide)) b1 k1 m1 tt b40 w40 tp b41 w41;have kx:ZQ l.prog w K mg base (CX1 l.prog w) 4 f39 _ ["self","name","shape"] (Xw CK NK):=Nn (n:=3) T XX.m4 y9 F39 (nw.mono (by decide)) b1 k1 m1;have ini:ZQ l.prog w K mg base (CX1 l.prog w) 5 f38 _ ["self","told"] (Re CK NK):=Fa (n:=4) B T XX.m4 y9 F38 q4 r4 (ZQ.or kt.never kx) b39 w39;have knm:ZQ l.prog w K mg base CX0 1 f42 _ ["self"] (Xb CK):=DV (n:=0) B T F42;have kwo:ZQ l.prog w K mg base CX0 1 f43 _ ["self","kind"] (Vh CK):=T1 (n:=0) B T F43;have ap:ZQ l.prog w K mg base CX0 3 f4 _ ["kinds","parameters"] (Ga CK):=Dn (n:=2) B T F4 q9 r9 ⟨f1,_,m1,k1,b1,na⟩ w42 (knm.mono (by decide)) b42;have rc:ZQ l.prog w K mg base CX0 2 f5 _ ["kinds","parameters"] (UF CK):=T4 (n:=1) B T F5 w43 kwo b43;have ro:ZQ l.prog w K mg base CX0 2 f6 _ ["kinds","parameters"] (UE CK):=T3 (n:=1) B T F6 w43 kwo b43;have ih:ZQ l.prog w K mg base CX0 4 f46 _ ["self","name","parameters","kind"] (GZ C CK):=Dm (n:=3) TB T F46 ⟨f1,_,m1,k1,b1,na.mono (by decide)⟩ ⟨f4,_,m4,k4,b4,ap⟩ w42 (knm.mono (by decide)) b42;have ni:ZQ l.prog w K mg base CX0 1 f47 _ ["self","number","place"] (NT NB "number" "place"):=Nm (n:=0) F47 xc v2 v3;have th:ZQ l.prog w K mg base (CX1 l.prog w) 5 f45 _ ["self","definitions"] (Ba C CK NB):=Dj (n:=3) B nenumerate TB F45 q8 r8 q10 r10 q11 r11 XX.mB xc v5 w47.2 (ni.mono (by decide)) b47 w46 ih b46 ⟨f5,_,m5,k5,b5,rc.mono (by decide)⟩ ⟨f6,_,m6,k6,b6,ro.mono (by decide)⟩;have bi:ZQ l.prog w K mg base (CX1 l.prog w) 7 f44 _ ["self","kinds","definitions"] (Ju C CK NK NB):=Dl (n:=6) (m:=5) (by decide) TB F44 ⟨caCK.ma,w38.1,w38.2,caCK.kc⟩ mC ini b38 w45 (th.mono (by decide)) b45;have wr:ZQ l.prog w K mg base CX0 3 f27 _ ["shapes","kind"] (Vi 3):=WU B F27 b27 m27 3;have mn:ZQ l.prog w K mg base CX0 4 f29 _ ["shapes","parameters"] GG:=FZ (n:=3) B F29 ⟨f27,_,m27,k27,b27,wr⟩;have lw:ZQ l.prog w K mg base CX0 1 f28 _ ["text"] Jk:=DX (n:=0) B F28;have hr':ZQ l.prog w K mg base CX0 5 f30 _ ["shapes","name","parameters","kind"] GU:=Dg (n:=4) B nenumerate F30 ⟨f28,_,m28,k28,b28,lw.mono (by decide)⟩ ⟨f29,_,m29,k29,b29,mn⟩;have fw:ZQ l.prog w K mg base CX0 42 f31 _ ["shapes","definitions"] GY:=Di (n:=41) (by decide) B nenumerate F31 ⟨f30,_,m30,k30,b30,hr'.mono (by decide)⟩ ⟨f29,_,m29,k29,b29,mn.mono (by decide)⟩;have bw:ZQ l.prog w K mg base CX0 1 f32 _ ["word","way"] BZ:=Kj (n:=0) B F32;have sl':ZQ l.prog w K mg base CX0 42 f33 _ ["stream","kinds","definitions"] Xv:=Nk (n:=41) (by decide) B F33 ⟨f10,_,m10,k10,b10,tk 39⟩ ⟨f12,_,m12,k12,b12,sm 37⟩ ⟨f32,_,m32,k32,b32,bw.mono (by decide)⟩;have rf:ZQ l.prog w K mg base CX0 42 f34 _ ["kinds","definitions"] Rb:=FX (n:=41) (m:=7) (by decide) (by decide) B XX F34 ⟨caC.ma,w44.1,w44.2,caC.kc⟩ mB bi b44;have kf':ZQ l.prog w K mg base CX0 9 f35 _ ["kinds","definitions"] Xx:=Np (n:=8) (m:=7) (by decide) (by decide) B XX F35 ⟨caC.ma,w44.1,w44.2,caC.kc⟩ mB bi b44;have gt':ZQ l.prog w K mg base CX0 5 f36 _ ["stream"] GX:=Dh (n:=4) B nenumerate F36 ⟨f10,_,m10,k10,b10,tk 2⟩ ⟨f12,_,m12,k12,b12,sm 0⟩;exact Ki (n:=52) (by decide) B F37 ⟨f7,_,m7,k7,b7,Fb (n:=51) B F7⟩ ⟨f9,_,m9,k9,b9,Wl (n:=51) F9⟩ ⟨f8,_,m8,k8,b8,T5 (n:=51) F8⟩ ⟨f10,_,m10,k10,b10,tk 50⟩ ⟨f25,_,m25,k25,b25,bk.mono (by decide)⟩ ⟨f36,_,m36,k36,b36,gt'.mono (by decide)⟩ ⟨f33,_,m33,k33,b33,sl'.mono (by decide)⟩ ⟨f35,_,m35,k35,b35,kf'.mono (by decide)⟩ ⟨f31,_,m31,k31,b31,fw.mono (by decide)⟩ ⟨f34,_,m34,k34,b34,rf.mono (by decide)⟩ ⟨f26,_,m26,k26,b26,sa.mono (by decide)⟩
theorem goes{l:W.OpenLaw}{q:Program}{loose:List Str}{XP:(Str->Option Value)->Heap->Prop}{YP:World->Heap->Prop}{d:DefRec}{K:Params->W.Frag}(hn:l.most=some 63)(hdf:d.params.defaults= [])(hY:∀ (w:World) (h:Heap),YP w h->(K w.params).In h)(F:∀ (w:World) (mg:Str->Option Value) (fa:Addr) (h:Heap),(K w.params).In h->h.Ns mainGlobals mg->mg d.name=some (.ref fa)->
   ∃ fd:FuncData,(∀ (s:Shared) (u:Value),BindsTo s fd ⟨[u], []⟩ [("script",u)])/\∀ base:Heap,(K w.params).In base->base.Ns mainGlobals mg->ZQ l.prog w (K w.params) mg base CX0 53 fa fd ["script"] (Mm (K w.params))):
  W.WalkO q loose XP YP l.row.toRowW d [] (fun f vs=>PySem.call f vs):=
 L2.walk_of (n:=63) (k:=53) (x:="script") (CX:=fun _=>CX0) (sp:=fun w=>Mm (K w.params)) hn (by decide) hdf ⟨rfl,by decide,by decide⟩ hY F (fun _ _ a ns hl _ hS=>⟨a,ns,rfl,hS,hl,fun _=>rfl⟩) fun _ _ _ _ _ z=>z
end K4
namespace PySem.W.Fast
def tw4519629257111719357:=()
def tw884550450858559659:=()
def tw16365181624980181328:=()
def tw14270257377927516464:=()
def tw9730189099943622065:=()
def tw449546326798982182:=()
def tw6747782265770738520:=()
def tw8577673229178468316:=()
def tw17871140831701418707:=()
def tw6066788783903032028:=()
def tw8366111700407855471:=()
def tw14484863955738608213:=()
def tw17347726120231620732:=()
def tw12830367567526618827:=()
def tw10281278559960153789:=()
def tw574937738394300591:=()
def tw13479696224238858752:=()
def tw9048387795049691108:=()
def tw13899887724544950169:=()
def tw6528562402894839279:=()
def tw12505738883066582876:=()
def tw10586730770927366922:=()
def tw15490944803233583334:=()
def tw3745363312342647057:=()
def tw6028447250462003138:=()
def tw9837790206165506260:=()
def tw16342688848372389209:=()
def tw6647665278410276378:=()
def tw16609146783268327434:=()
def tw15872736405464910912:=()
def tw5121714255082858074:=()
def tw2309075068685044845:=()
def tw7419077336735898902:=()
def tw6196941366695427774:=()
def tw17169146326200999140:=()
def tw3759175390648209525:=()
def tw17103064934846215779:=()
def tw12226003481672850155:=()
def tw4390607892998999652:=()
def tw17088726734436277433:=()
def tw18094547727063159313:=()
def tw10952297702132663615:=()
def tw6580816858491005824:=()
def tw14938531348540117082:=()
def tw8739845847049616444:=()
def tw6653287583806450028:=()
def tw9602871833445295136:=()
def tw10844633144429091201:=()
def tw3016420489034595384:=()
def tw18293916739074023861:=()
def tw17201131184437141039:=()
def tw11274216050576896577:=()
def tw2675095596855981596:=()
def tw5897548021567976442:=()
def tw5275143260781345790:=()
def tw11785125024915531928:=()
def tw3938875373028250620:=()
def tw13996435384449622627:=()
def tw1848341163154372742:=()
def tw5052894491297740939:=()
def tw8340069710934838009:=()
def tw6765868698380254618:=()
def tw11446603772738160809:=()
def tw12711274086887397091:=()
def tw969181173921392106:=()
def tw5903934947479348638:=()
def tw3016274333351539407:=()
def tw17694175709701439002:=()
def tw9358578472136940917:=()
def tw17527243937412542527:=()
def tw13164211961663816090:=()
def tw2735347204087997661:=()
def tw5980505026293881805:=()
def tw14044159037764229751:=()
def tw12441702763483892379:=()
def tw5840944482300507980:=()
def tw11112647678754247181:=()
def tw8641427578037667053:=()
def tw15966224969675804550:=()
def tw11138811545648892219:=()
def tw5416111974733373181:=()
def tw5710788284982366037:=()
def tw2526054539903869447:=()
def tw16957062747831976980:=()
def tw2760291297796832922:=()
def tw18052684856623707128:=()
def tw9142988871774224315:=()
def tw7106235661570424054:=()
def tw8723248357767672979:=()
def tw588327614749672060:=()
def tw11935844556013853799:=()
def tw13932937107824571029:=()
def tw16138329988946043265:=()
def tw5704779593007564525:=()
def tw9998065655911524646:=()
def tw10207046693366798856:=()
def tw18412237373941136560:=()
def tw93382886346282099:=()
def tw15728316243009716871:=()
def tw2382390316130951640:=()
def tw14624194264996502393:=()
def tw1469402314594506793:=()
def tw14058868653509301878:=()
def tw15955162940949560882:=()
def tw1333086634422465496:=()
def tw13640065760947299798:=()
def tw7321706471948843793:=()
def tw8462756553714460215:=()
def tw2797289692022396622:=()
def tw6113966124994399416:=()
def tw16452933573861480563:=()
def tw5946400140299352107:=()
def tw12699424136160631042:=()
def tw6594004822007057917:=()
def tw16798776475535394619:=()
def tw4641553207675853612:=()
def tw11396348253630288592:=()
def tw6576333414366957902:=()
def tw672307901908867271:=()
def tw2977338354289346642:=()
def tw2844511858268561940:=()
def tw14629804704388827255:=()
def tw15066319975000918964:=()
def tw15155773638978217489:=()
def tw13744417343546904267:=()
def tw17539347179128179384:=()
def tw7934532047183183785:=()
def tw16557448849228580091:=()
def tw7369280492039501689:=()
def tw10032485534150663572:=()
def tw2363886822816837883:=()
def tw5810029760619789421:=()
def tw16551084713055467549:=()
def tw14786593139726312148:=()
def tw17316246229199136738:=()
def tw8599596859415460109:=()
def tw16618657098311712300:=()
def tw11699236519353059961:=()
def tw13195102022607169961:=()
def tw4506108230471429493:=()
def tw11921071683705359134:=()
def tw6257912339490358335:=()
def tw2247894300017602292:=()
def tw12917998017313963567:=()
def tw13263021841019646597:=()
def tw17181863580506953842:=()
def tw12078003449085631382:=()
def tw8670458493298886121:=()
def tw11299267747000440926:=()
def tw1632132938098424441:=()
def tw16415065850071681366:=()
def tw3472560446778243069:=()
def tw1228168270587492669:=()
def tw12009358502878455947:=()
def tw12673209777745055422:=()
def tw8004831810266843791:=()
def tw2929505633179181202:=()
def tw16734595906559031536:=()
def tw11612625545470814769:=()
def tw3831750377582490851:=()
def tw12485660401283822110:=()
def tw177307596361756047:=()
def tw1486887979598790303:=()
def tw13729444817570102344:=()
def tw10931344216327774687:=()
def tw359549500149222666:=()
def tw8497037892121585513:=()
def tw9319683617948497039:=()
def tw9209427585059426127:=()
def tw5490071112891066365:=()
def tw7774029929510026270:=()
def tw638628770273594760:=()
def tw11132126899774015467:=()
def tw12837924360199131475:=()
def tw7858746690842951499:=()
def tw1106972594074066570:=()
def tw8308408582333718865:=()
def tw3454425507926508767:=()
def tw4770519526540913183:=()
def tw2829179160354943768:=()
def tw11109603940511400216:=()
def tw2370096229292998519:=()
def tw4750353272722444796:=()
def tw1247103169979737877:=()
def tw515219147948093671:=()
def tw3300820363969587285:=()
def tw46578126735777691:=()
def tw3596446867421722635:=()
def tw9408332979297000721:=()
def tw11021402782513957084:=()
def tw6565425638570421988:=()
def tw7571915551939158475:=()
def tw8543576269076072778:=()
def tw9604022488252218917:=()
def tw2993501381953574084:=()
def tw8758556546883344465:=()
def tw11907836504266279308:=()
def tw7591777636689475732:=()
def tw9402530564533051240:=()
def tw11322219659977996619:=()
def tw814254197775399129:=()
def tw3375263419497033057:=()
def tw6842479700998456206:=()
def tw15198408242757489971:=()
def tw8103392345684175130:=()
def tw16434729696843142348:=()
def tw12746353847494829403:=()
def tw1627539141806002992:=()
def tw15393555924442840934:=()
def tw12073632636491551118:=()
def tw6520689106650999760:=()
def tw15090965840704206830:=()
def tw5627510654479091338:=()
def tw4218557916449962337:=()
def tw2251675736285467817:=()
def tw14919105306682169119:=()
def tw15135399357971655712:=()
def tw4803615340824425161:=()
def tw6914303660425914419:=()
def tw13756584967162985331:=()
def tw12570145563968880969:=()
def tw12052535141923860952:=()
def tw13870546277218407956:=()
def tw6409153276983247888:=()
def tw11501002568198299027:=()
def tw13692075038383707038:=()
def tw1581571791807007095:=()
def tw1421818990616573143:=()
def tw18293839806658442366:=()
def tw5865348859728670377:=()
def tw14634076623735974816:=()
def tw13983869337543050636:=()
def tw13874162109131725071:=()
def tw16653760618138670429:=()
def tw7956446224048245903:=()
def tw940151496784923885:=()
def tw13109799408469395478:=()
def tw4815744339864983490:=()
def tw2971046998624488653:=()
def tw11371610788655492487:=()
def tw17800534706480431883:=()
def tw17019424507087933846:=()
def tw15501442899454389538:=()
def tw2360308220977009114:=()
def tw13089571331020716380:=()
def tw11344794431744050820:=()
def tw6501827967210052926:=()
def tw13465822561176792435:=()
def tw6065047135483670809:=()
def tw12878936430934066710:=()
def tw7811500368901901212:=()
def tw13054391689522772344:=()
def tw12893033623004304310:=()
def tw10148958689111893828:=()
def tw6254274570954529312:=()
def tw18022181646794735362:=()
def tw10396035600087456823:=()
def tw7855246829109796029:=()
def tw3937779415311786142:=()
def tw17836867896091554014:=()
def tw4532543932484156499:=()
def tw18319446974553651494:=()
def tw14360412515517933945:=()
def tw10227179479519317858:=()
def tw3512385246555862467:=()
def tw6319286609405921319:=()
def tw8194267778363079162:=()
def tw12963723548665535948:=()
def tw15329816416167756815:=()
def tw4808431271222401171:=()
def tw15467876240955970838:=()
def tw7547785935404055339:=()
def tw381091589837687254:=()
def tw476101185949222960:=()
def tw15088293608442740965:=()
def tw10391761852898781592:=()
def tw15525799938322090203:=()
def tw9024685935630263207:=()
def tw14821318831708924235:=()
def tw2131437585685804671:=()
def tw14500240422768584279:=()
def tw4255160954227710786:=()
def tw999071398222477153:=()
def tw4496402903844686437:=()
def tw17664037822270203022:=()
def tw7689049175094782661:=()
def tw6392921129939506746:=()
def tw13512214208564683037:=()
def tw17899403599692770577:=()
def tw4700158929652675127:=()
def tw3766378373246006269:=()
def tw11895731303550227317:=()
def tw5153039134002436512:=()
def tw7454965165381939192:=()
def tw18426534163979393736:=()
def tw17073798249735306043:=()
def tw1392021059405933501:=()
def tw15245666176615128750:=()
def tw12700287036077081242:=()
def tw557896684538683528:=()
def tw8525209396780545511:=()
def tw8082376632280483817:=()
def tw15832136255566690671:=()
def tw7059713527106668799:=()
def tw7666798586619390213:=()
def tw7666344214227353930:=()
def tw13056656609552849567:=()
def tw9749982092426180548:=()
def tw7177275976060922839:=()
def tw18122413011907881699:=()
def tw5884894157126845021:=()
def tw6858856561093612631:=()
def tw5997658631969652337:=()
def tw10976879823124189838:=()
def tw1688254762455437258:=()
def tw2933152121070089962:=()
def tw18253820272166622771:=()
def tw15502432862794355197:=()
def tw12358667735941381755:=()
def tw8566700425246203875:=()
def tw510249871902995297:=()
def tw7446891796323246006:=()
def tw4857118622773265288:=()
def tw14665269635206938814:=()
def tw11328582943665741644:=()
def tw7573521084893247074:=()
def tw11558546782300851758:=()
def tw8990750802141792646:=()
def tw6651223723849425689:=()
def tw11353963722694848296:=()
def tw4291922467784240082:=()
def tw5308811096703177714:=()
def tw69719198482486965:=()
def tw4734368494596690556:=()
def tw6044462153230301304:=()
def tw10089454288545379101:=()
def tw12338093103313069001:=()
def tw585816309774537073:=()
def tw2788349705598804781:=()
def tw2673852017576804896:=()
def tw4637343767532999401:=()
def tw15643636068872633812:=()
def tw4412883563870462151:=()
def tw10673747936070118975:=()
def tw3151629634206721899:=()
def tw2928001221907624045:=()
def tw7050834341451426260:=()
def tw6219399937534291117:=()
def tw5474976572210393992:=()
def tw5416116656646409954:=()
def tw4815013646869604375:=()
def tw3670414314051262199:=()
def tw14825486440830741022:=()
def tw14595125798942689892:=()
def tw12209352273333681666:=()
def tw1059488033234627519:=()
def tw7423469951510057664:=()
def tw7271730812811436268:=()
def tw2851604900462774025:=()
def tw17872586635970398839:=()
def tw14200182193728227554:=()
def tw4025817503842699951:=()
def tw1106890979331616114:=()
def tw5775712802220453339:=()
def tw10420338938563196153:=()
def tw17976029519719694281:=()
def tw9329336955226154611:=()
def tw15273166309861630833:=()
def tw17784454907013858371:=()
def tw7036169236589919512:=()
def tw11370199395738696536:=()
def tw15960478509047758352:=()
def tw12378467653996901240:=()
def tw2499237875984652678:=()
def tw17628535225894245423:=()
def tw8577149239341963814:=()
def tw7412155750023007295:=()
def tw3848642880256188574:=()
def tw16671037789931520433:=()
def tw17521563751558595919:=()
def tw2692004098090072354:=()
def tw6468756578481708531:=()
def tw5605709988327928014:=()
def tw4273039752631265356:=()
def tw12486106962748126570:=()
def tw10549424525471531257:=()
def tw3617053095749079415:=()
def tw9214197097669846591:=()
def tw11826437507978139880:=()
def tw3115948942289087942:=()
def tw15679493061048617573:=()
def tw9248351004151541825:=()
def tw7462911418868776574:=()
def tw717510340715867757:=()
def tw55884146373851360:=()
def tw2375027666379072918:=()
def tw2209672888732973889:=()
def tw1956309909852853534:=()
def tw1741598408096786818:=()
def tw17180295352939360084:=()
def tw16096586495194080361:=()
def tw14787225410480531045:=()
def tw13918349499522896045:=()
def tw11037616510818276816:=()
def tw4986606119627283480:=()
def tw7877150034520117287:=()
def tw6278590979669932615:=()
def tw6755283355603849475:=()
def tw13757131002767211801:=()
def tw12816715053582570352:=()
def tw4422478516435757227:=()
def tw16939565957546249649:=()
def tw15447852045306728545:=()
def tw392605083329780175:=()
def tw4019076193263477481:=()
def tw2045164752004134950:=()
def tw16816405585493370059:=()
def tw14907881659252746570:=()
def tw10769621146926304611:=()
def tw3172920851188743851:=()
def tw16750897248493573793:=()
def tw17359646280876261088:=()
def tw1061587756533526205:=()
def tw1957524090930821169:=()
def tw17131365529615627926:=()
def tw13566723119436524497:=()
def tw5745511361781476519:=()
def tw335587720027427007:=()
def tw2837752231780903326:=()
def tw11057734003895799985:=()
def tw15240664538212367831:=()
def tw8377191742788057126:=()
def tw5595498605924777044:=()
def tw4811859247049222886:=()
def tw4539565596583621311:=()
def tw3931404560137565814:=()
def tw17910832358924605688:=()
def tw15163976434127696773:=()
def tw1433823543140247900:=()
def tw1354090288805178087:=()
def tw13107578113161042443:=()
def tw130531092379704005:=()
def tw12615639343046744438:=()
def tw3259624351307629797:=()
def tw6668174088260829840:=()
def tw62782708449343256:=()
def tw5140946616288521665:=()
def tw4696802664859467848:=()
def tw18222523484094450324:=()
def tw1698825563198744502:=()
def tw15855316392518089541:=()
def tw1241874617435085205:=()
def tw12198234871874818482:=()
def tw11223298751187369071:=()
def tw10840575247059376692:=()
def tw10628994988189096813:=()
def tw3090819431513132123:=()
def tw9894046070844315004:=()
def tw9388650762171351233:=()
def tw921293855879864246:=()
end PySem.W.Fast
set_option tactic.hygienic true
open PySem PySem.W PyProof.Rows
set_option maxRecDepth 100000 in
set_option maxHeartbeats 0 in
theorem PySem.Challenge.cw_wantway_k07_no_heads_holds : PySem.Challenge.rw_wantway_k07_no_heads.Holds := by
  w_on; o_law; k_head; (case hw => w_witness2)
  k_fill
  refine K4.goes (l := PySem.Challenge.rw_wantway_k07_no_heads) rfl rfl (fun w h Y => PySem.W.kIn_of Y) ?F
  case F =>
    intro w mg fa h KX G hmg
    refine' K4.all_at KX G hmg ?_ ?_ ?_ ?_ ?_ ?_ ?_ ?_ ?_ ?_ ?_ ?_ ?_ ?_ ?_ ?_ ?_ ?_ ?_ ?_ ?_ ?_ ?_ ?_ ?_ ?_ ?_ ?_ ?_ ?_ ?_ ?_ ?_ ?_ ?_ ?_ ?_ ?_ ?_ ?_ ?_ ?_ ?_ ?_ ?_ ?_ ?_ ?_ ?_ ?_ ?_ ?_ ?_ ?_ ?_ ?_ ?_ ?_ ?_ ?_ ?_ ?_ ?_ ?_ ?_ ?_ ?_ ?_ ?_ ?_ ?_ ?_ ?_ ?_ ?_ ?_ ?_ ?_ ?_ ?_ ?_ ?_ ?_ ?_ ?_ ?_ ?_ ?_ ?_ ?_ ?_ ?_ ?_ ?_ ?_ ?_ ?_ ?_ ?_ ?_ ?_ ?_ ?_ ?_ ?_ ?_ ?_ ?_ ?_ ?_ ?_ ?_ ?_ ?_ ?_ ?_ ?_ ?_ ?_ ?_ ?_ ?_ ?_ ?_ ?_ ?_ ?_ ?_
    any_goals first | k_is | (refine' And.intro ?zz0 (K4.At.of ?zz1 ?zz2 ?zz3); (case zz0 => first | k_is | (constructor <;> k_is)); (case zz1 => k_is); (case zz2 => k_is); (case zz3 => k_is)) | (unfold K4.GN; k_is) | (unfold K4.GC; k_is) | (unfold K4.GF; k_is) | (refine' And.intro ?zz0 ?zz1; (case zz0 => k_is); (case zz1 => exact ⟨_, rfl⟩)) | kit_is | k_exc | (refine K4.CA.mk ?_ ?_ ?_ ?_ ?_ ?_ <;> k_is) | kernel_rfl
