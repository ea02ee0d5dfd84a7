import PyProof.Rows.All
import Wide.All
import OpenK.AllK
import Wide.FinOn
import KE.KDictList
import KE.KDictOf
import KE.KItemsList
import KE.KRevSl
import KE.KSortTup
import KE.LcSums
import Lean
import PyProof.AttrMissSeq
import PyProof.AutoSeq1
import PyProof.DictWalks
import PyProof.EnumStmt
import PyProof.EqAt
import PyProof.EqKinds
import PyProof.ExcInit
import PyProof.FactsAll.tuple
import PyProof.FactsAll.zip_1
import PyProof.ListMulRoad
import PyProof.ListOps
import PyProof.ListRange
import PyProof.NeKinds
import PyProof.Rows.SumGenD
import PyProof.SeqRoads2
import PyProof.StrWalks
import PyProof.SumWalk
import PyProof.TupleCall
import PyProof.TupleOfGen
import PyProof.WalksMore
import PyProof.ZipIter
import PySem.Challenge.RW_wantway_k44_given_worths
set_option Elab.async false
set_option linter.all false
set_option maxRecDepth 100000
set_option maxHeartbeats 8000000
set_option tactic.hygienic false
abbrev ZA:=@List.length_map
abbrev ZD:=@List.getElem?_eq_getElem
abbrev ZE:=@PySem.Heap.get?_push_of_some
abbrev ZF:=@List.getElem?_eq_some_iff
abbrev ZG:=@Nat.le_refl
abbrev ZH:=@List.getElem?_map
abbrev ZJ:=@List.mem_of_getElem?
abbrev ZK:=@List.map_append
abbrev ZL:=@List.length_append
abbrev ZM:=@List.mem_cons_of_mem
abbrev ZN:=@List.length_take
abbrev ZO:=@List.size_toArray
abbrev ZP:=@PySem.Heap.lt_size
abbrev ZQ:=@List.mem_singleton
abbrev ZT:=@Option.some.inj
abbrev ZU:=@List.mem_append_right
abbrev ZV:=@List.map_cons
abbrev ZW:=@List.mem_map
abbrev ZX:=@List.mem_append
abbrev ZY:=@PySem.Heap.get?_push_size
abbrev ZZ:=@Bool.and_eq_true
abbrev Za:=@List.mem_cons_self
abbrev Zb:=@Nat.le_trans
abbrev Zc:=@Nat.zero_le
abbrev Zd:=@List.mem_cons
abbrev Ze:=@Nat.ne_of_lt
abbrev Zf:=@List.length_cons
abbrev Zg:=@List.take_of_length_le
abbrev Zh:=@Nat.le_of_lt
abbrev Zi:=@Bool.false_ne_true
abbrev Zj:=@Option.map_eq_some_iff
abbrev Zk:=@List.mem_of_mem_take
abbrev Zl:=@PySem.wpAny_bind
abbrev Zm:=@PySem.wpAny_pure
abbrev Zn:=@PySem.wpAny_mono
abbrev Zo:=@PySem.wpAny_field
abbrev Zp:=@if_pos
abbrev Zq:=@if_neg
abbrev Zr:=@absurd
abbrev Zs:=@Ne.symm
abbrev Zt:=@of_decide_eq_true
abbrev Zu:=@PySem.boot_len
abbrev Zv:=@PySem.PassesOwn.never
abbrev Zw:=@Nat.not_lt_zero
abbrev Zx:=@Nat.lt_of_lt_of_le
abbrev Zy:=@decide_eq_false
abbrev Zz:=@PySem.F.plainAttrs_list
abbrev Z0:=@PySem.F.slot_list_append
abbrev Z1:=@PySem.F.type_list_append
local macro_rules|`(tactic|omega)=>`(tactic|lia)
namespace L2
open PySem PySem.Spec PyProof.Rows
theorem sl(n:Nat)(h:n<=sizeLine:=by decide):n<=sizeLine:=h
abbrev Key:=Sum Int Str
def JS:Key->Value->Bool
 |.inl k,v=>Value.isInt k v
 |.inr x,v=>Value.isStrOf x v
def Cu(w:World):Key->Int
 |.inl k=>hashInt k
 |.inr x=>hashStr w x
theorem VU:∀{k:Key}{v:Value},JS k v=true->(∃i t,k=Sum.inl i/\v=Value.int i t)\/(∃x t,k=Sum.inr x/\v=Value.str x t)
 |.inl i,v,h=>by
  obtain⟨t,e⟩:=Value.isInt_shape (k:=i) (v:=v) h;exact .inl ⟨i,t,rfl,e⟩
 |.inr x,v,h=>by
  obtain⟨t,e⟩:=Value.isStrOf_shape (x:=x) (v:=v) h;exact .inr ⟨x,t,rfl,e⟩
theorem Ef(i:Int)(t:Tok):JS (.inl i) (.int i t)=true:=by simp[JS,Value.isInt]
theorem RT(x:Str)(t:Tok):JS (.inr x) (.str x t)=true:=by simp[JS,Value.isStrOf]
theorem Qk(a b:Int):decide ((Sum.inl a:Key)=Sum.inl b)=(a==b):=by
 by_cases e:a=b
 .subst e;simp
 .have h:¬(Sum.inl a:Key)=Sum.inl b:=fun q=>e (Sum.inl.inj q)
  rw[Zy h];exact(beq_eq_false_iff_ne.mpr e).symm
theorem Qh(a b:Str):decide ((Sum.inr a:Key)=Sum.inr b)=decide (a=b):=by
 by_cases e:a=b
 .subst e;simp
 .have h:¬(Sum.inr a:Key)=Sum.inr b:=fun q=>e (Sum.inr.inj q)
  rw[Zy h,Zy e]
theorem Qj(a:Int)(b:Str):decide ((Sum.inl a:Key)=Sum.inr b)=false:=Zy (fun q=>nomatch q)
theorem Qi(a:Str)(b:Int):decide ((Sum.inr a:Key)=Sum.inl b)=false:=Zy (fun q=>nomatch q)
def Y9(prog:Program)(w:World):PySem.KeyKind prog w Key where
 is:=JS
 hash:=Cu w
 inj:=fun v a b ha hb=>by
  rcases VU ha with⟨i,t,rfl,rfl⟩|⟨x,t,rfl,rfl⟩
  .rcases VU hb with⟨j,u,rfl,e⟩|⟨y,u,rfl,e⟩
   .injection e with e1 _;rw[e1]
   .exact nomatch e
  .rcases VU hb with⟨j,u,rfl,e⟩|⟨y,u,rfl,e⟩
   .exact nomatch e
   .injection e with e1 _;rw[e1]
 byValue:=fun k v h=>by
  rcases VU h with⟨i,t,rfl,rfl⟩|⟨x,t,rfl,rfl⟩ <;> rfl
 pyHash:=fun hv h=>by
  rcases VU hv with⟨i,t,rfl,rfl⟩|⟨x,t,rfl,rfl⟩
  .exact wpAny_pyHash_int h
  .exact wpAny_pyHash_str h
 eqBool:=fun hu hv h=>by
  rcases VU hu with⟨i,t,rfl,rfl⟩|⟨x,t,rfl,rfl⟩
  .rcases VU hv with⟨j,u,rfl,rfl⟩|⟨y,u,rfl,rfl⟩
   .rw [Qk]at h;exact wpAny_eqBool_int h
   .rw [Qj]at h;exact SeqAt.EqAt.int_str i t y u _ _ _ _ h
  .rcases VU hv with⟨j,u,rfl,rfl⟩|⟨y,u,rfl,rfl⟩
   .rw [Qi]at h;exact SeqAt.EqAt.str_int x t j u _ _ _ _ h
   .rw [Qh]at h;exact wpAny_eqBool_str h
 «strs»:=fun k x t v h=>by
  rcases VU h with⟨i,u,rfl,e⟩|⟨y,u,rfl,e⟩
  .exact nomatch e
  .injection e with e1 _
   subst e1;cases v <;> rfl
theorem NU(prog:Program)(w:World)(i:Int)(t:Tok):(Y9 prog w).is (.inl i) (.int i t)=true:=Ef i t
theorem NT(prog:Program)(w:World)(x:Str)(t:Tok):(Y9 prog w).is (.inr x) (.str x t)=true:=RT x t
inductive V where
 |non|bl (b:Bool)|int (i:Int)|str (x:Str)|byt (b:Array UInt8)|flt (b:UInt64)|ref (a:Addr)|ty (n:String)
 deriving DecidableEq
def RelV:V->Value->Prop
 |.non,u=>u=Value.none
 |.bl b,u=>u=Value.bool b
 |.int i,u=>∃t,u=Value.int i t
 |.str x,u=>∃t,u=Value.str x t
 |.byt b,u=>∃t,u=Value.bytes b t
 |.flt b,u=>∃t,u=Value.float b t
 |.ref a,u=>u=Value.ref a
 |.ty n,u=>u=Value.type n
abbrev Vals:List V->List Value->Prop:=Paired RelV
theorem Vals.length(r:Vals xs us):xs.length=us.length:=Paired.length r
theorem Vals.get:∀{xs:List V}{us:List Value}{i:Nat}{x:V},Vals xs us->xs[i]?=some x->∃u,us[i]?=some u/\RelV x u
 |_,_,_,_,.nil,e=>by simp at e
 |_,_,0,_,.cons r _,e=>by simp at e;subst e;exact⟨_,rfl,r⟩
 |_,_,i+1,x,.cons _ t,e=>by
  obtain⟨u,h1,h2⟩:=Vals.get (i:=i) (x:=x) t (by simpa using e);exact⟨u,by simpa using h1,h2⟩
theorem Vals.set(r:RelV x u):∀{xs:List V}{us:List Value}(i:Nat),Vals xs us->Vals (xs.set i x) (us.set i u)
 |_,_,_,.nil=>.nil
 |_,_,0,.cons _ t=>.cons r t
 |_,_,i+1,.cons q t=>.cons q (Vals.set r i t)
theorem Vals.append:∀{xs ys:List V}{us ws:List Value},Vals xs us->Vals ys ws->Vals (xs++ ys) (us++ ws)
 |_,_,_,_,.nil,s=>s
 |_,_,_,_,.cons r t,s=>.cons r (Vals.append t s)
theorem Vals.take:∀{xs:List V}{us:List Value}(n:Nat),Vals xs us->Vals (xs.take n) (us.take n)
 |_,_,0,_=>.nil
 |_,_,_+1,.nil=>.nil
 |_,_,n+1,.cons r t=>.cons r (Vals.take n t)
theorem Vals.drop:∀{xs:List V}{us:List Value}(n:Nat),Vals xs us->Vals (xs.drop n) (us.drop n)
 |_,_,0,r=>r
 |_,_,_+1,.nil=>.nil
 |_,_,n+1,.cons _ t=>Vals.drop n t
def Uq:Option V->Option Value->Prop
 |some v,some u=>RelV v u
 |none,none=>True
 |_,_=>False
def KV{κ:Type}:List (κ×V)->List (κ×Value)->Prop:=Paired fun(p:κ×V)(q:κ×Value)=>p.1=q.1/\RelV p.2 q.2
def kV:Key->V
 |.inl i=>.int i
 |.inr x=>.str x
inductive HO where
 /-- a list -/
 |lst (xs:List V)
 /-- a tuple (never changes) -/
 |tup (xs:List V)
 /-- a dict whose keys are ints and texts;one whose keys are tuples of ints and texts (the empty one is both) -/
 |dK (kvs:List (Key×V))|dT (kvs:List (List Key×V))
 /-- a set of ints:its members,its size -/
 |set (S:Int->Bool) (n:Nat)
 /-- an instance of the class at C,its dict at dx,its attributes -/
 |ins (C dx:Addr) (fs:List (Str×V))
 /-- the dict of the instance at x -/
 |own (x:Addr)
 /-- the dict of an exception -/
 |xd (fs:List (Str×V))
 /-- a bound method,f of x -/
 |met (f x:Addr)
 /-- a range object lo,lo+1,.. below hi -/
 |rng (lo hi:Int)
 /-- a thing that is known to the object (the script;a dict while a loop walks it):read,never written while it is so -/
 |frz (o:Obj) (u:HO)
 /-- a code object's table -/
 |tbl (ps:Array Value)
 /-- any other thing,by what is true of its one object (a def of one's own:SetO a S n:=HO.ext fun h=>..) -/
 |ext (φ:Heap->Prop)
abbrev Hp:=Addr->Option HO
def upd(H:Hp)(a:Addr)(o:HO):Hp:=fun b=>if b=a then some o else H b
theorem Ye:upd H a o a=some o:=by unfold upd;rw[Zp rfl]
theorem Yg(h:b≠a):upd H a o b=H b:=by unfold upd;rw[Zq h]
theorem JR{H:Hp}(h:H a=some o)(h':H b=some u)(d:o≠u):a≠b:=by
 intro e;subst e;rw[h]at h';exact d (ZT h')
theorem Yc{H:Hp}(h:H a=some o)(h':H b=none):a≠b:=by
 intro e;subst e;rw[h]at h';cases h'
def W0(h:Heap)(a:Addr)(items:Array Value):Prop:=∃o,h.get? a=some o/\o.dict=none/\o.cls=.type "tuple" /\∃n,o.data=.seq items n
theorem W0.is(x:W0 h a items):IsTup h a items:=let⟨o,h1,_,h2,h3⟩:=x;⟨o,h1,h2,h3⟩
theorem W0.keeps(x:W0 h a items)(hk:∀b o,h.get? b=some o->h'.get? b=some o):W0 h' a items:=let⟨o,ho,r⟩:=x;⟨o,hk a o ho,r⟩
theorem W0.new(h:Heap)(items:Array Value):W0 (h.push {cls:=.type "tuple",data:=.seq items}) h.objs.size items:=⟨_,ZY _ rfl,rfl,rfl,_,rfl⟩
section
variable(P:Program)(w:World)
def VT(H:Hp)(h:Heap)(a:Addr):HO->Prop
 |.lst xs=>xs.length<=sizeLine/\∃(its:List Value)(n:Nat),Vals xs its/\h.get? a=some {cls:=.type "list",data:=.seq its.toArray n}
 |.tup xs=>xs.length<=sizeLine/\∃its:List Value,Vals xs its/\W0 h a its.toArray
 |.dK kvs=>kvs.length<=sizeLine/\(a==sysModules)=false/\∃vs,KV kvs vs/\h.DictOf (Y9 P w) a vs
 |.dT kvs=>kvs.length<=sizeLine/\(a==sysModules)=false/\∃xs:List (List Key×Addr×Value),
   Paired (fun(p:List Key×V)(q:List Key×Addr×Value)=>p.1=q.1/\H q.2.1=some (.tup (p.1.map kV))/\RelV p.2 q.2.2) kvs xs/\
   ∃o es ep,h.get? a=some o/\o.ExactDict/\o.data=.dict es ep/\es.toList=xs.map (entryOfKey (tupleKind (Y9 P w)))/\(xs.map (·.1)).Nodup
 |.set S n=>h.SetOf (intKind P w) a S n
 |.ins C dx fs=>H dx=some (.own a)/\fs.length<=1000/\dx≠a/\h.get? a=some (W.instObj C dx)/\
   ∃mA,h.Ns1 dx mA/\(∀f,Uq (fs.lookup f) (mA f))/\PySem.Within mA (fs.map (·.1))
 |.own _=>∃o,h.get? a=some o
 |.xd fs=>∃mA,h.Ns1 a mA/\∀f,Uq (fs.lookup f) (mA f)
 |.rng lo hi=>∃t u v,h.get? a=some {cls:=.type "range",data:=.fields #[.int lo t,.int hi u,.int 1 v]}
 |.frz o u=>h.get? a=some o/\VT H h a u
 |.tbl ps=>h.get? a=some {cls:=.none,data:=.fields ps}
 |.met f x=>h.get? a=some (W.methodObj (.ref f) (.ref x))
 |.ext φ=>φ h/\(∃o,h.get? a=some o)/\∀h1 h2:Heap,φ h1->(∀o,h1.get? a=some o->h2.get? a=some o)->φ h2
def HOk(H:Hp)(h:Heap):Prop:=∀a o,H a=some o->VT P w H h a o
end
section
theorem VT.lt(x:VT P w H h a o):a<h.objs.size:=by
 cases o with
 |lst xs=>obtain⟨_,_,_,_,e⟩:=x;exact ZP e
 |tup xs=>obtain⟨_,_,_,p⟩:=x;exact p.is.lt
 |dK kvs=>obtain⟨_,_,_,_,o,_,_,e,_⟩:=x;exact ZP e
 |dT kvs=>obtain⟨_,_,_,_,o,_,_,e,_⟩:=x;exact ZP e
 |set S n=>obtain⟨o,_,_,_,e,_⟩:=x;exact ZP e
 |ins C dx fs=>obtain⟨_,_,_,e,_⟩:=x;exact ZP e
 |own y=>obtain⟨_,e⟩:=x;exact ZP e
 |xd fs=>obtain⟨_,⟨_,_,_,e,_⟩,_⟩:=x;exact ZP e
 |rng lo hi=>obtain⟨_,_,_,e⟩:=x;exact ZP e
 |frz ob u=>obtain⟨e,_⟩:=x;exact ZP e
 |tbl ps=>exact ZP (show h.get? a=some _ from x)
 |met f y=>exact ZP (show h.get? a=some _ from x)
 |ext φ=>obtain⟨_,⟨_,e⟩,_⟩:=x;exact ZP e
theorem Paired.mapP:∀{l₁:List α}{l₂:List β},Paired F l₁ l₂->(∀a b,F a b->G a b)->Paired G l₁ l₂
 |_,_,.nil,_=>.nil
 |_,_,.cons r t,f=>.cons (f _ _ r) (Paired.mapP t f)
theorem VT.stay(x:VT P w H h a o)(k:∀b u,(b=a\/H b=some (.own a))->h.get? b=some u->h'.get? b=some u)(ho:∀b,H b=some (.own a)->H' b=some (.own a))(ht:∀b xs,H b=some (.tup xs)->H' b=some (.tup xs)):VT P w H' h' a o:=by
 induction o with
 |lst xs=>obtain⟨z,its,n,r,e⟩:=x;exact⟨z,its,n,r,k _ _ (.inl rfl) e⟩
 |tup xs=>obtain⟨z,its,r,ob,e,c⟩:=x;exact⟨z,its,r,ob,k _ _ (.inl rfl) e,c⟩
 |dK kvs=>obtain⟨z,y,vs,r,ob,es,ep,e,c⟩:=x;exact⟨z,y,vs,r,ob,es,ep,k _ _ (.inl rfl) e,c⟩
 |dT kvs=>
  obtain⟨z,y,xs,r,ob,es,ep,e,c⟩:=x;exact⟨z,y,xs,Paired.mapP r fun p q z=>⟨z.1,ht _ _ z.2.1,z.2.2⟩,ob,es,ep,k _ _ (.inl rfl) e,c⟩
 |set S n=>obtain⟨ob,es,ep,t,e,c⟩:=x;exact⟨ob,es,ep,t,k _ _ (.inl rfl) e,c⟩
 |ins C dx fs=>
  obtain⟨d,z,ne,e,mA,⟨od,es,ep,e2,c⟩,r⟩:=x;exact⟨ho _ d,z,ne,k _ _ (.inl rfl) e,mA,⟨od,es,ep,k _ _ (.inr d) e2,c⟩,r⟩
 |own y=>obtain⟨ob,e⟩:=x;exact⟨ob,k _ _ (.inl rfl) e⟩
 |xd fs=>obtain⟨mA,⟨od,es,ep,e,c⟩,r⟩:=x;exact⟨mA,⟨od,es,ep,k _ _ (.inl rfl) e,c⟩,r⟩
 |rng lo hi=>obtain⟨t,u,v,e⟩:=x;exact⟨t,u,v,k _ _ (.inl rfl) e⟩
 |frz ob u ih=>obtain⟨e,q⟩:=x;exact⟨k _ _ (.inl rfl) e,ih q⟩
 |tbl ps=>
  have e:h.get? a=some {cls:=.none,data:=.fields ps}:=x;show h'.get? a=some {cls:=.none,data:=.fields ps};exact k a _ (.inl rfl) e
 |met f y=>
  have e:h.get? a=some (W.methodObj (.ref f) (.ref y)):=x;show h'.get? a=some (W.methodObj (.ref f) (.ref y));exact k a _ (.inl rfl) e
 |ext φ=>obtain⟨p,⟨o,e⟩,st⟩:=x;exact⟨st _ _ p fun o q=>k _ _ (.inl rfl) q,⟨o,k _ _ (.inl rfl) e⟩,st⟩
theorem HOk.lt(x:HOk P w H h)(e:H a=some o):a<h.objs.size:=(x a o e).lt
theorem HOk.fresh(x:HOk P w H h)(e:h.objs.size<=a):H a=none:=by
 cases q:H a with
 |none=>rfl
 |some u=>exact Zr (Zx (x.lt q) e) (Nat.lt_irrefl _)
theorem HOk.kept(x:HOk P w H h)(k:∀b u,h.get? b=some u->h'.get? b=some u):HOk P w H h':=fun a o e=>
 (x a o e).stay (fun b u _ q=>k b u q) (fun _ q=>q) fun _ _ q=>q
theorem HOk.laid(x:HOk P w H h)(k:∀b u,h.get? b=some u->h'.get? b=some u)(hp:h.objs.size<=a)(new:VT P w (upd H a o) h' a o):HOk P w (upd H a o) h':=fun b u e=>by
 have hn:=x.fresh hp
 by_cases hb:b=a
 .subst hb;rw[Ye]at e;cases e;exact new
 .rw [Yg hb]at e
  exact(x b u e).stay (fun c v _ q=>k c v q) (fun c q=>by rw[Yg (Yc q hn)];exact q) fun c xs q=>by rw[Yg (Yc q hn)];exact q
end
def Rd(H:Hp)(a:Addr)(u:HO):Prop:=H a=some u \/ ∃o,H a=some (.frz o u)
theorem Rd.ok(r:Rd H a u)(x:HOk P w H h):VT P w H h a u:=by
 rcases r with r|⟨o,r⟩
 .exact x a u r
 .obtain ⟨_,q⟩:=x a _ r
  exact q
def Mut:Option HO->Prop
 |some (.lst _)=>True
 |some (.dK _)=>True
 |some (.dT _)=>True
 |some (.set _ _)=>True
 |some (.ins _ _ _)=>True
 |some (.ext _)=>True
 |_=>False
section
theorem HOk.write(ok:HOk P w H h)(mu:Mut (H x))(he:e=x\/H e=some (.own x))(k:∀b u,b≠e->h.get? b=some u->h'.get? b=some u)(heo:∃u,h'.get? e=some u)(new:VT P w (upd H x o') h' x o'):HOk P w (upd H x o') h':=fun b u q=>by
 have nown:∀c y,H c=some (.own y)->c≠x:=fun c y r z=>by subst z;rw[r]at mu;exact mu
 have ntup:∀c xs,H c=some (.tup xs)->c≠x:=fun c xs r z=>by subst z;rw[r]at mu;exact mu
 by_cases hb:b=x
 .subst hb;rw[Ye]at q;cases q;exact new
 .rw [Yg hb]at q
  by_cases hbe:b=e
  .have q':H b=some (.own x):=by
    rcases he with z|z
    .exact Zr (hbe.trans z) hb
    .rw [hbe];exact z
   rw[q]at q';cases q';obtain⟨v,hv⟩:=heo;exact⟨v,by rw[hbe];exact hv⟩
  .refine (ok b u q).stay (fun c v hc r=>k c v ?_ r) (fun c r=>by rw[Yg (nown c b r)];exact r) fun c xs r=>by rw[Yg (ntup c xs r)];exact r
   rcases hc with rfl|hc
   .exact hbe
   .rintro rfl
    rcases he with z|z
    .exact nown c b hc z
    .rw [hc]at z;cases z;exact hb rfl
end
structure Un(fs ex:List Addr)(H H':Hp)(h h':Heap):Prop where
 keep:∀b o,h.get? b=some o->H b=none->b∉fs->b∉ex->h'.get? b=some o
 slot:∀b o,h.get? b=some o->H b=none->b∈fs->b∉ex->∃sl,h'.get? b=some {o with slots:=sl}
 free:∀b o,h.get? b=some o->H b=none->b∉ex->H' b=none
 there:∀b o,h.get? b=some o->b∉ex->∃o',h'.get? b=some o'
 tups:∀b xs,H b=some (.tup xs)->H' b=some (.tup xs)
 frzs:∀b o u,H b=some (.frz o u)->H' b=some (.frz o u)
 tbls:∀b ps,H b=some (.tbl ps)->∃more,H' b=some (.tbl (ps++ more))
section
variable{fs fs' ex ex':List Addr}{H H1 H2:Hp}{h h1 h2 h':Heap}{a x e:Addr}{o:HO}
theorem Un.any(u:Un fs ex H H1 h h1)(q:h.get? b=some ob)(n:H b=none)(hx:b∉ex):∃sl,h1.get? b=some {ob with slots:=sl}:=by
 by_cases hb:b∈fs
 .exact u.slot b ob q n hb hx
 .exact ⟨ob.slots,u.keep b ob q n hb hx⟩
theorem Un.kept(k:∀b u,h.get? b=some u->h'.get? b=some u):Un fs ex H H h h':=
 ⟨fun b ob q _ _ _=>k b ob q,fun b ob q _ _ _=>⟨ob.slots,k b ob q⟩,fun _ _ _ n _=>n,fun b ob q _=>⟨ob,k b ob q⟩,fun _ _ q=>q,fun _ _ _ q=>q,fun _ ps q=>⟨#[],by rw[q];simp⟩⟩
theorem Un.refl:Un fs ex H H h h:=Un.kept fun _ _ q=>q
theorem Un.laid(k:∀b u,h.get? b=some u->h'.get? b=some u)(hp:h.objs.size<=a)(hn:H a=none):Un fs ex H (upd H a o) h h' where
 keep:=fun b u q _ _ _=>k b u q
 slot:=fun b u q _ _ _=>⟨u.slots,k b u q⟩
 free:=fun b u q n _=>by rw[Yg (Ze (Zx (ZP q) hp))];exact n
 there:=fun b u q _=>⟨u,k b u q⟩
 tups:=fun b xs q=>by rw[Yg (Yc q hn)];exact q
 frzs:=fun b u xs q=>by rw[Yg (Yc q hn)];exact q
 tbls:=fun b ps q=>⟨#[],by rw[Yg (Yc q hn),q];simp⟩
theorem Un.write(mu:Mut (H x))(he:e=x\/H e=some (.own x))(k:∀b u,b≠e->h.get? b=some u->h'.get? b=some u)(heo:∃u,h'.get? e=some u):Un fs ex H (upd H x o) h h':=by
 have hx:∀b,H b=none->b≠x:=fun b n z=>by subst z;rw[n]at mu;exact mu
 have hb:∀b,H b=none->b≠e:=fun b n z=>by
  subst z;rcases he with r|r
  .exact hx b n r
  .rw [n]at r;cases r
 have hm:∀b u,H b=some u->¬Mut (some u)->b≠x:=fun b u q nm z=>by subst z;rw[q]at mu;exact nm mu
 refine⟨fun b u q n _ _=>k b u (hb b n) q,fun b u q n _ _=>⟨u.slots,k b u (hb b n) q⟩,fun b u q n _=>by rw[Yg (hx b n)];exact n,fun b u q _=>?_,
  fun b xs q=>by rw[Yg (hm b _ q fun z=>z)];exact q,fun b u xs q=>by rw[Yg (hm b _ q fun z=>z)];exact q,fun b ps q=>⟨#[],by rw[Yg (hm b _ q fun z=>z),q];simp⟩⟩
 by_cases hbe:b=e
 .subst hbe;exact heo
 .exact ⟨u,k b u hbe q⟩
end
def trk(h:Heap)(H:Hp):List Addr:=(List.range h.objs.size).filter fun a=>(H a).isSome
def Mi(h:Heap)(H:Hp):Heap:=W.hideAll h (trk h H)
theorem Ei(h:Heap)(H:Hp):(Mi h H).objs.size=h.objs.size:=W.hideAll_size _ _
theorem Iz(e:h.get? b=some o)(n:H b=none):(Mi h H).get? b=some o:=
 W.hideAll_get _ e fun hm=>by
  have q:(H b).isSome=true:=(List.mem_filter.mp hm).2;rw[n]at q;simp at q
theorem Lz(e:(Mi h H).get? b=some o):h.get? b=some o/\H b=none:=by
 have e':h.get? b=some o:=W.of_hideAll (trk h H) e;refine⟨e',?_⟩
 cases q:H b with
 |none=>rfl
 |some x=>
  have hm:b∈trk h H:=List.mem_filter.mpr ⟨List.mem_range.mpr (ZP e'),by simp[q]⟩;have z:(Mi h H).get? b=none:=W.hideAll_none (trk h H) hm;rw[z]at e;cases e
structure Mod(K:W.Frag)(mg:Str->Option Value)(base:Heap):Prop where
 kin:K.In base
 glob:base.Ns mainGlobals mg
 blt:∃mb,base.Ns builtinsNs mb/\∀x:Str,x≠"__name__" ->mb x=bootBuiltins x
 nolimit:base.NoLimit
structure Cx where
 prog:Program
 w:World
 K:W.Frag
 mg:Str->Option Value
 base:Heap
 A:Around
 N:List Str
 s₀:Shared
 H₀:Hp
 env:Env
 outer:List Env
 stack:List Env
 ex:List Addr
 fn:Str->Bool
 calm:Bool
 pn:List (Addr×Obj)
 xe:Value->Shared->Prop
def frs(l:List Env):List Addr:=l.filterMap (·.frame)
abbrev Cx.fs(X:Cx):List Addr:=frs X.outer
def Vis(sc:Scope)(x:Str):Prop:=sc.names.lookup x=some .local\/sc.names.lookup x=some .cell\/sc.names.lookup x=some .free
def Loc(sc:Scope)(x:Str):Prop:=sc.names.lookup x=some .local\/sc.names.lookup x=some .cell
def Look(env:Env)(h:Heap)(m:Str->Option Value)(x:Str)(u:Value):Prop:=
 (env.kindOf x=some .local/\m x=some u)\/((env.kindOf x=some .cell\/env.kindOf x=some .free)/\∃c,env.cells.lookup x=some c/\h.IsCell c (some u))
structure Cx.Ok(X:Cx):Prop where
 mod:Mod X.K X.mg X.base
 kind:X.env.scope.kind=.function
 glob:X.env.globals=mainGlobals
 blt:X.env.builtins=builtinsNs
 above:X.s₀.heap.objs.size<=X.env.locals
 inj:∀x y c,X.env.cells.lookup x=some c->X.env.cells.lookup y=some c->x=y
 has:∀x,(X.env.kindOf x=some .cell\/X.env.kindOf x=some .free)->∃c,X.env.cells.lookup x=some c
 cab:∀x c,X.fn x=true->X.env.cells.lookup x=some c->X.s₀.heap.objs.size<=c
 hd:X.calm=true->X.A.handled=none
 frames:X.A.frames=some X.stack
 stk:X.stack=X.outer\/(X.stack=X.env::X.outer/\X.env.frame=some X.env.locals)
 exf:∀b∈X.ex,b≠X.env.locals/\∀x c,X.env.cells.lookup x=some c->c≠b
 bs:∀b o,X.base.get? b=some o->X.s₀.heap.get? b=some o/\X.H₀ b=none
 bsz:X.base.objs.size<=X.s₀.heap.objs.size
 noex:∀b o,X.base.get? b=some o->b∉X.ex
 exfs:∀b∈X.ex,b∉X.fs
 funs:X.s₀.heap.FunFrames X.base X.outer
 frf:∀b∈X.fs,X.H₀ b=none
structure Inv(X:Cx)(pins:List (Addr×Obj))(U:List (Option V))(H:Hp)(s:Shared):Prop where
 ok:X.Ok
 os:s.os=X.s₀.os
 bare:AllBare s.gens
 base:Un X.fs X.ex X.H₀ H X.s₀.heap s.heap
 loc:∃m,s.heap.Ns X.env.locals m/\∀(i:Nat)(x:Str)(v:V),X.N[i]?=some x->U[i]?=some (some v)->Vis X.env.scope x->∃u,RelV v u/\Look X.env s.heap m x u
 cell:∀x c,X.env.cells.lookup x=some c->∃v,s.heap.IsCell c v
 free:H X.env.locals=none
 freeC:∀x c,X.env.cells.lookup x=some c->H c=none
 pin:∀p∈X.pn++ pins,s.heap.get? p.1=some p.2/\H p.1=none/\p.1≠X.env.locals/\p.1∉X.fs/\∀v,p.2.data≠.cell v
 hok:HOk X.prog X.w H s.heap
 len:U.length=X.N.length
section
variable{X:Cx}
theorem Cx.Ok.nofr(ok:X.Ok)(e:X.base.get? b=some o):b∉X.fs:=fun hb=>by
 have:=(ok.funs.mem hb).1;rw[e]at this;cases this
theorem Inv.bs(I:Inv X pins U H s):∀b o,X.base.get? b=some o->s.heap.get? b=some o/\H b=none:=fun b o e=>
 ⟨I.base.keep b o (I.ok.bs b o e).1 (I.ok.bs b o e).2 (I.ok.nofr e) (I.ok.noex b o e),I.base.free b o (I.ok.bs b o e).1 (I.ok.bs b o e).2 (I.ok.noex b o e)⟩
theorem Inv.bk(I:Inv X pins U H s):∀b o,X.base.get? b=some o->s.heap.get? b=some o:=fun b o e=>(I.bs b o e).1
theorem Inv.mod(I:Inv X pins U H s):Mod X.K X.mg X.base:=I.ok.mod
theorem Inv.kIn(I:Inv X pins U H s):X.K.In s.heap:=I.ok.mod.kin.keeps I.bk
theorem Inv.lt(I:Inv X pins U H s):X.env.locals<s.heap.objs.size:=let⟨_,hn,_⟩:=I.loc;hn.lt
theorem Inv.sz(I:Inv X pins U H s):X.s₀.heap.objs.size<=s.heap.objs.size:=Zb I.ok.above (Zh I.lt)
theorem Inv.nofs(I:Inv X pins U H s)(h:s.heap.objs.size<=a):a∉X.fs:=fun hb=>by
 obtain⟨_,o,ho,_⟩:=I.ok.funs.mem hb;exact Zr (Zx (ZP ho) (Zb I.sz h)) (Nat.lt_irrefl _)
theorem Inv.cne(I:Inv X pins U H s):∀x c,X.env.cells.lookup x=some c->c≠X.env.locals:=fun x c e z=>by
 obtain⟨v,o,ho,hd⟩:=I.cell x c e;obtain⟨m,⟨o',es,ep,ho',hd',_⟩,_⟩:=I.loc;rw[z,ho']at ho;cases ho;rw[hd']at hd;cases hd
theorem Inv.funs(I:Inv X pins U H s):s.heap.FunFrames X.base X.outer:=by
 have all:∀(l:List Env),(∀b∈frs l,b∈X.fs)->X.s₀.heap.FunFrames X.base l->s.heap.FunFrames X.base l:=by
  intro l
  induction l with
  |nil=>intro _ _;trivial
  |cons env r ih=>
   intro hs hl;obtain⟨hk,⟨L,o,hf,hn,ho,hd⟩,hr⟩:=hl;have hL:L∈X.fs:=hs L (by unfold frs;rw[List.filterMap_cons,hf];exact Za);obtain⟨sl,e⟩:=I.base.slot L o ho (I.ok.frf L hL) hL fun z=>I.ok.exfs L z hL;exact⟨hk,⟨L,_,hf,hn,e,hd⟩,ih (fun b hb=>hs b (by unfold frs;rw[List.filterMap_cons,hf];exact ZM _ hb)) hr⟩
 exact all X.outer (fun _ hb=>hb) I.ok.funs
theorem Inv.stack(I:Inv X pins U H s):s.heap.FunFrames X.base X.stack:=by
 rcases I.ok.stk with e|⟨e,hf⟩
 .rw [e];exact I.funs
 .rw [e]
  obtain⟨m,hn,_⟩:=I.loc;refine .cons (by rw[I.ok.kind];decide) hf hn ?_ I.funs;exact Heap.get?_none_of_le (Zb I.ok.bsz I.ok.above)
theorem Inv.stkSub(I:Inv X pins U H s):∀b∈frs X.stack,b∈X.env.locals::X.fs:=fun b hb=>by
 rcases I.ok.stk with e|⟨e,hf⟩
 .rw [e]at hb;exact ZM _ hb
 .rw [e]at hb
  unfold frs at hb;rw[List.filterMap_cons,hf]at hb;exact hb
theorem Inv.stkFree(I:Inv X pins U H s):∀b∈frs X.stack,H b=none:=fun b hb=>by
 rcases Zd.mp (I.stkSub b hb)with e|hb
 .rw [e];exact I.free
 .obtain ⟨_,o,ho,_⟩:=I.ok.funs.mem hb
  exact I.base.free b o ho (I.ok.frf b hb) fun z=>I.ok.exfs b z hb
theorem Inv.step{ch:List Addr}(I:Inv X pins U H s)(hch:∀b∈ch,(b∈X.ex\/X.s₀.heap.objs.size<=b)/\b≠X.env.locals/\(∀x c,X.env.cells.lookup x=some c->c≠b)/\∀p∈X.pn++ pins,p.1≠b)(keep:∀b o,b≠X.env.locals->b∉X.fs->b∉ch->s.heap.get? b=some o->H b=none->h'.get? b=some o)(slot:∀b o,b≠X.env.locals->b∈X.fs->b∉ch->s.heap.get? b=some o->H b=none->∃sl,h'.get? b=some {o with slots:=sl})(free:∀b o,b∉ch->s.heap.get? b=some o->H b=none->H' b=none)(there:∀b o,b∉ch->s.heap.get? b=some o->∃o',h'.get? b=some o')(tups:∀b xs,H b=some (.tup xs)->H' b=some (.tup xs))(frzs:∀b o u,H b=some (.frz o u)->H' b=some (.frz o u))(tbls:∀b ps,H b=some (.tbl ps)->∃more,H' b=some (.tbl (ps++ more)))(ns:∀m,s.heap.Ns X.env.locals m->h'.Ns X.env.locals m)(hok:HOk X.prog X.w H' h')(hg:AllBare g'):
  Inv X pins U H' {s with heap:=h',gens:=g',drawn:=d',toks:=t'}:=by
 have neL:∀b o,X.s₀.heap.get? b=some o->b≠X.env.locals:=fun b o e=>Ze (Zx (ZP e) I.ok.above)
 have neC:∀b o,X.s₀.heap.get? b=some o->b∉X.ex->b∉ch:=fun b o e hx hb=>by
  rcases(hch b hb).1 with z|z
  .exact hx z
  .exact Zr (Zx (ZP e) z) (Nat.lt_irrefl _)
 have cellK:∀x c,X.env.cells.lookup x=some c->∀v,s.heap.IsCell c v->h'.IsCell c v:=fun x c e v ⟨o,ho,hd⟩=>by
  have nch:c∉ch:=fun z=>(hch c z).2.2.1 x c e rfl
  by_cases hc:c∈X.fs
  .obtain ⟨sl,q⟩:=slot c o (I.cne x c e) hc nch ho (I.freeC x c e)
   exact⟨_,q,hd⟩
  .exact ⟨o,keep c o (I.cne x c e) hc nch ho (I.freeC x c e),hd⟩
 refine⟨I.ok,I.os,hg,⟨fun b o e n hb hx=>?_,fun b o e n hb hx=>?_,fun b o e n hx=>?_,fun b o e hx=>?_,fun b xs e=>tups b xs (I.base.tups b xs e),fun b o xs e=>frzs b o xs (I.base.frzs b o xs e),fun b ps e=>?_⟩,?_,fun x c e=>?_,?_,fun x c e=>?_,fun p hp=>?_,hok,I.len⟩
 .exact keep b o (neL b o e) hb (neC b o e hx) (I.base.keep b o e n hb hx) (I.base.free b o e n hx)
 .obtain ⟨sl,e1⟩:=I.base.slot b o e n hb hx
  obtain⟨sl',e2⟩:=slot b _ (neL b o e) hb (neC b o e hx) e1 (I.base.free b o e n hx);exact⟨sl',e2⟩
 .obtain ⟨o',e1⟩:=I.base.there b o e hx
  exact free b o' (neC b o e hx) e1 (I.base.free b o e n hx)
 .obtain ⟨o',e1⟩:=I.base.there b o e hx
  exact there b o' (neC b o e hx) e1
 .obtain ⟨m1,e1⟩:=I.base.tbls b ps e
  obtain⟨m2,e2⟩:=tbls b _ e1;exact⟨m1++ m2,by rw[e2,Array.append_assoc]⟩
 .obtain ⟨m,hn,hl⟩:=I.loc
  refine⟨m,ns m hn,fun i x v e1 e2 e3=>?_⟩;obtain⟨u,r,l⟩:=hl i x v e1 e2 e3;refine⟨u,r,?_⟩;rcases l with l|⟨k,c,e,z⟩
  .exact .inl l
  .exact .inr ⟨k,c,e,cellK x c e _ z⟩
 .obtain ⟨v,z⟩:=I.cell x c e
  exact⟨v,cellK x c e v z⟩
 .obtain ⟨m,⟨o,_,_,ho,_⟩,_⟩:=I.loc
  exact free _ o (fun z=>(hch _ z).2.1 rfl) ho I.free
 .obtain ⟨v,o,ho,hd⟩:=I.cell x c e
  exact free c o (fun z=>(hch c z).2.2.1 x c e rfl) ho (I.freeC x c e)
 .obtain ⟨e,n,ne,nf,d⟩:=I.pin p hp
  have nch:p.1∉ch:=fun z=>(hch p.1 z).2.2.2 p hp rfl;exact⟨keep p.1 p.2 ne nf nch e n,free p.1 p.2 nch e n,ne,nf,d⟩
theorem Inv.un(I:Inv X pins U H s)(u:Un X.fs [] H H' s.heap h')(hok:HOk X.prog X.w H' h'):Inv X pins U H' {s with heap:=h',toks:=t'}:=by
 obtain⟨m,⟨o,es,ep,ho,r⟩,_⟩:=id I.loc;obtain⟨sl,hL⟩:=u.any ho I.free (by simp)
 exact I.step (g':=s.gens) (d':=s.drawn) (ch:=[]) (fun _ z=>nomatch z) (fun b o _ hb _ e n=>u.keep b o e n hb (by simp)) (fun b o _ hb _ e n=>u.slot b o e n hb (by simp)) (fun b o _ e n=>u.free b o e n (by simp)) (fun b o _ e=>u.there b o e (by simp)) u.tups u.frzs u.tbls (fun m' hm=>by
  obtain⟨o',es',ep',ho',r'⟩:=hm;rw[ho]at ho';cases ho';exact⟨_,es',ep',hL,r'⟩) hok I.bare
theorem Inv.call(I:Inv X pins U H s)(u:Un (frs X.stack) ch H H' s.heap h')(hok:HOk X.prog X.w H' h')(hg:AllBare g')(hch:∀b∈ch,(b∈X.ex\/X.s₀.heap.objs.size<=b)/\b≠X.env.locals/\(∀x c,X.env.cells.lookup x=some c->c≠b)/\∀p∈X.pn++ pins,p.1≠b):
  Inv X pins U H' {s with heap:=h',gens:=g',drawn:=d',toks:=t'}:=by
 obtain⟨m,⟨o,es,ep,ho,r⟩,_⟩:=id I.loc;obtain⟨sl,hL⟩:=u.any ho I.free fun z=>(hch _ z).2.1 rfl
 exact I.step (ch:=ch) hch (fun b o hL hb hc e n=>u.keep b o e n (fun z=>(Zd.mp (I.stkSub b z)).elim hL hb) hc) (fun b o _ _ hc e n=>u.any e n hc) (fun b o hc e n=>u.free b o e n hc) (fun b o hc e=>u.there b o e hc) u.tups u.frzs u.tbls (fun m' hm=>by
  obtain⟨o',es',ep',ho',r'⟩:=hm;rw[ho]at ho';cases ho';exact⟨_,es',ep',hL,r'⟩) hok hg
theorem Inv.turned(I:Inv X pins U H s)(k:∀b o,b≠it->s.heap.get? b=some o->h'.get? b=some o)(hn:H it=none)(hL:it≠X.env.locals)(h1:it∈X.ex\/X.s₀.heap.objs.size<=it)(h2:∀x c,X.env.cells.lookup x=some c->c≠it)(h3:∀p∈X.pn++ pins,p.1≠it):Inv X pins U H {s with heap:=h',toks:=t'}:=by
 have nit:∀b u,H b=some u->b≠it:=fun b u e z=>by rw[z,hn]at e;cases e
 refine I.step (g':=s.gens) (d':=s.drawn) (ch:=[it]) (fun b hb=>?_) (fun b o _ _ hc e _=>k b o (fun z=>hc (by simp[z])) e) (fun b o _ _ hc e _=>⟨o.slots,k b o (fun z=>hc (by simp[z])) e⟩) (fun _ _ _ _ n=>n)
  (fun b o hc e=>⟨o,k b o (fun z=>hc (by simp[z])) e⟩) (fun _ _ e=>e) (fun _ _ _ e=>e) (fun b ps e=>⟨#[],by rw[e];simp⟩) (fun m hm=>?_) (fun b u e=>?_) I.bare
 .have e:b=it:=by simpa using hb
  subst e;exact⟨h1,hL,h2,h3⟩
 .obtain ⟨o,es,ep,ho,r⟩:=hm
  exact⟨o,es,ep,k _ o (Zs hL) ho,r⟩
 .refine (I.hok b u e).stay (fun c v hc q=>k c v ?_ q) (fun _ q=>q) fun _ _ q=>q
  rcases hc with z|z
  .rw [z];exact nit b u e
  .exact nit c _ z
theorem Inv.tok(I:Inv X pins U H s)(t:Nat):Inv X pins U H {s with toks:=t}:=I.un (h':=s.heap) (t':=t) Un.refl I.hok
theorem Inv.kept(I:Inv X pins U H s)(k:∀b u,s.heap.get? b=some u->h'.get? b=some u):Inv X pins U H {s with heap:=h',toks:=t'}:=I.un (Un.kept k) (I.hok.kept k)
theorem Inv.laid(I:Inv X pins U H s)(k:∀b u,s.heap.get? b=some u->h'.get? b=some u)(hp:s.heap.objs.size<=a)(new:VT X.prog X.w (upd H a o) h' a o):
  Inv X pins U (upd H a o) {s with heap:=h',toks:=t'}:=I.un (Un.laid k hp (I.hok.fresh hp)) (I.hok.laid k hp new)
theorem Inv.write(I:Inv X pins U H s)(mu:Mut (H x))(he:e=x\/H e=some (.own x))(k:∀b u,b≠e->s.heap.get? b=some u->h'.get? b=some u)(heo:∃u,h'.get? e=some u)(new:VT X.prog X.w (upd H x o) h' x o):Inv X pins U (upd H x o) {s with heap:=h',toks:=t'}:=I.un (Un.write mu he k heo) (I.hok.write mu he k heo new)
theorem Inv.weak(I:Inv X pins U H s)(hl:U'.length=U.length)(w:∀(i:Nat) v,U'[i]?=some (some v)->U[i]?=some (some v)):Inv X pins U' H s:=
 ⟨I.ok,I.os,I.bare,I.base,let⟨m,hn,hl'⟩:=I.loc;⟨m,hn,fun i x v e1 e2 e3=>hl' i x v e1 (w i v e2) e3⟩,I.cell,I.free,I.freeC,I.pin,I.hok,hl.trans I.len⟩
theorem Inv.pins_of(I:Inv X pins U H s)(h:∀p∈pins',s.heap.get? p.1=some p.2/\H p.1=none/\p.1≠X.env.locals/\p.1∉X.fs/\∀v,p.2.data≠.cell v):Inv X pins' U H s:=
 ⟨I.ok,I.os,I.bare,I.base,I.loc,I.cell,I.free,I.freeC,fun p hp=>(ZX.mp hp).elim (fun z=>I.pin p (List.mem_append_left _ z)) (h p),I.hok,I.len⟩
theorem NR{N:List Str}(hN:N.Nodup){i j:Nat}(a:N[i]?=some x)(b:N[j]?=some x):i=j:=by
 obtain⟨h1,e1⟩:=ZF.mp a;obtain⟨h2,e2⟩:=ZF.mp b;exact(List.getElem_inj hN).mp (e1.trans e2.symm)
theorem RH(I:Inv X pins U H s)(hN:X.N.Nodup)(hi:X.N[i]?=some x)(hx:Loc X.env.scope x)(r:RelV v u)(h:∀s',Inv X pins (U.set i (some v)) H s'->(∃a,Heap.SameBut a s.heap s'.heap/\(a=X.env.locals\/X.env.cells.lookup x=some a))->Q () s')(hf:X.fn x=true\/X.env.scope.names.lookup x=some .local:=by first|exact .inl rfl|exact .inr rfl|assumption):wpAny M A (storeName X.env x u) Q E s:=by
 obtain⟨m,hn,hl⟩:=id I.loc;have hcls:(X.env.scope.kind==.class || (X.env.scope.kind==.module && X.env.locals !=X.env.globals))=false:=by rw[I.ok.kind];rfl
 have hiσ:i<U.length:=by rw[I.len];exact(ZF.mp hi).1
 have cne:=I.cne
 have tracked:∀{a:Addr}{h':Heap},(∃o,s.heap.get? a=some o/\H a=none)->Heap.SameBut a s.heap h'->HOk X.prog X.w H h':=fun{a h'} ha hs b ob e=>by
  obtain⟨_,_,hfree⟩:=ha;refine(I.hok b ob e).stay (fun c w' hc q=>(hs.2 c ?_).trans q) (fun _ q=>q) fun _ _ q=>q;rintro rfl;rcases hc with rfl|hc
  .rw [hfree]at e;cases e
  .rw [hfree]at hc;cases hc
 rcases hx with hk|hk
 .refine wpAny_storeName_local hk hn (fun h' hn' hs=>?_) hcls
  obtain⟨oL,_,_,hoL,_⟩:=id hn;refine h _ ⟨I.ok,I.os,I.bare,⟨fun b o e n hb hx=>?_,fun b o e n hb hx=>?_,I.base.free,fun b o e hx=>?_,I.base.tups,I.base.frzs,I.base.tbls⟩,⟨_,hn',fun j y v' e1 e2 e3=>?_⟩,fun y c e=>?_,I.free,I.freeC,fun p hp=>?_,tracked ⟨oL,hoL,I.free⟩ hs,by simpa using I.len⟩ ⟨_,hs,.inl rfl⟩
  .exact (hs.2 b (Ze (Zx (ZP e) I.ok.above))).trans (I.base.keep b o e n hb hx)
  .obtain ⟨sl,e1⟩:=I.base.slot b o e n hb hx
   exact⟨sl,(hs.2 b (Ze (Zx (ZP e) I.ok.above))).trans e1⟩
  .obtain ⟨o',e1⟩:=I.base.there b o e hx
   exact⟨o',(hs.2 b (Ze (Zx (ZP e) I.ok.above))).trans e1⟩
  .by_cases hj:j=i
   .subst hj
    rw[hi]at e1;cases e1;rw[List.getElem?_set_self hiσ]at e2;cases e2;exact⟨u,r,.inl ⟨hk,by simp⟩⟩
   .rw [List.getElem?_set_ne (Zs hj)]at e2
    obtain⟨u',r',q⟩:=hl j y v' e1 e2 e3;refine⟨u',r',?_⟩;rcases q with⟨k,e⟩|⟨k,c,e,z⟩
    .refine .inl ⟨k,?_⟩
     have:y≠x:=fun e=>hj (NR hN e1 (e ▸ hi));simp[this,e]
    .exact .inr ⟨k,c,e,z.sameBut hs (cne y c e)⟩
  .obtain ⟨w',z⟩:=I.cell y c e
   exact⟨w',z.sameBut hs (cne y c e)⟩
  .obtain ⟨e,n,ne,nf,d⟩:=I.pin p hp
   exact⟨(hs.2 p.1 ne).trans e,n,ne,nf,d⟩
 .have hfn:X.fn x=true:=by
   rcases hf with z|z
   .exact z
   .rw [z]at hk;cases hk
  obtain⟨c,hc⟩:=I.ok.has x (.inl hk);obtain⟨w',z⟩:=I.cell x c hc;refine wpAny_storeName_cell I.ok.kind hk hc z (fun h' hc' hs=>?_);obtain⟨oc,hoc,hocd⟩:=id z;refine h {s with heap:=h'} ⟨I.ok,I.os,I.bare,⟨fun b o e n hb hx=>?_,fun b o e n hb hx=>?_,I.base.free,fun b o e hx=>?_,I.base.tups,I.base.frzs,I.base.tbls⟩,⟨m,hn.sameBut hs (Zs (cne x c hc)),fun j y v' e1 e2 e3=>?_⟩,fun y c' e=>?_,I.free,I.freeC,fun p hp=>?_,tracked ⟨oc,hoc,I.freeC x c hc⟩ hs,by simpa using I.len⟩ ⟨c,hs,.inr hc⟩
  .exact (hs.2 b (Ze (Zx (ZP e) (I.ok.cab x c hfn hc)))).trans (I.base.keep b o e n hb hx)
  .obtain ⟨sl,e1⟩:=I.base.slot b o e n hb hx
   exact⟨sl,(hs.2 b (Ze (Zx (ZP e) (I.ok.cab x c hfn hc)))).trans e1⟩
  .obtain ⟨o',e1⟩:=I.base.there b o e hx
   exact⟨o',(hs.2 b (Ze (Zx (ZP e) (I.ok.cab x c hfn hc)))).trans e1⟩
  .by_cases hj:j=i
   .subst hj
    rw[hi]at e1;cases e1;rw[List.getElem?_set_self hiσ]at e2;cases e2;exact⟨u,r,.inr ⟨.inl hk,c,hc,hc'⟩⟩
   .rw [List.getElem?_set_ne (Zs hj)]at e2
    obtain⟨u',r',q⟩:=hl j y v' e1 e2 e3;refine⟨u',r',?_⟩;rcases q with q|⟨k,c',e,z'⟩
    .exact .inl q
    .refine .inr ⟨k,c',e,z'.sameBut hs ?_⟩
     rintro rfl;exact hj (NR hN e1 (I.ok.inj _ _ _ e hc ▸ hi))
  .by_cases hcc:c'=c
   .subst hcc;exact⟨_,hc'⟩
   .obtain ⟨w2,z2⟩:=I.cell y c' e
    exact⟨w2,z2.sameBut hs hcc⟩
  .obtain ⟨e,n,ne,nf,d⟩:=I.pin p hp
   refine⟨(hs.2 p.1 ?_).trans e,n,ne,nf,d⟩;intro q;rw[q,hoc]at e;have q':oc=p.2:=ZT e;exact d w' (by rw[<-q'];exact hocd)
theorem Gm(I:Inv X pins U H s)(hN:X.N.Nodup)(hi:X.N[i]?=some x)(hx:Loc X.env.scope x)(r:RelV v u)(h:∀s',Inv X pins (U.set i (some v)) H s'->Q () s')(hf:X.fn x=true\/X.env.scope.names.lookup x=some .local:=by first|exact .inl rfl|exact .inr rfl|assumption):wpAny M A (storeName X.env x u) Q E s:=
 RH I hN hi hx r (fun s' I' _=>h s' I') hf
theorem Inv.call'(I:Inv X pins U H s)(ho:s'.os=s.os)(u:Un (frs X.stack) ch H H' s.heap s'.heap)(hok:HOk X.prog X.w H' s'.heap)(hg:AllBare s'.gens)(hch:∀b∈ch,(b∈X.ex\/X.s₀.heap.objs.size<=b)/\b≠X.env.locals/\(∀x c,X.env.cells.lookup x=some c->c≠b)/\∀p∈X.pn++ pins,p.1≠b):Inv X pins U H' s':=by
 obtain⟨h',g',d',t',o'⟩:=s';have e:o'=s.os:=ho;subst e;exact I.call (g':=g') (t':=t') (d':=d') u hok hg hch
end
abbrev XK:=Value->Option Addr->Hp->Prop
abbrev St:=List (Option V)
abbrev VK:=V->Hp->Prop
abbrev TE:=St->Hp->VK->Prop
abbrev TT:=St->Hp->(Bool->Hp->Prop)->Prop
abbrev TA:=St->Hp->(List V->Hp->Prop)->Prop
structure Ends where
 nx:St->Hp->Prop
 rt:VK
 bk:St->Hp->Prop:=fun _ _=>False
 ct:St->Hp->Prop:=fun _ _=>False
abbrev TS:=Ends->St->Hp->Prop
def EP(X:Cx)(pins:List (Addr×Obj))(U:St)(Q:VK)(u:Value)(s':Shared):Prop:=∃v H',Inv X pins U H' s'/\RelV v u/\Q v H'
def TP(X:Cx)(pins:List (Addr×Obj))(U:St)(Q:Bool->Hp->Prop)(b:Bool)(s':Shared):Prop:=∃H',Inv X pins U H' s'/\Q b H'
def AP(X:Cx)(pins:List (Addr×Obj))(U:St)(Q:List V->Hp->Prop)(us:List Value)(s':Shared):Prop:=∃vs H',Inv X pins U H' s'/\Vals vs us/\Q vs H'
def SP(X:Cx)(pins:List (Addr×Obj))(D:Ends)(f:Flow)(s':Shared):Prop:=
 match f with
 |.next=>∃U' H',Inv X pins U' H' s'/\D.nx U' H'
 |.brk=>∃U' H',Inv X pins U' H' s'/\D.bk U' H'
 |.cont=>∃U' H',Inv X pins U' H' s'/\D.ct U' H'
 |.ret u=>∃v U' H',Inv X pins U' H' s'/\RelV v u/\D.rt v H'
def PE(X:Cx)(e:Expr)(t:TE):Prop:=
 ∀(pins:List (Addr×Obj))(s:Shared)(U:St)(H:Hp)(Q:VK),Inv X pins U H s->t U H Q->wpAny (model X.prog X.w) X.A (eval e X.env) (EP X pins U Q) X.xe s
def PT(X:Cx)(e:Expr)(t:TT):Prop:=
 ∀(pins:List (Addr×Obj))(s:Shared)(U:St)(H:Hp)(Q:Bool->Hp->Prop),Inv X pins U H s->t U H Q->wpAny (model X.prog X.w) X.A (isTrue e X.env (eval e X.env)) (TP X pins U Q) X.xe s
def PW(X:Cx)(e:Expr)(t:TT):Prop:=
 ∀(whole:Sem Value)(pins:List (Addr×Obj))(s:Shared)(U:St)(H:Hp)(Q:Bool->Hp->Prop),Inv X pins U H s->t U H Q->wpAny (model X.prog X.w) X.A (isTrue e X.env whole) (TP X pins U Q) X.xe s
theorem PW.pt(h:PW X e t):PT X e t:=h _
def PA(X:Cx)(es:List Expr)(t:TA):Prop:=
 ∀(pos:Pos)(pins:List (Addr×Obj))(s:Shared)(U:St)(H:Hp)(Q:List V->Hp->Prop),Inv X pins U H s->t U H Q->wpAny (model X.prog X.w) X.A (spliced (backTo pos (starEach es X.env))) (AP X pins U Q) X.xe s
def PS(X:Cx)(st:Stmt)(t:TS):Prop:=
 ∀(pins:List (Addr×Obj))(s:Shared)(U:St)(H:Hp)(D:Ends),Inv X pins U H s->t D U H->wpAny (model X.prog X.w) X.A (exec st X.env) (SP X pins D) X.xe s
def PSs(X:Cx)(st:List Stmt)(t:TS):Prop:=
 ∀(pins:List (Addr×Obj))(s:Shared)(U:St)(H:Hp)(D:Ends),Inv X pins U H s->t D U H->wpAny (model X.prog X.w) X.A (execs st X.env) (SP X pins D) X.xe s
theorem thn(h:wpAny M A t Q E s)(hQ:∀a s,Q a s->Q' a s):wpAny M A t Q' E s:=Zn h hQ fun _ _ x=>x
end L2
namespace L2
open PySem PySem.Spec PyProof.Rows
section
variable{X:Cx}
def E9(o:Option (Option V))(P:V->Prop):Prop:=match o with
 |some (some v)=>P v
 |_=>False
theorem E9.old(h:E9 o P):∃v,o=some (some v)/\P v:=by
 match o,h with
 |some (some v),h=>exact⟨v,rfl,h⟩
def Ui(x:V)(P:Int->Prop):Prop:=match x with
 |.int c=>P c
 |_=>False
theorem Ui.old(h:Ui x P):∃c,x=.int c/\P c:=by
 cases x <;> first|exact⟨_,rfl,h⟩|exact h.elim
def Jc(x:V)(P:Addr->Prop):Prop:=match x with
 |.ref c=>P c
 |_=>False
theorem Jc.old(h:Jc x P):∃c,x=.ref c/\P c:=by
 cases x <;> first|exact⟨_,rfl,h⟩|exact h.elim
def Nx(i:Nat):TE:=fun U H Q=>E9 U[i]? fun v=>Q v H
def tC(v:V):TE:=fun _ H Q=>Q v H
theorem QG(hN:X.N[i]?=some x)(hv:Vis X.env.scope x)(hd:(x==("__debug__":Str))=false:=by decide)(hcd:(x==("__classdict__":Str))=false:=by decide):PE X (.Name x pos) (Nx i):=by
 intro pins s U H Q I h;replace h:=E9.old h;obtain⟨v,e,h⟩:=h;obtain⟨m,hn,hl⟩:=I.loc;obtain⟨u,r,l⟩:=hl i x v hN e hv;have fin:EP X pins U Q u s:=⟨v,H,I,r,h⟩;rcases l with⟨hk,hm⟩|⟨hk,c,hc,hcell⟩
 .exact wpAny_Name (wpAny_loadName_local I.ok.kind hk hn hm fin) hd
 .rcases hk with hk|hk
  .exact wpAny_Name (wpAny_loadName_cell I.ok.kind hk hc hcell fin) hd
  .exact wpAny_Name (wpAny_loadName_free I.ok.kind hk hc hcell fin hcd) hd
theorem Ya:PE X (.Constant (.int i) j pos) (tC (.int i)):=fun _ _ _ H _ I h=>wpAny_Constant_int ⟨.int i,H,I.tok _,⟨_,rfl⟩,h⟩
theorem Uo:PE X (.Constant (.bool b) j pos) (tC (.bl b)):=fun _ _ _ H _ I h=>Constant_bool ⟨.bl b,H,I,rfl,h⟩
theorem VI:PE X (.Constant .none j pos) (tC .non):=fun _ _ _ H _ I h=>Constant_none ⟨.non,H,I,rfl,h⟩
theorem Yw:PE X (.Constant (.str x) j pos) (tC (.str x)):=fun _ _ _ H _ I h=>Calls.Constant_str ⟨.str x,H,I.tok _,⟨_,rfl⟩,h⟩
def Gl(X:Cx)(x:Str):Prop:=X.env.kindOf x=some .globalImplicit
theorem GZ(I:Inv X pins U H s)(hg:Gl X x)(hm:X.mg x=some u)(h:Q u s)(hd:(x==("__debug__":Str))=false:=by decide):wpAny (model X.prog X.w) X.A (eval (.Name x pos) X.env) Q E s:=
 Calls.Name_function_global I.ok.kind hg (Calls.loadGlobal_global (by rw[I.ok.glob];exact I.mod.glob.keeps I.bk) hm h) hd
theorem U3(I:Inv X pins U H s)(hg:Gl X x)(hm:X.mg x=none)(hv:bootBuiltins x=some u)(h:Q u s)(hn:x≠"__name__":=by decide)(hd:(x==("__debug__":Str))=false:=by decide):wpAny (model X.prog X.w) X.A (eval (.Name x pos) X.env) Q E s:=by
 obtain⟨mb,h1,h2⟩:=I.mod.blt;exact Calls.Name_function_global I.ok.kind hg (Calls.loadGlobal_builtin (by rw[I.ok.glob];exact I.mod.glob.keeps I.bk) hm (by rw[I.ok.blt];exact h1.keeps I.bk) ((h2 x hn).trans hv) h) hd
theorem JE(hg:Gl X x)(hm:X.mg x=some u)(r:RelV v u)(hd:(x==("__debug__":Str))=false:=by decide):PE X (.Name x pos) (tC v):=
 fun _ _ _ H _ I h=>GZ I hg hm ⟨v,H,I,r,h⟩ hd
theorem MZ(hg:Gl X x)(hm:X.mg x=none)(hv:bootBuiltins x=some u)(r:RelV v u)(hn:x≠"__name__":=by decide)(hd:(x==("__debug__":Str))=false:=by decide):PE X (.Name x pos) (tC v):=
 fun _ _ _ H _ I h=>U3 I hg hm hv ⟨v,H,I,r,h⟩ hn hd
variable{a b:Expr}{ta tb:TE}{pos:Pos}
def PC(X:Cx)(op:CmpOp)(a b:Expr)(t:TE):Prop:=
 ∀(pins:List (Addr×Obj))(s:Shared)(U:St)(H:Hp)(Q:VK),Inv X pins U H s->t U H Q->
  wpAny (model X.prog X.w) X.A (eval a X.env) (fun v s₁=>wpAny (model X.prog X.w) X.A (eval b X.env) (fun u s₂=>wpAny (model X.prog X.w) X.A (compareOp op v u) (EP X pins U Q) X.xe s₂) X.xe s₁) X.xe s
def tB(t:TE):TT:=fun U H Q=>t U H fun x H1=>∃c,x=.bl c/\Q c H1
theorem Jx(h:PC X op a b t)(h1:behindInMarks op b=false:=by first|exact nobehind _ (by decide) (by decide)|rfl):PT X (.Compare a [op] [b] pos) (tB t):=by
 intro pins s U H Q I hw;refine wpAny_isTrue_Compare1 (thn (h pins s U H _ I hw) fun v s1 h1=>thn h1 fun u s2 h2=>thn h2 fun c s3 ⟨x,H1,I1,r1,q1⟩=>?_) h1;obtain⟨d,rfl,q⟩:=q1;cases r1;exact wpAny_truthy_bool ⟨H1,I1,q⟩
theorem Ve(h:PE X e t)(he:∀whole,isTrue e X.env whole=(do let v <-whole;standAt e.pos;holding [v] (truthy v)):=by intro _;rfl):PT X e (tB t):=by
 intro pins s U H Q I hw;refine isTrue_plain (thn (h pins s U H _ I hw) fun v s1 ⟨x,H1,I1,r1,q1⟩=>?_) (he _);obtain⟨d,rfl,q⟩:=q1;cases r1;exact wpAny_truthy_bool ⟨H1,I1,q⟩
variable{rest:List Expr}
def CL(t u:TT):TT:=fun U H Q=>t U H fun c H1=>if c=true then u U H1 Q else Q false H1
def tOr(t u:TT):TT:=fun U H Q=>t U H fun c H1=>if c=true then Q true H1 else u U H1 Q
def CC(t:TT):TT:=fun U H Q=>t U H fun c H1=>Q (!c) H1
theorem Xw(ha:PT X a tA):PW X (.BoolOp .And [a] pos) tA:=by
 intro wh pins s U H Q I h;refine isTrue_and (thn (ha pins s U H Q I h) fun c s1 e=>?_)
 cases c with
 |true=>exact isTrue_and_nil e
 |false=>exact e
theorem Jl(ha:PT X a tA):PW X (.BoolOp .Or [a] pos) tA:=by
 intro wh pins s U H Q I h;refine isTrue_or (thn (ha pins s U H Q I h) fun c s1 e=>?_)
 cases c with
 |false=>exact isTrue_or_nil e
 |true=>exact e
theorem G6(ha:PT X a tA)(hb:PW X (.BoolOp .And (b::rest) pos) tB'):PW X (.BoolOp .And (a::b::rest) pos) (CL tA tB'):=by
 intro wh pins s U H Q I h;refine isTrue_and (thn (ha pins s U H _ I h) fun c s1 ⟨H1,I1,q1⟩=>?_)
 cases c with
 |true=>exact hb wh pins s1 U H1 Q I1 q1
 |false=>exact⟨H1,I1,q1⟩
theorem UQ(ha:PT X a tA)(hb:PW X (.BoolOp .Or (b::rest) pos) tB'):PW X (.BoolOp .Or (a::b::rest) pos) (tOr tA tB'):=by
 intro wh pins s U H Q I h;refine isTrue_or (thn (ha pins s U H _ I h) fun c s1 ⟨H1,I1,q1⟩=>?_)
 cases c with
 |true=>exact⟨H1,I1,q1⟩
 |false=>exact hb wh pins s1 U H1 Q I1 q1
theorem JH(ha:PT X a tA):PT X (.UnaryOp .Not a pos) (CC tA):=by
 intro pins s U H Q I h;exact isTrue_not (ha pins s U H (fun c H1=>Q (!c) H1) I h)
def ST(ta tb:TE):TE:=fun U H Q=>ta U H fun x H1=>∃c,x=.bl c/\if c=true then tb U H1 Q else Q (.bl false) H1
def A9(ta tb:TE):TE:=fun U H Q=>ta U H fun x H1=>∃c,x=.bl c/\if c=true then Q (.bl true) H1 else tb U H1 Q
def SM(ta:TE):TE:=fun U H Q=>ta U H fun x H1=>∃c,x=.bl c/\Q (.bl (!c)) H1
theorem Xe(h:PE X a t):PE X (.BoolOp op [a] pos) t:=fun pins s U H Q I hw=>BoolOp_one (h pins s U H Q I hw)
theorem WR(ha:PE X a ta)(hb:PE X (.BoolOp .And (b::rest) pos) tb):PE X (.BoolOp .And (a::b::rest) pos) (ST ta tb):=by
 intro pins s U H Q I h;refine BoolOp_and (thn (ha pins s U H _ I h) fun v s1 ⟨x,H1,I1,r1,q1⟩=>?_);obtain⟨c,rfl,q1⟩:=q1;cases r1;refine wpAny_truthy_bool ?_
 cases c with
 |true=>exact hb pins s1 U H1 Q I1 q1
 |false=>exact⟨.bl false,H1,I1,rfl,q1⟩
theorem Sl(ha:PE X a ta)(hb:PE X (.BoolOp .Or (b::rest) pos) tb):PE X (.BoolOp .Or (a::b::rest) pos) (A9 ta tb):=by
 intro pins s U H Q I h;refine BoolOp_or (thn (ha pins s U H _ I h) fun v s1 ⟨x,H1,I1,r1,q1⟩=>?_);obtain⟨c,rfl,q1⟩:=q1;cases r1;refine wpAny_truthy_bool ?_
 cases c with
 |false=>exact hb pins s1 U H1 Q I1 q1
 |true=>exact⟨.bl true,H1,I1,rfl,q1⟩
theorem QH(ha:PE X a ta):PE X (.UnaryOp .Not a pos) (SM ta):=by
 intro pins s U H Q I h;refine UnaryOp_ (thn (ha pins s U H _ I h) fun v s1 ⟨x,H1,I1,r1,q1⟩=>?_);obtain⟨c,rfl,q1⟩:=q1;cases r1;exact not_of (wpAny_truthy_bool ⟨.bl (!c),H1,I1,rfl,q1⟩)
def tIf(t:TT)(ta tb:TE):TE:=fun U H Q=>t U H fun c H1=>if c=true then ta U H1 Q else tb U H1 Q
theorem Fx(hc:PT X c tA)(ha:PE X a ta)(hb:PE X b tb):PE X (.IfExp c a b pos) (tIf tA ta tb):=by
 intro pins s U H Q I h;refine wpAny_IfExp (thn (hc pins s U H _ I h) fun d s1 ⟨H1,I1,q1⟩=>?_)
 cases d with
 |true=>exact ha pins s1 U H1 Q I1 q1
 |false=>exact hb pins s1 U H1 Q I1 q1
end
end L2
namespace L2
open PySem PySem.Spec PyProof.Rows
def SqL(K:W.Frag)(H:Hp)(a:Addr)(xs:List V):Prop:=
 Rd H a (.lst xs) \/
  ∃(o:Obj)(its:Array Value)(n:Nat),K.lookup a=some o/\o.cls=.type "list" /\o.dict=none/\o.data=.seq its n/\its.size<=sizeLine/\Vals xs its.toList
def SqT(K:W.Frag)(H:Hp)(a:Addr)(xs:List V):Prop:=
 Rd H a (.tup xs) \/
  ∃(o:Obj)(its:Array Value)(n:Nat),K.lookup a=some o/\o.cls=.type "tuple" /\o.data=.seq its n/\its.size<=sizeLine/\Vals xs its.toList
def zB:Value->Option V
 |.none=>some .non
 |.bool b=>some (.bl b)
 |.int i _=>some (.int i)
 |.str x _=>some (.str x)
 |.bytes b _=>some (.byt b)
 |.float b _=>some (.flt b)
 |.ref a=>some (.ref a)
 |.type n=>some (.ty n)
 |_=>none
theorem RelV.abs(r:RelV x u):zB u=some x:=by
 cases x with
 |non=>cases r;rfl
 |bl _=>cases r;rfl
 |int _=>obtain⟨t,rfl⟩:=r;rfl
 |str _=>obtain⟨t,rfl⟩:=r;rfl
 |byt _=>obtain⟨t,rfl⟩:=r;rfl
 |flt _=>obtain⟨t,rfl⟩:=r;rfl
 |ref _=>cases r;rfl
 |ty _=>cases r;rfl
theorem RelV.inj(r:RelV x u)(q:RelV y u):x=y:=ZT (r.abs.symm.trans q.abs)
theorem Vals.inj:∀{xs ys:List V}{us:List Value},Vals xs us->Vals ys us->xs=ys
 |_,_,_,.nil,.nil=>rfl
 |_,_,_,.cons r t,.cons r' t'=>by rw[r.inj r',Vals.inj t t']
section
theorem SqL.of{K:W.Frag}(h:H a=some (.lst xs)):SqL K H a xs:=.inl (.inl h)
abbrev Z3:=@SqL.of
theorem SqT.of{K:W.Frag}(h:H a=some (.tup xs)):SqT K H a xs:=.inl (.inl h)
abbrev Z2:=@SqT.of
theorem Inv.list(I:Inv X pins U H s)(h:SqL X.K H a xs):∃its:List Value,Vals xs its/\PlainL s.heap a its.toArray/\xs.length<=sizeLine:=by
 rcases h with h|⟨o,its,n,hk,hc,hd,hs,hz,r⟩
 .obtain ⟨z,its,n,r,e⟩:=h.ok I.hok
  exact⟨its,r,⟨_,n,e,rfl,rfl,rfl⟩,z⟩
 .refine ⟨its.toList,r,⟨o,n,I.kIn a o hk,hc,hd,by simpa using hs⟩,?_⟩
  have e:=r.length;simp only[Array.length_toList]at e;omega
theorem Inv.tuple(I:Inv X pins U H s)(h:SqT X.K H a xs):∃its:List Value,Vals xs its/\IsTup s.heap a its.toArray/\xs.length<=sizeLine:=by
 rcases h with h|⟨o,its,n,hk,hc,hs,hz,r⟩
 .obtain ⟨z,its,r,p⟩:=h.ok I.hok
  exact⟨its,r,p.is,z⟩
 .refine ⟨its.toList,r,⟨o,I.kIn a o hk,hc,n,by simpa using hs⟩,?_⟩
  have e:=r.length;simp only[Array.length_toList]at e;omega
theorem Inv.list_inj(I:Inv X pins U H s)(h:SqL X.K H a xs)(h':SqL X.K H a ys):xs=ys:=by
 obtain⟨its,r,⟨o,n,e,_,_,d⟩,_⟩:=I.list h;obtain⟨its',r',⟨o',n',e',_,_,d'⟩,_⟩:=I.list h';rw[e]at e';cases e';rw[d]at d';injection d' with d1 _;have:its=its':=by simpa using congrArg Array.toList d1
 subst this;exact r.inj r'
theorem Inv.tuple_inj(I:Inv X pins U H s)(h:SqT X.K H a xs)(h':SqT X.K H a ys):xs=ys:=by
 obtain⟨its,r,⟨o,e,_,n,d⟩,_⟩:=I.tuple h;obtain⟨its',r',⟨o',e',_,n',d'⟩,_⟩:=I.tuple h';rw[e]at e';cases e';rw[d]at d';injection d' with d1 _;have:its=its':=by simpa using congrArg Array.toList d1
 subst this;exact r.inj r'
end
abbrev Cx.wish(X:Cx)(E:Value->Shared->Prop):Cx:={X with xe:=E}
abbrev Cx.nox(X:Cx):Cx:=X.wish fun _ _=>False
theorem Cx.Ok.wish{X:Cx}(ok:X.Ok)(E:Value->Shared->Prop):(X.wish E).Ok:=
 ⟨ok.mod,ok.kind,ok.glob,ok.blt,ok.above,ok.inj,ok.has,ok.cab,ok.hd,ok.frames,ok.stk,ok.exf,ok.bs,ok.bsz,ok.noex,ok.exfs,ok.funs,ok.frf⟩
theorem Cx.Ok.unwish{X:Cx}(ok:(X.wish E).Ok):X.Ok:=
 ⟨ok.mod,ok.kind,ok.glob,ok.blt,ok.above,ok.inj,ok.has,ok.cab,ok.hd,ok.frames,ok.stk,ok.exf,ok.bs,ok.bsz,ok.noex,ok.exfs,ok.funs,ok.frf⟩
section
theorem Inv.wish(I:Inv X pins U H s)(E:Value->Shared->Prop):Inv (X.wish E) pins U H s:=⟨I.ok.wish E,I.os,I.bare,I.base,I.loc,I.cell,I.free,I.freeC,I.pin,I.hok,I.len⟩
theorem Inv.unwish(I:Inv (X.wish E) pins U H s):Inv X pins U H s:=⟨I.ok.unwish,I.os,I.bare,I.base,I.loc,I.cell,I.free,I.freeC,I.pin,I.hok,I.len⟩
theorem SP.unwish(h:SP (X.wish E) pins D f s'):SP X pins D f s':=by
 cases f with
 |next=>obtain⟨U',H',I,q⟩:=h;exact⟨U',H',I.unwish,q⟩
 |brk=>obtain⟨U',H',I,q⟩:=h;exact⟨U',H',I.unwish,q⟩
 |cont=>obtain⟨U',H',I,q⟩:=h;exact⟨U',H',I.unwish,q⟩
 |ret u=>obtain⟨v,U',H',I,r,q⟩:=h;exact⟨v,U',H',I.unwish,r,q⟩
theorem PSs.nox{st:List Stmt}(h:PSs X.nox st t):PSs X st t:=fun pins s U H D I hw=>
 Zn (h pins s U H D (I.wish _) hw) (fun _ _ q=>q.unwish) fun _ _ z=>False.elim z
end
section
variable{st:Stmt}{rest:List Stmt}{t u:TS}{te:TE}
def SN:TS:=fun D U H=>D.nx U H
def Yk(t u:TS):TS:=fun D U H=>t {D with nx:=u D} U H
theorem Yl:PSs X [] SN:=fun _ _ U H _ I h=>wpAny_execs_nil ⟨U,H,I,h⟩
theorem YY(h1:PS X st t)(h2:PSs X rest u):PSs X (st::rest) (Yk t u):=by
 intro pins s U H D I h;refine wpAny_execs_cons (thn (h1 pins s U H {D with nx:=u D} I h) fun f s1 q=>?_)
 cases f with
 |next=>
  obtain⟨U',H',I',q⟩:=q;exact h2 pins s1 U' H' D I' q
 |ret v=>exact q
 |brk=>exact q
 |cont=>exact q
theorem YZ(h1:PS X st t):PSs X [st] t:=by
 intro pins s U H D I h;refine wpAny_execs_cons (thn (h1 pins s U H D I h) fun f s1 q=>?_)
 cases f with
 |next=>exact wpAny_execs_nil q
 |ret v=>exact q
 |brk=>exact q
 |cont=>exact q
theorem Inv.quiet(I:Inv X pins U H s):interactive X.env=false:=by simp[interactive,I.ok.kind]
def SR(te:TE):TS:=fun D U H=>te U H fun _ H1=>D.nx U H1
theorem Vm(he:PE X e te)(hs:swapsWith e none pos.line X.env=pure false:=by rfl):PS X (.Expr e pos) (SR te):=by
 intro pins s U H D I h;exact wpAny_Expr_any (thn (he pins s U H _ I h) fun v s1 ⟨x,H1,I1,r1,q1⟩=>⟨U,H1,I1,q1⟩) I.quiet hs
def A8(te:TE):TS:=fun D U H=>te U H D.rt
theorem Yh(he:PE X e te):PS X (.Return (some e) pos) (A8 te):=by
 intro pins s U H D I h;exact wpAny_Return_some (thn (he pins s U H _ I h) fun v s1 ⟨x,H1,I1,r1,q1⟩=>⟨x,U,H1,I1,r1,q1⟩)
def VC(c:TT)(t u:TS):TS:=fun D U H=>c U H fun b H1=>if b=true then t D U H1 else u D U H1
theorem Y0(hc:PT X c tc)(ha:PSs X a t)(hb:PSs X b u):PS X (.If c a b pos) (VC tc t u):=by
 intro pins s U H D I h;refine wpAny_If (thn (hc pins s U H _ I h) fun d s1 ⟨H1,I1,q1⟩=>?_)
 cases d with
 |true=>exact ha pins s1 U H1 D I1 q1
 |false=>exact hb pins s1 U H1 D I1 q1
def Pa:TS:=fun _ _ _=>False
theorem Vk:PSs X sts Pa:=fun _ _ _ _ _ _ h=>h.elim
end
abbrev TG:=V->St->Hp->(St->Hp->Prop)->Prop
abbrev TGs:=List V->St->Hp->(St->Hp->Prop)->Prop
def PG(X:Cx)(target:Expr)(t:TG):Prop:=
 ∀(pins:List (Addr×Obj))(s:Shared)(U:St)(H:Hp)(v:V)(u:Value)(Q:St->Hp->Prop),Inv X pins U H s->RelV v u->t v U H Q->
  wpAny (model X.prog X.w) X.A (assign target X.env u) (fun _ s'=>∃U' H',Inv X pins U' H' s'/\Q U' H') X.xe s
def PGs(X:Cx)(ts:List Expr)(t:TGs):Prop:=
 ∀(pins:List (Addr×Obj))(s:Shared)(U:St)(H:Hp)(vs:List V)(us:List Value)(Q:St->Hp->Prop),Inv X pins U H s->Vals vs us->t vs U H Q->
  wpAny (model X.prog X.w) X.A (assignInOrder ((assignEach ts X.env).map (·.2)) us) (fun _ s'=>∃U' H',Inv X pins U' H' s'/\Q U' H') X.xe s
abbrev Ar:=V->V->V->Hp->(Hp->Prop)->Prop
def A3(X:Cx)(t:Ar):Prop:=
 ∀(pins:List (Addr×Obj))(s:Shared)(U:St)(H:Hp)(o i v:V)(ov iv u:Value)(Q:Hp->Prop),Inv X pins U H s->RelV o ov->RelV i iv->RelV v u->t o i v H Q->
  wpAny (model X.prog X.w) X.A (setItem ov iv u) (fun _ s'=>∃H',Inv X pins U H' s'/\Q H') X.xe s
abbrev TIp:=V->V->Hp->VK->Prop
def PIp(X:Cx)(op:Operator)(t:TIp):Prop:=
 ∀(pins:List (Addr×Obj))(s:Shared)(U:St)(H:Hp)(x y:V)(v u:Value)(Q:VK),Inv X pins U H s->RelV x v->RelV y u->t x y H Q->
  wpAny (model X.prog X.w) X.A (inplaceOp op v u) (EP X pins U Q) X.xe s
section
variable{X:Cx}
def Vo(i:Nat):TG:=fun v U H Q=>Q (U.set i (some v)) H
theorem Yp(i:Nat)(hN:X.N.Nodup)(hi:X.N[i]?=some x:=by exact rfl)(hx:Loc X.env.scope x:=by exact Or.inl rfl)(hf:X.fn x=true\/X.env.scope.names.lookup x=some .local:=by first|exact .inl rfl|exact .inr rfl|assumption):PG X (.Name x pos) (Vo i):=by
 intro pins s U H v u Q I r h;exact wpAny_assign_Name (Gm I hN hi hx r (fun s' I'=>⟨_,H,I',h⟩) hf)
def Tc:TGs:=fun vs U H Q=>match vs with
 |[]=>Q U H
 |_=>False
theorem Tc.old(h:Tc vs U H Q):vs=[]/\Q U H:=by
 match vs,h with
 |[],h=>exact⟨rfl,h⟩
def JY(t:TG)(u:TGs):TGs:=fun vs U H Q=>match vs with
 |v::r=>t v U H fun U' H'=>u r U' H' Q
 |_=>False
theorem JY.old(h:JY t u vs U H Q):∃v r,vs=v::r/\t v U H fun U' H'=>u r U' H' Q:=by
 match vs,h with
 |v::r,h=>exact⟨v,r,rfl,h⟩
theorem VW:PGs X [] Tc:=by
 intro pins s U H vs us Q I r h;replace h:=Tc.old h;obtain⟨e,h⟩:=h;subst e;cases r;exact assignInOrder_nil ⟨U,H,I,h⟩
theorem Yx(h1:PG X e t)(h2:PGs X es u)(hs:(assignEach (e::es) X.env).map (·.2)=assign e X.env::(assignEach es X.env).map (·.2):=by rfl):PGs X (e::es) (JY t u):=by
 intro pins s U H vs us Q I r h;replace h:=JY.old h;obtain⟨v,vr,e1,h⟩:=h;subst e1
 cases r with
 |cons r rr=>
  rw[hs];refine assignInOrder_cons (thn (h1 pins s U H _ _ _ I r h) fun _ s1 ⟨σ1,H1,I1,q1⟩=>?_);exact h2 pins s1 σ1 H1 _ _ Q I1 rr q1
def Nd(K:W.Frag)(n:Nat)(t:TGs):TG:=fun v U H Q=>Jc v fun a=>∃xs,SqT K H a xs/\xs.length=n/\t xs U H Q
theorem Vi(hc:X.calm=true)(h:PGs X es t)(hn:(assignEach es X.env).length=n:=by rfl)(hst:(assignEach es X.env).findIdx? (·.1)=none:=by rfl):PG X (.Tuple es k pos) (Nd X.K n t):=by
 intro pins s U H v u Q I r hw;replace hw:=Jc.old hw;obtain⟨a,e1,xs,hq,hl,hw⟩:=hw;subst e1;cases r;obtain⟨its,rv,ht,hz⟩:=I.tuple hq;refine assign_Tuple_tuple (I.ok.hd hc) ht (by simp[hn,<-hl,rv.length]) hst fun h' hx=>?_;have I1:Inv X pins U H {s with heap:=h'}:=I.kept (t':=s.toks) fun b o e=>hx b o (Ze (ZP e)) e;exact h pins _ U H xs _ Q I1 (by simpa using rv) hw
def C5(to ti:TE)(t:Ar):TG:=fun v U H Q=>to U H fun o H1=>ti U H1 fun i H2=>t o i v H2 fun H3=>Q U H3
theorem TF(ho:PE X o to)(hi:PE X i ti)(hs:A3 X t)(ha:∀v,assign (.Subscript o i pos) X.env v=(do
   let ov <-holding [v] (eval o X.env)
   let iv <-holding [v,ov] (eval i X.env)
   standAt pos
   holding [v,ov,iv] (setItem ov iv v)
   release [v,ov,iv] []):=by intro _;rfl):PG X (.Subscript o i pos) (C5 to ti t):=by
 intro pins s U H v u Q I r h;rw[ha];refine Zl (wpAny_holding (thn (ho pins s U H _ I h) fun ov s1 ⟨x,H1,I1,r1,q1⟩=>?_));refine Zl (wpAny_holding (thn (hi pins s1 U H1 _ I1 q1) fun iv s2 ⟨y,H2,I2,r2,q2⟩=>?_));refine Zl (wpAny_standAt (Zl (wpAny_holding (thn (hs pins s2 U H2 x y v ov iv u _ I2 r1 r2 r q2) fun _ s3 ⟨H3,I3,q3⟩=>?_))));exact wpAny_release ⟨U,H3,I3,q3⟩
def EG(te:TE)(g:TG):TS:=fun D U H=>te U H fun x H1=>g x U H1 D.nx
theorem UI(he:PE X e te)(hg:PG X tg g)(hs:swapsWithSole [tg] e pos.line X.env=pure false:=by rfl)(hw:swappedStores [tg] e X.env=pure none:=by rfl)(h1:(assignEach [tg] X.env).map (·.2)=[assign tg X.env]:=by rfl):PS X (.Assign [tg] e pos) (EG te g):=by
 intro pins s U H D I h;refine wpAny_Assign_stores (thn (he pins s U H _ I h) fun v s1 ⟨x,H1,I1,r1,q1⟩=>?_) hs hw;rw[h1];exact thn (hg pins s1 U H1 x v _ I1 r1 q1) fun _ s2 q=>q
theorem Yu(i:Nat)(hN:X.N.Nodup)(he:PE X e te)(hi:X.N[i]?=some x:=by exact rfl)(hx:Loc X.env.scope x:=by exact Or.inl rfl)(hs:swapsWith e (some (.Name x pos')) pos.line X.env=pure false:=by rfl)(hf:X.fn x=true\/X.env.scope.names.lookup x=some .local:=by first|exact .inl rfl|exact .inr rfl|assumption):
  PS X (.Assign [.Name x pos'] e pos) (EG te (Vo i)):=by
 intro pins s U H D I h;refine wpAny_Assign_Name (thn (he pins s U H _ I h) fun v s1 ⟨y,H1,I1,r1,q1⟩=>?_) hs;exact Gm I1 hN hi hx r1 (fun s2 I2=>⟨_,H1,I2,q1⟩) hf
def CJ(i:Nat)(te:TE)(ti:TIp):TS:=fun D U H=>∃x,U[i]?=some (some x)/\te U H fun y H1=>ti x y H1 fun z H2=>D.nx (U.set i (some z)) H2
theorem Fu(hN:X.N.Nodup)(hi:X.N[i]?=some x)(hx:Loc X.env.scope x)(he:PE X e te)(ho:PIp X op ti)(hf:X.fn x=true\/X.env.scope.names.lookup x=some .local:=by first|exact .inl rfl|exact .inr rfl|assumption):
  PS X (.AugAssign (.Name x pos') op e pos) (CJ i te ti):=by
 intro pins s U H D I h;obtain⟨v,e1,h⟩:=h;obtain⟨m,hn,hl⟩:=I.loc;have vis:Vis X.env.scope x:=by rcases hx with k|k;exact .inl k;exact .inr (.inl k)
 obtain⟨u,r,l⟩:=hl i x v hi e1 vis;refine wpAny_AugAssign_Name ?_
 have go:wpAny (model X.prog X.w) X.A (eval e X.env) (fun w s₂=>wpAny (model X.prog X.w) X.A (inplaceOp op u w) (fun r s₃=>wpAny (model X.prog X.w) X.A (storeName X.env x r) (fun _=>SP X pins D .next) X.xe s₃) X.xe s₂) X.xe s:=by
  refine thn (he pins s U H _ I h) fun w s1 ⟨y,H1,I1,r1,q1⟩=>?_;refine thn (ho pins s1 U H1 v y u w _ I1 r r1 q1) fun z s2 ⟨zv,H2,I2,r2,q2⟩=>?_;exact Gm I2 hN hi hx r2 (fun s3 I3=>⟨_,H2,I3,q2⟩) hf
 rcases l with⟨hk,hm⟩|⟨hk,c,hc,hcell⟩
 .exact wpAny_loadName_local I.ok.kind hk hn hm go
 .rcases hk with hk|hk
  .exact wpAny_loadName_cell I.ok.kind hk hc hcell go
  .rcases hx with k|k
   .have:X.env.scope.names.lookup x=some .free:=hk
    rw[k]at this;cases this
   .have:X.env.scope.names.lookup x=some .free:=hk
    rw[k]at this;cases this
end
section
def Rw(c:TT)(tb:TS):TS:=fun D U H=>∃W:Nat->St->Hp->Prop,(∃m,W m U H)/\∀m U H,W m U H->
 c U H fun b H1=>if b=true then ∃N:St->Hp->Prop,(∀U' H',N U' H'->∃m',m'<m/\W m' U' H')/\tb {D with nx:=N,ct:=N,bk:=D.nx} U H1 else D.nx U H1
theorem G7(hp:PassesOwn (model X.prog X.w) X.A X.env X.xe)(hc:PT X c tc)(hb:PSs X body tb):PS X (.While c body [] pos) (Rw tc tb):=by
 intro pins s U H D I h;obtain⟨W,⟨m0,w0⟩,turn⟩:=h;refine wpAny_While (codeAny_whileLoop (fun n s'=>∃U' H',Inv X pins U' H' s'/\W n U' H') ?_ m0 ⟨U,H,I,w0⟩);rintro n s1 ⟨σ1,H1,I1,w1⟩;refine wpAny_passesOwn hp (thn (hc pins s1 σ1 H1 _ I1 (turn n σ1 H1 w1)) fun b s2 ⟨H2,I2,q2⟩=>?_)
 cases b with
 |true=>
  obtain⟨N,hN,q2⟩:=q2;rw[Zp rfl];refine wpAny_passesOwn hp (thn (hb pins s2 σ1 H2 _ I2 q2) fun f s3 q3=>?_)
  cases f with
  |next=>
   obtain⟨σ3,H3,I3,n3⟩:=q3;obtain⟨m',hm,w3⟩:=hN σ3 H3 n3;exact⟨m',hm,σ3,H3,I3,w3⟩
  |cont=>
   obtain⟨σ3,H3,I3,n3⟩:=q3;obtain⟨m',hm,w3⟩:=hN σ3 H3 n3;exact⟨m',hm,σ3,H3,I3,w3⟩
  |brk=>exact q3
  |ret v=>exact q3
 |false=>
  rw[Zq Zi];exact wpAny_execs_nil ⟨σ1,H2,I2,q2⟩
end
structure It where
 go:Nat->Hp->Prop
 yld:Nat->Hp->V->Hp->Prop
 stop:Nat->Hp->Prop
def J8(X:Cx)(pins:List (Addr×Obj))(H:Hp)(b:Addr):Prop:=
 H b=none/\b≠X.env.locals/\b∉X.fs/\(b∈X.ex\/X.s₀.heap.objs.size<=b)/\(∀x c,X.env.cells.lookup x=some c->c≠b)/\∀p∈X.pn++ pins,p.1≠b
theorem Inv.fpOk(I:Inv X pins U H s)(hb:s.heap.objs.size<=b)(hn:H' b=none):J8 X pins H' b:=by
 refine⟨hn,Nat.ne_of_gt (Zx I.lt hb),I.nofs hb,.inr (Zb I.sz hb),fun x c e z=>?_,fun p hp z=>?_⟩
 .obtain ⟨v,q⟩:=I.cell x c e
  exact Zr (Zx q.lt (by rw[z];exact hb)) (Nat.lt_irrefl _)
 .exact Zr (Zx (ZP (I.pin p hp).1) (by rw[z];exact hb)) (Nat.lt_irrefl _)
structure Turn(P:Program)(w:World)(K:W.Frag)(tg:Expr)(J:It)(fp:List Addr)(it:Addr)(tn:Nat->Heap->Prop):Prop where
 mem:it∈fp
 obj:∀i h,tn i h->∀b∈fp,∃o,h.get? b=some o/\∀v,o.data≠.cell v
 keep:∀i h h',tn i h->(∀b∈fp,∀o,h.get? b=some o->h'.get? b=some o)->tn i h'
 item:∀(X:Cx),X.prog=P->X.w=w->X.K=K->X.calm=true->∀(i:Nat)(pins:List (Addr×Obj))(s:Shared)(U:St)(H:Hp)(E:Value->Shared->Prop),Inv X pins U H s->(∀b∈fp,J8 X pins H b)->tn i s.heap->J.go i H->
  wpAny (model P w) X.A (pyNext (.ref it)) (fun r s1=>∃u,r=some u/\
   wpAny (model P w) X.A (letOwnedTupleGo tg (.ref it) u) (fun _ s2=>∃x H',Inv X pins U H' s2/\RelV x u/\J.yld i H x H'/\tn (i+1) s2.heap/\∀b∈fp,H' b=none) E s1) E s
 done:∀(X:Cx),X.prog=P->X.w=w->X.K=K->X.calm=true->∀(i:Nat)(pins:List (Addr×Obj))(s:Shared)(U:St)(H:Hp)(E:Value->Shared->Prop),Inv X pins U H s->(∀b∈fp,J8 X pins H b)->tn i s.heap->J.stop i H->
  wpAny (model P w) X.A (pyNext (.ref it)) (fun r s1=>r=none/\Inv X pins U H s1) E s
 self:∀(A:Around)(i:Nat)(s:Shared)(Q:Value->Shared->Prop)(E:Value->Shared->Prop),tn i s.heap->Q (.ref it) s->wpAny (model P w) A (pyIter (.ref it)) Q E s
abbrev TI:=St->Hp->(It->Hp->Prop)->Prop
def PIE(X:Cx)(pins:List (Addr×Obj))(U:St)(tg:Expr)(R:It->Hp->Prop)(itv:Value)(s2:Shared):Prop:=
 ∃(it:Addr)(fp:List Addr)(tn:Nat->Heap->Prop)(J:It)(H':Hp),itv=.ref it/\Inv X pins U H' s2/\Turn X.prog X.w X.K tg J fp it tn/\tn 0 s2.heap/\(∀b∈fp,J8 X pins H' b)/\R J H'
def PI(X:Cx)(tg iter:Expr)(wi:TI):Prop:=
 ∀(pins:List (Addr×Obj))(s:Shared)(U:St)(H:Hp)(R:It->Hp->Prop),Inv X pins U H s->wi U H R->
  wpAny (model X.prog X.w) X.A (eval iter X.env) (fun v s1=>wpAny (model X.prog X.w) X.A (pyIter v) (PIE X pins U tg R) X.xe s1) X.xe s
theorem KM(ho:s.heap.get? it=some o)(hc:o.cls=.type n)(hd:o.data=.fields vs)(hn:["enumerate","zip","dict_itemiterator","dict_reverseitemiterator","odict_iterator","itertools.zip_longest","itertools.pairwise"].contains n=false)(hQ:Q () s):wpAny M A (letOwnedTupleGo tg (.ref it) u) Q E s:=by
  unfold letOwnedTupleGo;cases tg <;> first
    |exact Zm hQ
    | (cases u <;> first
        |exact Zm hQ
        | (refine Zl (wpAny_load ho ?_)
           rw[hc,hd];show wpAny M A (if(["enumerate","zip","dict_itemiterator","dict_reverseitemiterator","odict_iterator","itertools.zip_longest","itertools.pairwise"].contains n && vs[0]?==some (rawInt _))=true then _ else _) Q E s;rw[Zq (by intro h;rw[hn,Bool.false_and]at h;cases h)];exact Zm hQ))
def Itl(K:W.Frag)(a:Addr):It:=
 ⟨fun i H=>∃xs x,SqL K H a xs/\xs[i]?=some x,fun i H x H'=>H'=H/\∀xs,SqL K H a xs->xs[i]?=some x,fun i H=>∃xs,SqL K H a xs/\xs.length<=i⟩
def Itt(K:W.Frag)(a:Addr):It:=
 ⟨fun i H=>∃xs x,SqT K H a xs/\xs[i]?=some x,fun i H x H'=>H'=H/\∀xs,SqT K H a xs->xs[i]?=some x,fun i H=>∃xs,SqT K H a xs/\xs.length<=i⟩
def Itr(lo:Int)(n:Nat):It:=⟨fun i _=>i<n,fun i H x H'=>H'=H/\x=.int (lo+i),fun i _=>n<=i⟩
theorem EC{P:Program}{w:World}{K:W.Frag}{tg:Expr}(a it:Addr):Turn P w K tg (Itl K a) [it] it (fun i h=>h.IsListIter it a i) where
 mem:=by simp
 obj:=fun i h st b hb=>by
  have e:b=it:=by simpa using hb
  subst e;obtain⟨o,e,c,d⟩:=st;exact⟨o,e,fun v z=>by rw[d]at z;cases z⟩
 keep:=fun i h h' st k=>st.at fun o e=>k it (by simp) o e
 item:=by
  intro X hP hw hK hc i pins s U H E I hf st hg;subst hP hw hK;obtain⟨xs,x,hq,hx⟩:=hg;obtain⟨its,rv,p,hz⟩:=I.list hq;obtain⟨u,hu,ru⟩:=rv.get hx;obtain⟨f0,f1,f2,f3,f4,f5⟩:=hf it (by simp);refine wpAny_pyNext_list_item st p.isList (x:=u) (by simpa using hu) fun h' st' sb=>?_;have I1:Inv X pins U H {s with heap:=h'}:=I.turned (t':=s.toks) (fun b o hb e=>(sb.2 b hb).trans e) f0 f1 f3 f4 f5;obtain⟨o,e,c,d⟩:=id st';exact⟨u,rfl,KM (s:={s with heap:=h'}) e c d (by decide) ⟨x,H,I1,ru,⟨rfl,fun ys hy=>by rw[I.list_inj hy hq];exact hx⟩,st',fun b hb=>(hf b hb).1⟩⟩
 done:=by
  intro X hP hw hK hc i pins s U H E I hf st hg;subst hP hw hK;obtain⟨xs,hq,hx⟩:=hg;obtain⟨its,rv,p,hz⟩:=I.list hq;obtain⟨f0,f1,f2,f3,f4,f5⟩:=hf it (by simp);have hl:=rv.length;exact wpAny_pyNext_list_end (I.ok.hd hc) st p.isList (by simp;omega) fun h' eb=>⟨rfl,I.turned (t':=s.toks) (fun b o hb e=>eb b o hb e) f0 f1 f3 f4 f5⟩
 self:=fun _ _ _ _ _ st h=>wpAny_pyIter_listiter st h
theorem Nu{P:Program}{w:World}{K:W.Frag}{tg:Expr}(a it:Addr):Turn P w K tg (Itt K a) [it] it (fun i h=>h.IsTupleIter it a i) where
 mem:=by simp
 obj:=fun i h st b hb=>by
  have e:b=it:=by simpa using hb
  subst e;obtain⟨o,e,c,d⟩:=st;exact⟨o,e,fun v z=>by rw[d]at z;cases z⟩
 keep:=fun i h h' st k=>st.at fun o e=>k it (by simp) o e
 item:=by
  intro X hP hw hK hc i pins s U H E I hf st hg;subst hP hw hK;obtain⟨xs,x,hq,hx⟩:=hg;obtain⟨its,rv,p,hz⟩:=I.tuple hq;obtain⟨u,hu,ru⟩:=rv.get hx;obtain⟨f0,f1,f2,f3,f4,f5⟩:=hf it (by simp);refine wpAny_pyNext_tuple_item st (show s.heap.IsTuple a its.toArray from p) (x:=u) (by simpa using hu) fun h' st' sb=>?_;have I1:Inv X pins U H {s with heap:=h'}:=I.turned (t':=s.toks) (fun b o hb e=>(sb.2 b hb).trans e) f0 f1 f3 f4 f5;obtain⟨o,e,c,d⟩:=id st';exact⟨u,rfl,KM (s:={s with heap:=h'}) e c d (by decide) ⟨x,H,I1,ru,⟨rfl,fun ys hy=>by rw[I.tuple_inj hy hq];exact hx⟩,st',fun b hb=>(hf b hb).1⟩⟩
 done:=by
  intro X hP hw hK hc i pins s U H E I hf st hg;subst hP hw hK;obtain⟨xs,hq,hx⟩:=hg;obtain⟨its,rv,p,hz⟩:=I.tuple hq;obtain⟨f0,f1,f2,f3,f4,f5⟩:=hf it (by simp);have hl:=rv.length;exact wpAny_pyNext_tuple_end (I.ok.hd hc) st (show s.heap.IsTuple a its.toArray from p) (by simp;omega) fun h' eb=>⟨rfl,I.turned (t':=s.toks) (fun b o hb e=>eb b o hb e) f0 f1 f3 f4 f5⟩
 self:=fun _ _ _ _ _ st h=>wpAny_pyIter_tupleiter st h
theorem Nv{P:Program}{w:World}{K:PySem.W.Frag}{tg:Expr}(it:Addr)(lo:Int)(n:Nat):Turn P w K tg (Itr lo n) [it] it (fun i h=>IsRangeIter h it (lo+(i:Nat)*1) ((n:Int)-(i:Nat)) 1) where
 mem:=by simp
 obj:=fun i h st b hb=>by
  have e:b=it:=by simpa using hb
  subst e
  exact⟨_,st,fun v z=>by
   have z':Data.fields _=Data.cell v:=z;cases z'⟩
 keep:=fun i h h' st k=>k it (by simp) _ st
 item:=by
  intro X hP hw hK hc i pins s U H E I hf st hg;subst hP hw hK;obtain⟨f0,f1,f2,f3,f4,f5⟩:=hf it (by simp);have W:=Walks.range (prog:=X.prog) (w:=X.w) (I.ok.hd hc) it lo 1 n;refine W.item i s _ _ hg st fun v h' tk hv st' kk=>?_;obtain⟨t,rfl⟩:=hv;have I1:Inv X pins U H {s with heap:=h',toks:=tk}:=I.turned (fun b o hb e=>kk b o (by simpa using hb) e) f0 f1 f3 f4 f5;refine⟨_,rfl,KM (s:={s with heap:=h',toks:=tk}) (n:="range_iterator") st' rfl rfl (by decide) ⟨.int (lo+i),H,I1,⟨t,?_⟩,⟨rfl,rfl⟩,st',fun b hb=>(hf b hb).1⟩⟩;rw[Int.mul_one]
 done:=by
  intro X hP hw hK hc i pins s U H E I hf st hg;subst hP hw hK;obtain⟨f0,f1,f2,f3,f4,f5⟩:=hf it (by simp);exact wpAny_pyNext_range_end (I.ok.hd hc) st (by have:n<=i:=hg;omega) fun h' eb=>⟨rfl,I.turned (t':=s.toks) (fun b o hb e=>eb b o hb e) f0 f1 f3 f4 f5⟩
 self:=fun _ _ _ _ _ st h=>wpAny_pyIter_rangeiter st h
end L2
namespace L2
open PySem PySem.Spec PyProof.Rows
section
def Iy(K:W.Frag)(tl:TE):TI:=fun U H R=>tl U H fun x H1=>Jc x fun a=>(∃xs,SqL K H1 a xs)/\R (Itl K a) H1
def Cw(K:W.Frag)(tl:TE):TI:=fun U H R=>tl U H fun x H1=>Jc x fun a=>(∃xs,SqT K H1 a xs)/\R (Itt K a) H1
theorem JL(hl:PE X l tl):PI X tg l (Iy X.K tl):=by
 intro pins s U H R I h;refine thn (hl pins s U H _ I h) fun v s1 ⟨x,H1,I1,r1,q1⟩=>?_;replace q1:=Jc.old q1;obtain⟨a,e,⟨xs,hq⟩,q⟩:=q1;subst e;cases r1;obtain⟨its,rv,p,hz⟩:=I1.list hq;refine wpAny_pyIter_list p.isList ?_;refine⟨s1.heap.objs.size,[s1.heap.objs.size],_,_,H1,rfl,I1.kept (t':=s1.toks) fun b o e=>ZE _ e,EC a _,⟨_,ZY _ rfl,rfl,rfl⟩,fun b hb=>?_,q⟩;have e:b=s1.heap.objs.size:=by simpa using hb
 subst e;exact I1.fpOk (ZG _) (I1.hok.fresh (ZG _))
theorem JV(hl:PE X l tl):PI X tg l (Cw X.K tl):=by
 intro pins s U H R I h;refine thn (hl pins s U H _ I h) fun v s1 ⟨x,H1,I1,r1,q1⟩=>?_;replace q1:=Jc.old q1;obtain⟨a,e,⟨xs,hq⟩,q⟩:=q1;subst e;cases r1;obtain⟨its,rv,p,hz⟩:=I1.tuple hq;refine wpAny_pyIter_tuple (show s1.heap.IsTuple a its.toArray from p) ?_;refine⟨s1.heap.objs.size,[s1.heap.objs.size],_,_,H1,rfl,I1.kept (t':=s1.toks) fun b o e=>ZE _ e,Nu a _,⟨_,ZY _ rfl,rfl,rfl⟩,fun b hb=>?_,q⟩;have e:b=s1.heap.objs.size:=by simpa using hb
 subst e;exact I1.fpOk (ZG _) (I1.hok.fresh (ZG _))
theorem Fq{lo hi:Int}(I:Inv X pins U H s)(h1: -(2 ^ 62)<=lo)(h2:lo<2 ^ 62)(h3: -(2 ^ 62)<=hi)(h4:hi<2 ^ 62)(q:R (Itr lo (hi-lo).toNat) H):wpAny (model X.prog X.w) X.A (pyIter (.ref s.heap.objs.size)) (PIE X pins U tg R) E {s with heap:=s.heap.push {cls:=.type "range",data:=.fields #[.int lo t,.int hi u,.int 1 v]},toks:=tk}:=by
 refine wpAny_pyIter_range (IsRange.new ..) (small_one h1 h2 h3 h4) ?_;have I1:Inv X pins U H {s with heap:=s.heap.push {cls:=.type "range",data:=.fields #[.int lo t,.int hi u,.int 1 v]},toks:=tk}:=I.kept fun b o e=>ZE _ e;refine⟨(s.heap.push {cls:=.type "range",data:=.fields #[.int lo t,.int hi u,.int 1 v]}).objs.size,[(s.heap.push {cls:=.type "range",data:=.fields #[.int lo t,.int hi u,.int 1 v]}).objs.size],_,_,H,rfl,
  I1.kept (t':=tk) fun b o e=>ZE _ e,Nv _ lo (hi-lo).toNat,?_,fun b hb=>?_,q⟩
 .have e1:lo+((0:Nat):Int)*1=lo:=by simp
  have e2:(((hi-lo).toNat:Nat):Int)-((0:Nat):Int)=Builtin.Range.rangeSize lo hi 1:=by rw[rangeSize_one];split <;> omega
  show IsRangeIter _ _ (lo+((0:Nat):Int)*1) ((((hi-lo).toNat:Nat):Int)-((0:Nat):Int)) 1;rw[e1,e2];exact ZY _ rfl
 .have e:b=(s.heap.push {cls:=.type "range",data:=.fields #[.int lo t,.int hi u,.int 1 v]}).objs.size:=by simpa using hb
  subst e;exact I1.fpOk (ZG _) (I1.hok.fresh (ZG _))
def Ad(ta:TA):TI:=fun U H R=>ta U H fun vs H1=>∃j:Int,vs=[.int j]/\ -(2 ^ 62)<=j/\j<2 ^ 62/\R (Itr 0 j.toNat) H1
theorem Jd(hg:Gl X "range")(hm:X.mg "range"=none)(ha:PA X [a] ta)(hs:starEach [a] X.env=[(false,eval a X.env)]:=by rfl):PI X tg (.Call (.Name "range" p) [a] [] pos) (Ad ta):=by
 intro pins s U H R I h;refine Call_ (U3 I hg hm boot_range (PyProof.Rows.callWith_type1 (thn (ha pos pins s U H _ I h) fun us s1 ⟨vs,H1,I1,r1,q1⟩=>?_) hs rfl));obtain⟨j,e,q1,q2,q⟩:=q1;subst e
 cases r1 with
 |cons r rr=>
  cases rr;obtain⟨t,rfl⟩:=r;exact call_range_1 (Fq I1 (by omega) (by omega) q1 q2 (by simpa using q))
def UH(wi:TI)(g:TG)(tb:TS):TS:=fun D U H=>wi U H fun J H1=>∃W:Nat->Nat->St->Hp->Prop,(∃m,W 0 m U H1)/\∀i m U H,W i m U H->
 (J.stop i H/\D.nx U H)\/(J.go i H/\∃N:St->Hp->Prop,(∀U' H',N U' H'->∃m',m'<m/\W (i+1) m' U' H')/\∀x H',J.yld i H x H'->g x U H' fun σ2 H2=>tb {D with nx:=N,ct:=N,bk:=D.nx} σ2 H2)
def VZ(fp:List Addr)(h:Heap):List (Addr×Obj):=fp.filterMap fun b=>(h.get? b).map fun o=>(b,o)
theorem JO(hb:b∈fp)(e:h.get? b=some o):(b,o)∈VZ fp h:=List.mem_filterMap.mpr ⟨b,hb,by rw[e];rfl⟩
theorem WW(hp:p∈VZ fp h):p.1∈fp/\h.get? p.1=some p.2:=by
 obtain⟨b,hb,e⟩:=List.mem_filterMap.mp hp
 cases q:h.get? b with
 |none=>rw[q]at e;cases e
 |some o=>
  rw[q]at e;have e':(b,o)=p:=ZT e;subst e';exact⟨hb,q⟩
theorem Inv.pinned(I:Inv X pins U H s)(hf:∀b∈fp,J8 X pins H b)(ho:∀b∈fp,∃o,s.heap.get? b=some o/\∀v,o.data≠.cell v):Inv X (pins++ VZ fp s.heap) U H s:=
 I.pins_of fun p hp=>(ZX.mp hp).elim (fun z=>I.pin p (ZU _ z)) fun z=>by
  obtain⟨hb,e⟩:=WW z;obtain⟨f0,f1,f2,_⟩:=hf p.1 hb;obtain⟨o,e',d⟩:=ho p.1 hb;rw[e]at e';cases e';exact⟨e,f0,f1,f2,d⟩
theorem Inv.unpinned(I:Inv X (pins++ pl) U H s):Inv X pins U H s:=I.pins_of fun p hp=>I.pin p (ZU _ (List.mem_append_left _ hp))
theorem V1(hp:PassesOwn (model X.prog X.w) X.A X.env X.xe)(hc:X.calm=true)(hi:PI X tg iter wi)(hg:PG X tg g)(hb:PSs X body tb)(hs:∀x,foldedSetIterable iter X.env x=pure x:=by intro _;rfl):PS X (.For tg iter body [] pos) (UH wi g tb):=by
 intro pins s U H D I h;refine wpAny_For (thn (hi pins s U H _ I h) fun v s1 h1=>thn h1 fun itv s2 h2=>?_) hs;obtain⟨it,fp,tn,J,H2,e,I2,T,st2,f2,W,⟨m0,w0⟩,turn⟩:=h2;subst e;have stat:∀{H':Hp},(∀b∈fp,H' b=none)->∀b∈fp,J8 X pins H' b:=fun hn b hb=>⟨hn b hb,(f2 b hb).2⟩;refine codeAny_forLoop_any (fun n s'=>∃i U' H',Inv X pins U' H' s'/\tn i s'.heap/\(∀b∈fp,H' b=none)/\W i n U' H') ?_ m0 ⟨0,U,H2,I2,st2,fun b hb=>(f2 b hb).1,w0⟩;rintro n s3 ⟨i,σ3,H3,I3,st3,fr3,w3⟩;rcases turn i n σ3 H3 w3 with⟨stop,qn⟩|⟨go,N,hN,step⟩
 .refine wpAny_passesOwn hp (thn (T.done X rfl rfl rfl hc i pins s3 σ3 H3 X.xe I3 (stat fr3) st3 stop) fun r s4 ⟨hr,I4⟩=>?_)
  subst hr;exact wpAny_execs_nil ⟨σ3,H3,I4,qn⟩
 .refine wpAny_passesOwn hp (thn (T.item X rfl rfl rfl hc i pins s3 σ3 H3 X.xe I3 (stat fr3) st3 go) fun r s4 ⟨u,hr,h4⟩=>?_)
  subst hr;refine wpAny_passesOwn hp (thn h4 fun _ s5 ⟨x,H5,I5,r5,y5,st5,fr5⟩=>?_);have I5':=I5.pinned (stat fr5) (T.obj _ _ st5);refine wpAny_passesOwn hp (thn (hg _ s5 σ3 H5 x u _ I5' r5 (step x H5 y5)) fun _ s6 ⟨σ6,H6,I6,q6⟩=>?_);refine wpAny_passesOwn hp (thn (hb _ s6 σ6 H6 _ I6 q6) fun f s7 q7=>?_)
  have again:∀{σ7:St}{H7:Hp},Inv X (pins++ VZ fp s5.heap) σ7 H7 s7->N σ7 H7->∃m,m<n/\∃i U' H',Inv X pins U' H' s7/\tn i s7.heap/\(∀b∈fp,H' b=none)/\W i m U' H':=fun{σ7 H7} I7 n7=>by
   obtain⟨m',hm,w7⟩:=hN σ7 H7 n7;refine⟨m',hm,i+1,σ7,H7,I7.unpinned,T.keep _ _ _ st5 fun b hb o e=>(I7.pin (b,o) (ZU _ (ZU _ (JO hb e)))).1,fun b hb=>?_,w7⟩;obtain⟨o,e,d⟩:=T.obj _ _ st5 b hb;exact(I7.pin (b,o) (ZU _ (ZU _ (JO hb e)))).2.1
  cases f with
  |next=>obtain⟨σ7,H7,I7,n7⟩:=q7;exact again I7 n7
  |cont=>obtain⟨σ7,H7,I7,n7⟩:=q7;exact again I7 n7
  |brk=>obtain⟨σ7,H7,I7,q7⟩:=q7;exact⟨σ7,H7,I7.unpinned,q7⟩
  |ret v=>obtain⟨x7,σ7,H7,I7,r7,q7⟩:=q7;exact⟨x7,σ7,H7,I7.unpinned,r7,q7⟩
end
theorem Td{K:PySem.W.Frag}{g:TG}{tb:TS}{D:Ends}(Pv:Nat->St->Hp->Prop)(h0:Pv 0 U H)(hl:∀i U H,i<=xs.length->Pv i U H->SqL K H a xs)(hs:∀i x U H,xs[i]?=some x->Pv i U H->g x U H fun σ2 H2=>tb {D with nx:=Pv (i+1),ct:=Pv (i+1),bk:=D.nx} σ2 H2)(hd:∀U H,Pv xs.length U H->D.nx U H):
  ∃W:Nat->Nat->St->Hp->Prop,(∃m,W 0 m U H)/\∀i m U H,W i m U H->
   ((Itl K a).stop i H/\D.nx U H)\/((Itl K a).go i H/\∃N:St->Hp->Prop,(∀U' H',N U' H'->∃m',m'<m/\W (i+1) m' U' H')/\∀x H',(Itl K a).yld i H x H'->g x U H' fun σ2 H2=>tb {D with nx:=N,ct:=N,bk:=D.nx} σ2 H2):=by
 refine⟨fun i m U H=>m=xs.length-i/\i<=xs.length/\Pv i U H,⟨xs.length,by simp,Zc _,h0⟩,?_⟩;rintro i m U H ⟨rfl,hi,p⟩;have q:=hl i U H hi p
 by_cases hlt:i<xs.length
 .refine .inr ⟨⟨xs,xs[i],q,by simp[hlt]⟩,Pv (i+1),fun U' H' p'=>⟨xs.length-(i+1),by omega,rfl,hlt,p'⟩,fun x H' y=>?_⟩
  obtain⟨e,y⟩:=y;subst e;exact hs i x U _ (y xs q) p
 .have e:i=xs.length:=by omega
  subst e;exact .inl ⟨⟨xs,q,ZG _⟩,hd U H p⟩
theorem Mp{K:PySem.W.Frag}{g:TG}{tb:TS}{D:Ends}(Pv:Nat->St->Hp->Prop)(h0:Pv 0 U H)(hl:∀i U H,i<=xs.length->Pv i U H->SqT K H a xs)(hs:∀i x U H,xs[i]?=some x->Pv i U H->g x U H fun σ2 H2=>tb {D with nx:=Pv (i+1),ct:=Pv (i+1),bk:=D.nx} σ2 H2)(hd:∀U H,Pv xs.length U H->D.nx U H):
  ∃W:Nat->Nat->St->Hp->Prop,(∃m,W 0 m U H)/\∀i m U H,W i m U H->
   ((Itt K a).stop i H/\D.nx U H)\/((Itt K a).go i H/\∃N:St->Hp->Prop,(∀U' H',N U' H'->∃m',m'<m/\W (i+1) m' U' H')/\∀x H',(Itt K a).yld i H x H'->g x U H' fun σ2 H2=>tb {D with nx:=N,ct:=N,bk:=D.nx} σ2 H2):=by
 refine⟨fun i m U H=>m=xs.length-i/\i<=xs.length/\Pv i U H,⟨xs.length,by simp,Zc _,h0⟩,?_⟩;rintro i m U H ⟨rfl,hi,p⟩;have q:=hl i U H hi p
 by_cases hlt:i<xs.length
 .refine .inr ⟨⟨xs,xs[i],q,by simp[hlt]⟩,Pv (i+1),fun U' H' p'=>⟨xs.length-(i+1),by omega,rfl,hlt,p'⟩,fun x H' y=>?_⟩
  obtain⟨e,y⟩:=y;subst e;exact hs i x U _ (y xs q) p
 .have e:i=xs.length:=by omega
  subst e;exact .inl ⟨⟨xs,q,ZG _⟩,hd U H p⟩
theorem XR{lo:Int}{g:TG}{tb:TS}{D:Ends}(Pv:Nat->St->Hp->Prop)(h0:Pv 0 U H)(hs:∀i U H,i<n->Pv i U H->g (.int (lo+i)) U H fun σ2 H2=>tb {D with nx:=Pv (i+1),ct:=Pv (i+1),bk:=D.nx} σ2 H2)(hd:∀U H,Pv n U H->D.nx U H):
  ∃W:Nat->Nat->St->Hp->Prop,(∃m,W 0 m U H)/\∀i m U H,W i m U H->
   ((Itr lo n).stop i H/\D.nx U H)\/((Itr lo n).go i H/\∃N:St->Hp->Prop,(∀U' H',N U' H'->∃m',m'<m/\W (i+1) m' U' H')/\∀x H',(Itr lo n).yld i H x H'->g x U H' fun σ2 H2=>tb {D with nx:=N,ct:=N,bk:=D.nx} σ2 H2):=by
 refine⟨fun i m U H=>m=n-i/\i<=n/\Pv i U H,⟨n,by simp,Zc _,h0⟩,?_⟩;rintro i m U H ⟨rfl,hi,p⟩
 by_cases hlt:i<n
 .refine .inr ⟨hlt,Pv (i+1),fun U' H' p'=>⟨n-(i+1),by omega,rfl,hlt,p'⟩,fun x H' y=>?_⟩
  obtain⟨e,y⟩:=y;subst e y;exact hs i U _ hlt p
 .have e:i=n:=by omega
  subst e;exact .inl ⟨ZG _,hd U H p⟩
abbrev R2:=V->V->Hp->VK->Prop
def OpR(X:Cx)(f:Value->Value->Sem Value)(r:R2):Prop:=
 ∀(pins:List (Addr×Obj))(s:Shared)(U:St)(H:Hp)(x y:V)(v u:Value)(Q:VK),Inv X pins U H s->RelV x v->RelV y u->r x y H Q->
  wpAny (model X.prog X.w) X.A (f v u) (EP X pins U Q) X.xe s
def UnR(X:Cx)(f:Value->Sem Value)(r:V->Hp->VK->Prop):Prop:=
 ∀(pins:List (Addr×Obj))(s:Shared)(U:St)(H:Hp)(x:V)(v:Value)(Q:VK),Inv X pins U H s->RelV x v->r x H Q->
  wpAny (model X.prog X.w) X.A (f v) (EP X pins U Q) X.xe s
def Jb(X:Cx)(f:Value)(r:List V->Hp->VK->Prop):Prop:=
 ∀(pins:List (Addr×Obj))(s:Shared)(U:St)(H:Hp)(xs:List V)(us:List Value)(Q:VK),Inv X pins U H s->Vals xs us->r xs H Q->
  wpAny (model X.prog X.w) X.A (call f us) (EP X pins U Q) X.xe s
def tOp(r:R2)(ta tb:TE):TE:=fun U H Q=>ta U H fun x H1=>tb U H1 fun y H2=>r x y H2 Q
def tUn(r:V->Hp->VK->Prop)(ta:TE):TE:=fun U H Q=>ta U H fun x H1=>r x H1 Q
def rI(C:Int->Int->Prop)(g:Int->Int->V):R2:=fun x y H Q=>Ui x fun i=>Ui y fun j=>C i j/\Q (g i j) H
theorem rI.old(h:rI C g x y H Q):∃i j,x=.int i/\y=.int j/\C i j/\Q (g i j) H:=by
 replace h:=Ui.old h;obtain⟨i,e,h⟩:=h;replace h:=Ui.old h;obtain⟨j,e',h⟩:=h;exact⟨i,j,e,e',h⟩
def rI0(g:Int->Int->V):R2:=fun x y H Q=>Ui x fun i=>Ui y fun j=>Q (g i j) H
theorem rI0.old(h:rI0 g x y H Q):∃i j,x=.int i/\y=.int j/\Q (g i j) H:=by
 replace h:=Ui.old h;obtain⟨i,e,h⟩:=h;replace h:=Ui.old h;obtain⟨j,e',h⟩:=h;exact⟨i,j,e,e',h⟩
def rU(g:Int->V):V->Hp->VK->Prop:=fun x H Q=>∃i,x=.int i/\Q (g i) H
section
theorem Qz(ha:PE X a ta)(hb:PE X b tb){R:V->V->Hp->Prop}(I:Inv X pins U H s)(h:ta U H fun x H1=>tb U H1 fun y H2=>R x y H2){f:Value->Value->Sem Value}(hf:∀v u s2 x y H2,Inv X pins U H2 s2->RelV x v->RelV y u->R x y H2->wpAny (model X.prog X.w) X.A (f v u) Q X.xe s2):
  wpAny (model X.prog X.w) X.A (eval a X.env) (fun v s₁=>wpAny (model X.prog X.w) X.A (eval b X.env) (fun u s₂=>wpAny (model X.prog X.w) X.A (f v u) Q X.xe s₂) X.xe s₁) X.xe s:=by
 refine thn (ha pins s U H _ I h) fun v s1 ⟨x,H1,I1,r1,q1⟩=>?_;refine thn (hb pins s1 U H1 _ I1 q1) fun u s2 ⟨y,H2,I2,r2,q2⟩=>?_;exact hf v u s2 x y H2 I2 r1 r2 q2
theorem VB(ho:OpR X (binaryOp op) r)(ha:PE X a ta)(hb:PE X b tb):PE X (.BinOp a op b pos) (tOp r ta tb):=by
 intro pins s U H Q I h;exact wpAny_BinOp (Qz ha hb I h fun v u s2 x y H2 I2 rx ry q=>ho pins s2 U H2 x y v u Q I2 rx ry q)
theorem NL(ho:UnR X (unaryOp op) r)(ha:PE X a ta):PE X (.UnaryOp op a pos) (tUn r ta):=by
 intro pins s U H Q I h;exact UnaryOp_ (thn (ha pins s U H _ I h) fun v s1 ⟨x,H1,I1,r1,q1⟩=>ho pins s1 U H1 x v Q I1 r1 q1)
theorem opI{g:Int->Int->Int}(rule:∀(i j:Int)(t u:Tok)(s:Shared)(Q:Value->Shared->Prop)(E:Value->Shared->Prop),C i j->Q (.int (g i j) s.toks) {s with toks:=s.toks+1}->wpAny (model X.prog X.w) X.A (f (.int i t) (.int j u)) Q E s):
  OpR X f (rI C fun i j=>.int (g i j)):=by
 intro pins s U H x y v u Q I rx ry h;replace h:=rI.old h;obtain⟨i,j,rfl,rfl,hc,q⟩:=h;obtain⟨t,rfl⟩:=rx;obtain⟨t',rfl⟩:=ry;exact rule i j t t' s _ _ hc ⟨.int (g i j),H,I.tok _,⟨_,rfl⟩,q⟩
theorem QM{g:Int->Int->Int}(rule:∀(i j:Int)(t u:Tok)(s:Shared)(Q:Value->Shared->Prop)(E:Value->Shared->Prop),Q (.int (g i j) s.toks) {s with toks:=s.toks+1}->wpAny (model X.prog X.w) X.A (f (.int i t) (.int j u)) Q E s):
  OpR X f (rI0 fun i j=>.int (g i j)):=by
 intro pins s U H x y v u Q I rx ry h;replace h:=rI0.old h;obtain⟨i,j,rfl,rfl,q⟩:=h;obtain⟨t,rfl⟩:=rx;obtain⟨t',rfl⟩:=ry;exact rule i j t t' s _ _ ⟨.int (g i j),H,I.tok _,⟨_,rfl⟩,q⟩
theorem Ll{g:Int->Int->Bool}(rule:∀(i j:Int)(t u:Tok)(s:Shared)(Q:Value->Shared->Prop)(E:Value->Shared->Prop),Q (.bool (g i j)) s->wpAny (model X.prog X.w) X.A (f (.int i t) (.int j u)) Q E s):
  OpR X f (rI0 fun i j=>.bl (g i j)):=by
 intro pins s U H x y v u Q I rx ry h;replace h:=rI0.old h;obtain⟨i,j,rfl,rfl,q⟩:=h;obtain⟨t,rfl⟩:=rx;obtain⟨t',rfl⟩:=ry;exact rule i j t t' s _ _ ⟨.bl (g i j),H,I,rfl,q⟩
def zE(i j:Int):Prop:=0<j/\j<1073741824
def A5(i j:Int):Prop:=0<=j/\j<=1000000/\i.natAbs<2 ^ 64
def Og(i j:Int):Prop:=(-(2 ^ 64)<i/\i<2 ^ 64)\/(-(2 ^ 64)<j/\j<2 ^ 64)
theorem Og.ok(h:Og i j):IntMulOk i j:=by
 rcases h with⟨h1,h2⟩|⟨h1,h2⟩
 .exact .of_left (intBits_le_64 h1 h2)
 .exact .of_right (intBits_le_64 h1 h2)
theorem V9:OpR X (binaryOp .Add) (rI0 fun i j=>.int (i+j)):=QM fun _ _ _ _ _ _ _ q=>add_int q
theorem QJ:OpR X (binaryOp .Sub) (rI0 fun i j=>.int (i-j)):=QM fun _ _ _ _ _ _ _ q=>sub_int q
theorem UJ:OpR X (binaryOp .Mult) (rI Og fun i j=>.int (i*j)):=opI fun _ _ _ _ _ _ _ hc q=>mul_int q hc.ok
theorem Dk:OpR X (binaryOp .FloorDiv) (rI zE fun i j=>.int (i / j)):=opI fun i j _ _ _ _ _ hc q=>by
 have h1:(0:Int)<j:=hc.1;have h2:j<1073741824:=hc.2;exact floordiv_int (by omega) (by rw[Int.fdiv_eq_ediv_of_nonneg i (by omega)];exact q) (.inl (PyProof.noPylong_small (by omega)))
theorem Jy:OpR X (binaryOp .Mod) (rI (fun _ j=>0<j) fun i j=>.int (i % j)):=opI fun i j _ _ _ _ _ hc q=>by
 have h1:(0:Int)<j:=hc;exact mod_int' (by omega) (by rw[Int.fmod_eq_emod_of_nonneg i (by omega)];exact q)
theorem IJ:OpR X (binaryOp .Pow) (rI A5 fun i j=>.int (i ^ j.toNat)):=opI fun _ _ _ _ _ _ _ hc q=>pow_int_small hc.1 hc.2.1 hc.2.2 q
theorem OE:OpR X (inplaceOp .Add) (rI0 fun i j=>.int (i+j)):=QM fun _ _ _ _ _ _ _ q=>iadd_int q
theorem OD:OpR X (inplaceOp .Mult) (rI Og fun i j=>.int (i*j)):=opI fun _ _ _ _ _ _ _ hc q=>imul_int q hc.ok
theorem unI{g:Int->Int}(rule:∀(i:Int)(t:Tok)(s:Shared)(Q:Value->Shared->Prop)(E:Value->Shared->Prop),Q (.int (g i) s.toks) {s with toks:=s.toks+1}->wpAny (model X.prog X.w) X.A (f (.int i t)) Q E s):
  UnR X f (rU fun i=>.int (g i)):=by
 intro pins s U H x v Q I rx h;obtain⟨i,rfl,q⟩:=h;obtain⟨t,rfl⟩:=rx;exact rule i t s _ _ ⟨.int (g i),H,I.tok _,⟨_,rfl⟩,q⟩
theorem Gh:UnR X (unaryOp .USub) (rU fun i=>.int (-i)):=unI fun _ _ _ _ _ q=>neg_int q
end
def SU:V->V->Bool
 |.non,.non=>true|.non,.int _=>true|.int _,.non=>true|.non,.bl _=>true|.bl _,.non=>true|.non,.str _=>true|.str _,.non=>true
 |.int _,.int _=>true|.bl _,.bl _=>true|.str _,.str _=>true|.byt _,.byt _=>true
 |.int _,.str _=>true|.str _,.int _=>true|.bl _,.str _=>true|.str _,.bl _=>true
 |_,_=>false
def rEq:R2:=fun x y H Q=>SU x y=true/\Q (.bl (decide (x=y))) H
def rNe:R2:=fun x y H Q=>SU x y=true/\Q (.bl (!decide (x=y))) H
theorem D1:decide (V.int i=V.int j)=(i==j):=by
 rw[Bool.eq_iff_iff];simp
theorem Kj:decide (V.bl i=V.bl j)=(i==j):=by
 rw[Bool.eq_iff_iff];simp
theorem Dz:decide (V.str i=V.str j)=(i==j):=by
 rw[Bool.eq_iff_iff];simp
theorem D2:decide (V.byt i=V.byt j)=(i.toList==j.toList):=by
 rw[Bool.eq_iff_iff];cases i;cases j;simp
section
variable{a b c:Expr}{ta tb tc:TE}
theorem VM(I:Inv X pins U H s)(q:Q (.bl k) H)(e:k=k'):EP X pins U Q (.bool k') s:=by
 subst e;exact⟨.bl k,H,I,rfl,q⟩
theorem VQ:OpR X (compareOp .Eq) rEq:=by
 intro pins s U H x y v u Q I rx ry h;obtain⟨hs,q⟩:=h
 cases x with
 |non=>
  cases rx
  cases y with
  |non=>cases ry;exact PySem.EqNone.eq_none_none (VM I q (by simp))
  |bl j=>cases ry;exact PySem.EqNone.eq_none_bool (VM I q (by simp))
  |int j=>obtain⟨t',rfl⟩:=ry;exact PySem.EqNone.eq_none_int (VM I q (by simp))
  |str j=>obtain⟨t',rfl⟩:=ry;exact PySem.EqNone.eq_none_str (VM I q (by simp))
  |_=>exact Zr (show false=true from hs) Zi
 |bl i=>
  cases rx
  cases y with
  |non=>cases ry;exact PySem.EqNone.eq_bool_none (VM I q (by simp))
  |bl j=>cases ry;exact eq_bool (VM I q Kj)
  |str j=>obtain⟨t',rfl⟩:=ry;exact PySem.EqMixed.eq_bool_str (VM I q (by simp))
  |_=>exact Zr (show false=true from hs) Zi
 |int i=>
  obtain⟨t,rfl⟩:=rx
  cases y with
  |non=>cases ry;exact PySem.EqNone.eq_int_none (VM I q (by simp))
  |int j=>obtain⟨t',rfl⟩:=ry;exact eq_int (VM I q D1)
  |str j=>obtain⟨t',rfl⟩:=ry;exact PySem.EqMixed.eq_int_str (VM I q (by simp))
  |_=>exact Zr (show false=true from hs) Zi
 |str i=>
  obtain⟨t,rfl⟩:=rx
  cases y with
  |non=>cases ry;exact PySem.EqNone.eq_str_none (VM I q (by simp))
  |bl j=>cases ry;exact PySem.EqMixed.eq_str_bool (VM I q (by simp))
  |int j=>obtain⟨t',rfl⟩:=ry;exact PySem.EqMixed.eq_str_int (VM I q (by simp))
  |str j=>obtain⟨t',rfl⟩:=ry;exact eq_str (VM I q Dz)
  |_=>exact Zr (show false=true from hs) Zi
 |byt i=>
  obtain⟨t,rfl⟩:=rx
  cases y with
  |byt j=>obtain⟨t',rfl⟩:=ry;exact W.eq_bytes (VM I q D2)
  |_=>exact Zr (show false=true from hs) Zi
 |_=>cases y <;> exact Zr (show false=true from hs) Zi
theorem Up:OpR X (compareOp .NotEq) rNe:=by
 intro pins s U H x y v u Q I rx ry h;obtain⟨hs,q⟩:=h
 cases x with
 |non=>
  cases rx
  cases y with
  |non=>cases ry;exact PySem.EqNone.ne_none_none (VM I q (by simp))
  |bl j=>cases ry;exact PySem.EqNone.ne_none_bool (VM I q (by simp))
  |int j=>obtain⟨t',rfl⟩:=ry;exact PySem.EqNone.ne_none_int (VM I q (by simp))
  |str j=>obtain⟨t',rfl⟩:=ry;exact PySem.EqNone.ne_none_str (VM I q (by simp))
  |_=>exact Zr (show false=true from hs) Zi
 |bl i=>
  cases rx
  cases y with
  |non=>cases ry;exact PySem.EqNone.ne_bool_none (VM I q (by simp))
  |bl j=>cases ry;exact ne_bool (VM I q (congrArg not Kj))
  |str j=>obtain⟨t',rfl⟩:=ry;exact PySem.EqMixed.ne_bool_str (VM I q (by simp))
  |_=>exact Zr (show false=true from hs) Zi
 |int i=>
  obtain⟨t,rfl⟩:=rx
  cases y with
  |non=>cases ry;exact PySem.EqNone.ne_int_none (VM I q (by simp))
  |int j=>obtain⟨t',rfl⟩:=ry;exact ne_int (VM I q (congrArg not D1))
  |str j=>obtain⟨t',rfl⟩:=ry;exact PySem.EqMixed.ne_int_str (VM I q (by simp))
  |_=>exact Zr (show false=true from hs) Zi
 |str i=>
  obtain⟨t,rfl⟩:=rx
  cases y with
  |non=>cases ry;exact PySem.EqNone.ne_str_none (VM I q (by simp))
  |bl j=>cases ry;exact PySem.EqMixed.ne_str_bool (VM I q (by simp))
  |int j=>obtain⟨t',rfl⟩:=ry;exact PySem.EqMixed.ne_str_int (VM I q (by simp))
  |str j=>obtain⟨t',rfl⟩:=ry;exact ne_str (VM I q (congrArg not Dz))
  |_=>exact Zr (show false=true from hs) Zi
 |byt i=>
  obtain⟨t,rfl⟩:=rx
  cases y with
  |byt j=>obtain⟨t',rfl⟩:=ry;exact W.ne_bytes (VM I q (congrArg not D2))
  |_=>exact Zr (show false=true from hs) Zi
 |_=>cases y <;> exact Zr (show false=true from hs) Zi
theorem Oz:OpR X (compareOp .Lt) (rI0 fun i j=>.bl (decide (i<j))):=Ll fun _ _ _ _ _ _ _ q=>lt_int q
theorem Uz:OpR X (compareOp .LtE) (rI0 fun i j=>.bl (decide (i<=j))):=Ll fun _ _ _ _ _ _ _ q=>le_int q
theorem X1:OpR X (compareOp .Gt) (rI0 fun i j=>.bl (decide (j<i))):=Ll fun _ _ _ _ _ _ _ q=>gt_int q
theorem O0:OpR X (compareOp .GtE) (rI0 fun i j=>.bl (decide (j<=i))):=Ll fun _ _ _ _ _ _ _ q=>ge_int q
theorem EW:OpR X (compareOp .In) (fun x y H Q=>∃i j,x=.str i/\y=.str j/\Q (.bl (!(Builtin.Str.occurrences j i 0 j.length 1).isEmpty)) H):=by
 intro pins s U H x y v u Q I rx ry h;obtain⟨i,j,rfl,rfl,q⟩:=h;obtain⟨t,rfl⟩:=rx;obtain⟨t',rfl⟩:=ry;exact in_str (VM I q rfl)
theorem Ud:OpR X (compareOp .Is) (fun x y H Q=>y=.non/\Q (.bl (decide (x=.non))) H):=by
 intro pins s U H x y v u Q I rx ry h;obtain⟨rfl,q⟩:=h;cases ry;refine is_none_gen (VM I q ?_);cases x <;> first
  |(cases rx;rfl)
  |(obtain⟨t,rfl⟩:=rx;rfl)
theorem Dj:OpR X (compareOp .IsNot) (fun x y H Q=>y=.non/\Q (.bl (!decide (x=.non))) H):=by
 intro pins s U H x y v u Q I rx ry h;obtain⟨rfl,q⟩:=h;cases ry;refine isnot_none_gen (VM I q ?_);cases x <;> first
  |(cases rx;rfl)
  |(obtain⟨t,rfl⟩:=rx;rfl)
theorem OpR.or(h:OpR X f r)(h':OpR X f r'):OpR X f (fun x y H Q=>r x y H Q\/r' x y H Q):=by
 intro pins s U H x y v u Q I rx ry q;rcases q with q|q
 .exact h pins s U H x y v u Q I rx ry q
 .exact h' pins s U H x y v u Q I rx ry q
theorem Yv(b:Expr)(h:op≠.In:=by decide)(h2:op≠.NotIn:=by decide):behindInMarks op b=false:=by
 have e1:(op==CmpOp.In)=false:=by cases op <;> first|rfl|exact Zr rfl h
 have e2:(op==CmpOp.NotIn)=false:=by cases op <;> first|rfl|exact Zr rfl h2
 cases b <;> simp[behindInMarks,e1,e2]
theorem V7(ho:OpR X (compareOp op) r)(ha:PE X a ta)(hb:PE X b tb)(hm:behindInMarks op b=false):PE X (.Compare a [op] [b] pos) (tOp r ta tb):=by
 intro pins s U H Q I h;exact wpAny_Compare1 (Qz ha hb I h fun v u s2 x y H2 I2 rx ry q=>ho pins s2 U H2 x y v u Q I2 rx ry q) hm
def On(t:TE):TT:=fun U H Q=>t U H fun x H'=>∃k,x=.bl k/\Q k H'
theorem Yn(ho:OpR X (compareOp op) r)(ha:PE X a ta)(hb:PE X b tb)(hm:behindInMarks op b=false):PT X (.Compare a [op] [b] pos) (On (tOp r ta tb)):=by
 intro pins s U H Q I h
 refine wpAny_isTrue_Compare1 (thn (ha pins s U H _ I h) fun v s1 ⟨x,H1,I1,r1,q1⟩=>thn (hb pins s1 U H1 _ I1 q1) fun u s2 ⟨y,H2,I2,r2,q2⟩=>
  thn (ho pins s2 U H2 x y v u _ I2 r1 r2 q2) fun c s3 ⟨z,H3,I3,r3,k,e,q3⟩=>?_) hm
 subst e;cases r3;exact wpAny_truthy_bool ⟨H3,I3,q3⟩
def FH(r r':R2)(ta tb tc:TE):TE:=fun U H Q=>ta U H fun x H1=>tb U H1 fun y H2=>r x y H2 fun z H3=>∃k,z=.bl k/\
 (if k=true then tc U H3 fun w' H4=>r' y w' H4 Q else Q (.bl false) H3)
theorem F0(ho:OpR X (compareOp op) r)(ho':OpR X (compareOp op') r')(ha:PE X a ta)(hb:PE X b tb)(hc:PE X c tc)(hm:lastMarks [op,op'] [b,c]=false:=by with_unfolding_all rfl):PE X (.Compare a [op,op'] [b,c] pos) (FH r r' ta tb tc):=by
 intro pins s U H Q I h
 refine Compare_chain (thn (ha pins s U H _ I h) fun v s1 ⟨x,H1,I1,r1,q1⟩=>chain_link (thn (hb pins s1 U H1 _ I1 q1) fun u s2 ⟨y,H2,I2,r2,q2⟩=>
  thn (ho pins s2 U H2 x y v u _ I2 r1 r2 q2) fun d s3 ⟨z,H3,I3,r3,k,e,q3⟩=>?_)) hm
 subst e;cases r3;refine wpAny_truthy_bool ?_
 cases k with
 |false=>exact ite_ff ⟨.bl false,H3,I3,rfl,q3⟩
 |true=>exact ite_tt (chain_last (thn (hc pins s3 U H3 _ I3 q3) fun w' s4 ⟨z',H4,I4,r4,q4⟩=>ho' pins s4 U H4 y z' u w' Q I4 r2 r4 q4))
theorem Xy(ho:OpR X (compareOp op) r)(ho':OpR X (compareOp op') r')(ha:PE X a ta)(hb:PE X b tb)(hc:PE X c tc)(hm:lastMarks [op,op'] [b,c]=false:=by with_unfolding_all rfl):PT X (.Compare a [op,op'] [b,c] pos) (On (FH r r' ta tb tc)):=by
 intro pins s U H Q I h
 refine isTrue_chain (thn (ha pins s U H _ I h) fun v s1 ⟨x,H1,I1,r1,q1⟩=>test_link (thn (hb pins s1 U H1 _ I1 q1) fun u s2 ⟨y,H2,I2,r2,q2⟩=>
  thn (ho pins s2 U H2 x y v u _ I2 r1 r2 q2) fun d s3 ⟨z,H3,I3,r3,k,e,q3⟩=>?_)) hm
 subst e;cases r3;refine wpAny_truthy_bool ?_
 cases k with
 |false=>
  obtain⟨k',e',q'⟩:=q3;cases e';exact ite_ff ⟨H3,I3,q'⟩
 |true=>
  refine ite_tt (test_last (thn (hc pins s3 U H3 _ I3 q3) fun w' s4 ⟨z',H4,I4,r4,q4⟩=>thn (ho' pins s4 U H4 y z' u w' _ I4 r2 r4 q4) fun d' s5 ⟨z2,H5,I5,r5,k2,e2,q5⟩=>?_));subst e2;cases r5;exact wpAny_truthy_bool ⟨H5,I5,q5⟩
theorem WZ:(sizeLine:Nat)<2 ^ 63:=by rw[sizeLine_eq];decide
theorem Xf:OpR X (binaryOp .Add) (fun x y H Q=>∃i j,x=.str i/\y=.str j/\i.length+j.length<=sizeLine/\Q (.str (i++ j)) H):=by
 intro pins s U H x y v u Q I rx ry h;obtain⟨i,j,rfl,rfl,hz,q⟩:=h;obtain⟨t,rfl⟩:=rx;obtain⟨t',rfl⟩:=ry;exact add_str (fun t' tk=>⟨.str (i++ j),H,I.tok _,⟨_,rfl⟩,q⟩) hz
theorem vals1(r:Vals [x] us):∃u,us=[u]/\RelV x u:=by
 cases r with
 |cons r1 r2=>cases r2;exact⟨_,rfl,r1⟩
theorem vals2(r:Vals [x,y] us):∃u w',us=[u,w']/\RelV x u/\RelV y w':=by
 cases r with
 |cons r1 r2=>
  cases r2 with
  |cons r3 r4=>cases r4;exact⟨_,_,rfl,r1,r3⟩
theorem Es(hc:X.calm=true):Jb X (.builtin "max") (fun xs H Q=>∃i j,xs=[.int i,.int j]/\Q (.int (if j > i then j else i)) H):=by
 intro pins s U H xs us Q I r h;obtain⟨i,j,rfl,q⟩:=h;obtain⟨u,w',rfl,⟨t,rfl⟩,⟨t',rfl⟩⟩:=vals2 r;refine max_two_ints (I.ok.hd hc) fun h' tk k=>⟨_,H,I.kept k,?_,q⟩
 by_cases hj:j > i
 .rw [Zp hj,Zp hj];exact⟨_,rfl⟩
 .rw [Zq hj,Zq hj];exact⟨_,rfl⟩
theorem Wi:Jb X (.type "int") (fun xs H Q=>(∃i,xs=[.int i]/\Q (.int i) H) \/ ∃k,xs=[.bl k]/\Q (.int (if k then 1 else 0)) H):=by
 intro pins s U H xs us Q I r h;rcases h with⟨i,rfl,q⟩|⟨k,rfl,q⟩
 .obtain ⟨u,rfl,t,rfl⟩:=vals1 r
  exact call_int_int ⟨.int i,H,I,⟨_,rfl⟩,q⟩
 .obtain ⟨u,rfl,r1⟩:=vals1 r
  cases r1;exact call_int_bool ⟨.int (if k then 1 else 0),H,I.tok _,⟨_,rfl⟩,q⟩
end
structure DB(h:Heap)(x dx C:Addr)(mA:Str->Option Value):Prop where
 obj:h.get? x=some (W.instObj C dx)
 ns:h.Ns1 dx mA
 ne:dx≠x
set_option tactic.hygienic true in
theorem Ee{h:Heap}(n:h.Ns1 dx mA):∃od,h.get? dx=some od/\∀name,W.lookIn name od=some (mA name):=by
 obtain⟨o,es,ep,ho,hd,hk,_,hm⟩:=n;refine⟨o,ho,fun name=>?_⟩;have e:=hm name;unfold nsFind findBy at e;rw[<-Array.find?_toList]at e;unfold W.lookIn;rw[hd];dsimp only
 split
 .rename_i y q
  rw[q]at e;exact congrArg some e
 .rename_i q
  rw[q]at e
  have a:es.toList.any (·.refKey)=false:=by
   rw[List.any_eq_false];intro y hy;obtain⟨z,t,hkey⟩:=hk y (Array.mem_toList_iff.mp hy);simp[DictEntry.refKey,hkey]
  have a':¬es.toList.any (·.refKey)=true:=by rw[a];exact Zi
  rw[Zq a'];exact congrArg some e
theorem DB.look(I:DB h x dx C mA):∃od,W.InstAt h x (W.instObj C dx) C (some od)/\∀name,W.lookIn name od=some (mA name):=
 let⟨od,ho,hl⟩:=Ee I.ns
 ⟨od,⟨I.obj,rfl,rfl,ho⟩,hl⟩
section
variable{K:W.Frag}
theorem OM(X:K.In s.heap)(I:DB s.heap x dx C mA)(hg:W.plainGet K C name=true)(hh:W.hasDictIn K C=true)(ha:W.findIn K (.ref C) name=some none)(hv:mA name=some v)(hv':W.handedIn v=true)(h:Q v {s with toks:=s.toks+1}):
  wpAny (model prog w) A (getAttr (.ref x) name expr) Q E s:=by
 obtain⟨od,J,hl⟩:=I.look;exact W.get_value X J (W.plainGet_of hg).1 (W.findObj_own hh ha rfl (by rw[hl,hv])) hv' h
theorem KN(X:K.In s.heap)(I:DB s.heap x dx C mA)(hg:W.plainGet K C name=true)(hf:W.findIn K (.ref C) name=some (some (.ref f)))(ht:W.isFn K (.ref f)=true)(hv:mA name=none)(h:Q (.ref f,[.ref x]) s):
  wpAny (model prog w) A (getMethod (.ref x) name pl) Q E s:=by
 obtain⟨od,J,hl⟩:=I.look;exact W.method_fn X J (W.plainGet_of hg).1 (W.plainGet_of hg).2 hf (beq_iff_eq.mp ht) (by show(W.lookIn name od).map (·.isSome)=some false;rw[hl,hv];rfl) h
theorem LD(X:K.In s.heap)(I:DB s.heap x dx C mA)(hs:W.findIn K (.ref C) "__setattr__"=some (some (.builtin "object.__setattr__")))(hp:W.plainOver K C=true)(ht:W.takerIn K C name=some none)(hh:W.hasDictIn K C=true)(hw:PySem.Within mA ns)(hsz:ns.length<=sizeLine)(h:∀h',DB h' x dx C (fun y=>if y=name then some v else mA y)->Heap.SameBut dx s.heap h'->Q () {s with heap:=h',toks:=s.toks+2}):
  wpAny (model prog w) A (setAttr (.ref x) name v) Q E s:=by
 obtain⟨od,J,hl⟩:=I.look;refine W.set_plain X J hs (W.osa_open (s:={s with toks:=s.toks+1}) (r:=none) X J hp ht fun b=>?_);obtain⟨cd,hc,hd'⟩:=W.any_some hh;have hx:s.heap.get? x=some ⟨.ref C,some dx,.plain,#[]⟩:=I.obj;refine Zl (Zm (Zl (Zl (wpAny_loadPart hx (Zl (W.Looks.here (s:={s with toks:=s.toks+1}) (W.looks_clsIn X hc) ?_))))));rw[hd'];refine Zm (a:=some dx) (Zl (Zm (Zl ?_)));refine wpAny_nsSet1 (s:={s with toks:=s.toks+1}) I.ns fun h' hn2 hs2=>?_;obtain⟨oD,esD,epD,hoD,hdD,hcD⟩:=hn2.count (PySem.Within.cons name v hw);refine Zl (wpAny_lookBehind hoD (by rw[hdD];exact pastItsLine_dict (Zb hcD (by rw[Zf];omega))) ?_);exact Zm (h _ ⟨(hs2.2 _ (Zs I.ne)).trans I.obj,hn2,I.ne⟩ hs2)
theorem Io(X:K.In s.heap)(hm:W.makesIn K C=true)(hi:W.findIn K (.ref C) "__init__"=some (some (.ref f)))(hf:W.typeIn K (.ref f)=some (.type "function"))(h:codeAny (model prog w) (A.under (.builtin "type.__call__" ⟨.ref C::vs,kw⟩)) (.call (.ref f) ⟨.ref (s.heap.objs.size+1)::vs,kw⟩) (W.InitBack (s.heap.objs.size+1) R)
   {s with heap:=(s.heap.push W.emptyDict).push (W.instObj C s.heap.objs.size)}):
  codeAny (model prog w) A (.call (.ref C) ⟨vs,kw⟩) R s:=by
 obtain⟨hh,g,d,t,os⟩:=s;exact W.make_core (W.makes_of X hm) (W.looks_findIn X hi) (fun self=>W.bind_fn X self hf) (.inl rfl) h
end
def VX(f:Str)(v:V):List (Str×V)->List (Str×V)
 |[]=>[(f,v)]
 |(g,x)::r=>if g=f then(g,v)::r else(g,x)::VX f v r
theorem Wt(f g:Str)(v:V):∀fs:List (Str×V),(VX f v fs).lookup g=if g=f then some v else fs.lookup g
 |[]=>by
  show List.lookup g [(f,v)]=_
  by_cases h:g=f
  .have hb:(g==f)=true:=beq_iff_eq.mpr h
   simp only[List.lookup,hb,Zp h]
  .have hb:(g==f)=false:=beq_eq_false_iff_ne.mpr h
   simp only[List.lookup,hb,Zq h]
 |(k,x)::r=>by
  have ih:=Wt f g v r;rw[show VX f v ((k,x)::r)=(if k=f then(k,v)::r else(k,x)::VX f v r)from rfl]
  by_cases hk:k=f
  .rw [Zp hk]
   by_cases h:g=k
   .have hb:(g==k)=true:=beq_iff_eq.mpr h
    simp only[List.lookup,hb,Zp (h.trans hk)]
   .have hb:(g==k)=false:=beq_eq_false_iff_ne.mpr h
    simp only[List.lookup,hb,Zq (fun e:g=f=>h (e.trans hk.symm))]
  .rw [Zq hk]
   by_cases h:g=k
   .have hb:(g==k)=true:=beq_iff_eq.mpr h
    simp only[List.lookup,hb,Zq (fun e:g=f=>hk (h.symm.trans e))]
   .have hb:(g==k)=false:=beq_eq_false_iff_ne.mpr h
    simp only[List.lookup,hb];exact ih
theorem Wb(f:Str)(v:V):∀fs:List (Str×V),f∈(VX f v fs).map (·.1)/\∀g,g∈fs.map (·.1)->g∈(VX f v fs).map (·.1)
 |[]=>⟨by simp[VX],fun g h=>by simp at h⟩
 |(k,x)::r=>by
  obtain⟨i1,i2⟩:=Wb f v r;rw[show VX f v ((k,x)::r)=(if k=f then(k,v)::r else(k,x)::VX f v r)from rfl]
  by_cases hk:k=f
  .rw [Zp hk]
   subst hk;exact⟨by simp,fun g h=>by simpa using h⟩
  .rw [Zq hk]
   refine⟨?_,fun g h=>?_⟩
   .rw [ZV]
    exact ZM _ i1
   .rw [ZV]at h |-
    rcases Zd.mp h with e|e
    .exact Zd.mpr (.inl e)
    .exact ZM _ (i2 g e)
theorem Wu(f:Str)(v:V):∀fs:List (Str×V),(VX f v fs).length<=fs.length+1
 |[]=>by simp[VX]
 |(k,x)::r=>by
  have ih:=Wu f v r;rw[show VX f v ((k,x)::r)=(if k=f then(k,v)::r else(k,x)::VX f v r)from rfl]
  by_cases hk:k=f
  .rw [Zp hk,Zf,Zf];omega
  .rw [Zq hk,Zf,Zf];omega
theorem Uq.some_of(r:Uq (some v) o):∃u,o=some u/\RelV v u:=by
 cases o with
 |none=>exact(show False from r).elim
 |some u=>exact⟨u,rfl,r⟩
theorem Uq.none_of(r:Uq none o):o=none:=by
 cases o with
 |none=>rfl
 |some u=>exact(show False from r).elim
theorem Ej(r:RelV v u):W.handedIn u=true:=by
 cases v with
 |non=>cases(show u=Value.none from r);rfl
 |bl b=>cases(show u=Value.bool b from r);rfl
 |int i=>obtain⟨t,e⟩:=(show ∃t,u=Value.int i t from r);cases e;rfl
 |str x=>obtain⟨t,e⟩:=(show ∃t,u=Value.str x t from r);cases e;rfl
 |byt b=>obtain⟨t,e⟩:=(show ∃t,u=Value.bytes b t from r);cases e;rfl
 |flt b=>obtain⟨t,e⟩:=(show ∃t,u=Value.float b t from r);cases e;rfl
 |ref a=>cases(show u=Value.ref a from r);rfl
 |ty n=>cases(show u=Value.type n from r);rfl
section
theorem Gc(hok:HOk P w H h)(e:H a=some (.ins C dx fs)):∃mA,DB h a dx C mA/\(∀f,Uq (fs.lookup f) (mA f))/\PySem.Within mA (fs.map (·.1))/\fs.length<=1000/\H dx=some (.own a):=by
 obtain⟨d,z,ne,ob,mA,n,r,q⟩:=(show VT P w H h a (.ins C dx fs)from hok a _ e);exact⟨mA,⟨ob,n,ne⟩,r,q,z,d⟩
end
structure Cls(K:W.Frag)(C:Addr):Prop where
 pg:W.plainGet K C Str.empty=true
 hd:W.hasDictIn K C=true
 po:W.plainOver K C=true
 sa:W.findIn K (.ref C) "__setattr__"=some (some (.builtin "object.__setattr__"))
theorem Cls.get{K:W.Frag}(c:Cls K C)(f:Str):W.plainGet K C f=true:=c.pg
def VH(K:W.Frag)(C:Addr)(f:Str):Prop:=W.findIn K (.ref C) f=some none
theorem VH.taker{K:W.Frag}(n:VH K C f):W.takerIn K C f=some none:=by
 unfold W.takerIn;rw[show W.findIn K (.ref C) f=some none from n]
 rfl
structure VO(K:W.Frag)(C:Addr)(m:Str)(f:Addr):Prop where
 at_:W.findIn K (.ref C) m=some (some (.ref f))
 fn:W.isFn K (.ref f)=true
 kp:W.keepIn K (.ref f)=true
section
theorem Tb(I:Inv X pins U H s)(e:H a=some (.ins C dx fs))(c:Cls X.K C)(n:VH X.K C f)(l:fs.lookup f=some v)(h:∀u s',Inv X pins U H s'->RelV v u->Q u s'):wpAny (model X.prog X.w) A (getAttr (.ref a) f b) Q E s:=by
 obtain⟨mA,O,r,_,_,_⟩:=Gc I.hok e;obtain⟨u,hu,ru⟩:=Uq.some_of (v:=v) (o:=mA f) (by rw[<-l];exact r f);exact OM I.kIn O (c.get f) c.hd n hu (Ej ru) (h u _ (I.tok _) ru)
theorem Ta(I:Inv X pins U H s)(e:H a=some (.ins C dx fs))(c:Cls X.K C)(k:VO X.K C m g)(l:fs.lookup m=none)(h:Q (.ref g,[.ref a]) s):wpAny (model X.prog X.w) A (getMethod (.ref a) m pl) Q E s:=by
 obtain⟨mA,O,r,_,_,_⟩:=Gc I.hok e;have hn:mA m=none:=Uq.none_of (by rw[<-l];exact r m);exact KN I.kIn O (c.get m) k.at_ k.fn hn h
theorem Xb(I:Inv X pins U H s)(e:H a=some (.ins C dx fs))(c:Cls X.K C)(n:VH X.K C f)(hl:fs.length<1000)(ry:RelV y u)(h:∀s',Inv X pins U (upd H a (.ins C dx (VX f y fs))) s'->Q () s'):wpAny (model X.prog X.w) A (setAttr (.ref a) f u) Q E s:=by
 obtain⟨mA,O,r,wi,_,ho⟩:=Gc I.hok e;have hz:(fs.map (·.1)).length<=sizeLine:=by rw[ZA,sizeLine_eq];omega
 refine LD I.kIn O c.sa c.po n.taker c.hd wi hz fun h' O' sb=>h _ ?_;have hd:∃o,h'.get? dx=some o:=let⟨o,_,_,e',_⟩:=O'.ns;⟨o,e'⟩
 refine I.write (x:=a) (e:=dx) (by rw[e];exact True.intro) (.inr ho) (fun b q hb z=>(sb.2 b hb).trans z) hd ?_;refine⟨by rw[Yg O.ne];exact ho,?_,O.ne,O'.obj,_,O'.ns,fun g=>?_,fun g hg=>?_⟩
 .have:=Wu f y fs;omega
 .show Uq ((VX f y fs).lookup g) (if g=f then some u else mA g)
  rw[Wt]
  by_cases q:g=f
  .rw [Zp q,Zp q];exact ry
  .rw [Zq q,Zq q];exact r g
 .by_cases q:g=f
  .rw [q];exact(Wb f y fs).1
  .refine (Wb f y fs).2 g (wi g fun z=>hg ?_)
   show(if g=f then some u else mA g)=none;rw[Zq q];exact z
theorem Inv.made(I:Inv X pins U H s):Inv X pins U (upd (upd H s.heap.objs.size (.own (s.heap.objs.size+1))) (s.heap.objs.size+1) (.ins C s.heap.objs.size []))
  {s with heap:=(s.heap.push W.emptyDict).push (W.instObj C s.heap.objs.size)}:=by
 have e1:(s.heap.push W.emptyDict).get? s.heap.objs.size=some W.emptyDict:=ZY s.heap rfl
 have e2:((s.heap.push W.emptyDict).push (W.instObj C s.heap.objs.size)).get? (s.heap.objs.size+1)=some (W.instObj C s.heap.objs.size):=by
  have:=ZY (s.heap.push W.emptyDict) (o:=W.instObj C s.heap.objs.size) rfl
  rwa [Heap.size_push]at this
 have e3:(s.heap.push W.emptyDict).Ns s.heap.objs.size (fun _=>none):=⟨W.emptyDict,#[],_,e1,rfl,(fun e he=>Zr he (by simp)),fun _=>rfl⟩;have I1:=I.laid (a:=s.heap.objs.size) (o:=.own (s.heap.objs.size+1)) (h':=s.heap.push W.emptyDict) (t':=s.toks) (fun b u q=>ZE _ q) (ZG _) ⟨_,e1⟩;refine I1.laid (a:=s.heap.objs.size+1) (o:=.ins C s.heap.objs.size []) (t':=s.toks) (fun b u q=>ZE _ q) (Nat.le_of_eq (Heap.size_push _ _)) ?_;have ne:s.heap.objs.size≠s.heap.objs.size+1:=Ze (Nat.lt_succ_self _);refine⟨by rw[Yg ne,Ye],Zc _,ne,e2,fun _=>none,(Heap.Ns1.of_empty e3).at fun o q=>ZE _ q,fun _=>True.intro,fun y hy=>Zr rfl hy⟩
theorem Oc(hb:attributeBase e f env (eval e env)=eval e env)(h:wpAny (model prog w) A (eval e env) (fun o s₁=>wpAny (model prog w) A (getAttr o f true) Q E s₁) E s):wpAny (model prog w) A (eval (.Attribute e f pos) env) Q E s:=
 Attribute_any_ h (by rw[arm_eval_Attribute,hb])
end
def Pb(K:W.Frag)(ta:TE)(f:Str):TE:=fun U H Q=>ta U H fun x H1=>Jc x fun a=>∃C dx fs v,H1 a=some (.ins C dx fs)/\Cls K C/\VH K C f/\fs.lookup f=some v/\Q v H1
def Ce(K:W.Frag)(ta tv:TE)(f:Str):TS:=fun D U H=>tv U H fun y H1=>ta U H1 fun x H2=>∃a C dx fs,x=.ref a/\H2 a=some (.ins C dx fs)/\Cls K C/\VH K C f/\fs.length<1000/\
 D.nx U (upd H2 a (.ins C dx (VX f y fs)))
def A4(X:Cx)(op:Operator)(rd:V->V->Hp->VK->Prop):Prop:=
 ∀(pins:List (Addr×Obj))(s:Shared)(U:St)(H:Hp)(x y:V)(u v:Value)(Q:VK),Inv X pins U H s->RelV x u->RelV y v->rd x y H Q->wpAny (model X.prog X.w) X.A (inplaceOp op u v) (EP X pins U Q) X.xe s
def LS(K:W.Frag)(ta tv:TE)(rd:V->V->Hp->VK->Prop)(f:Str):TS:=fun D U H=>ta U H fun x H1=>∃a C dx fs v,x=.ref a/\H1 a=some (.ins C dx fs)/\Cls K C/\VH K C f/\fs.lookup f=some v/\
 tv U H1 fun y H2=>rd v y H2 fun z H3=>∃dx' fs',H3 a=some (.ins C dx' fs')/\fs'.length<1000/\D.nx U (upd H3 a (.ins C dx' (VX f z fs')))
section
theorem Yz(he:PE X e ta)(hb:attributeBase e f X.env (eval e X.env)=eval e X.env):PE X (.Attribute e f pos) (Pb X.K ta f):=by
 intro pins s U H Q I h;refine Oc hb (thn (he pins s U H _ I h) fun u s1 ⟨x,H1,I1,rx,q⟩=>?_);replace q:=Jc.old q;obtain⟨a,ex,C,dx,fs,v,ea,c,n,l,q⟩:=q;subst ex;obtain rfl:u=Value.ref a:=rx;exact Tb I1 ea c n l fun u' s2 I2 ru=>⟨v,H1,I2,ru,q⟩
theorem VY(ha:PE X o ta)(hv:PE X value tv)(hs:swapsWith value (some (.Attribute o f pos')) pos.line X.env=pure false):PS X (.Assign [.Attribute o f pos'] value pos) (Ce X.K ta tv f):=by
 intro pins s U H D I h;refine plainObj_wpAny_Assign_Attribute (thn (hv pins s U H _ I h) fun u s1 ⟨y,H1,I1,ry,q⟩=>thn (ha pins s1 U H1 _ I1 q) fun ov s2 ⟨x,H2,I2,rx,a,C,dx,fs,ex,ea,c,n,l,q2⟩=>?_) hs;subst ex;obtain rfl:ov=Value.ref a:=rx;exact Xb I2 ea c n l ry fun s3 I3=>⟨U,_,I3,q2⟩
theorem ES(ha:PE X o ta)(hv:PE X value tv)(hop:A4 X op rd):PS X (.AugAssign (.Attribute o f tpos) op value pos) (LS X.K ta tv rd f):=by
 intro pins s U H D I h;refine wpAny_AugAssign_AttributeAny (thn (ha pins s U H _ I h) fun ov s1 ⟨x,H1,I1,rx,a,C,dx,fs,v,ex,ea,c,n,l,q⟩=>?_);subst ex;obtain rfl:ov=Value.ref a:=rx;refine Tb I1 ea c n l fun u s2 I2 ru=>thn (hv pins s2 U H1 _ I2 q) fun w3 s3 ⟨y,H2,I3,ry,q3⟩=>thn (hop pins s3 U H2 v y u w3 _ I3 ru ry q3) fun w4 s4 ⟨z,H3,I4,rz,dx',fs',ea',l',q4⟩=>?_;exact Xb I4 ea' c n l' rz fun s5 I5=>⟨U,_,I5,q4⟩
def Cr:V->V->Hp->VK->Prop:=fun x y H Q=>∃i j,x=.int i/\y=.int j/\Q (.int (i+j)) H
theorem Qm:A4 X .Add Cr:=by
 rintro pins s U H x y u v Q I rx ry ⟨i,j,rfl,rfl,q⟩;obtain⟨t,rfl⟩:=(show ∃t,u=Value.int i t from rx);obtain⟨t',rfl⟩:=(show ∃t',v=Value.int j t' from ry);exact PyProof.Rows.iadd_int ⟨.int (i+j),H,I.tok _,⟨_,rfl⟩,q⟩
end
section
variable{H:Hp}
inductive Xp(K:W.Frag)(H:Hp):V->Value->Prop where
 |non:Xp K H .non (.type "NoneType")
 |bl (x:Bool):Xp K H (.bl x) (.type "bool")
 |int (i:Int):Xp K H (.int i) (.type "int")
 |str (x:Str):Xp K H (.str x) (.type "str")
 |flt (x:UInt64):Xp K H (.flt x) (.type "float")
 |lst {a:Addr}{xs:List V}(e:H a=some (.lst xs)):Xp K H (.ref a) (.type "list")
 |frz {a:Addr}{o:Obj}{xs:List V}(e:H a=some (.frz o (.lst xs))):Xp K H (.ref a) (.type "list")
 |tup {a:Addr}{xs:List V}(e:H a=some (.tup xs)):Xp K H (.ref a) (.type "tuple")
 |dK {a:Addr}{kvs:List (Key×V)}(e:H a=some (.dK kvs)):Xp K H (.ref a) (.type "dict")
 |dT {a:Addr}{kvs:List (List Key×V)}(e:H a=some (.dT kvs)):Xp K H (.ref a) (.type "dict")
 |ins {a C dx:Addr}{fs:List (Str×V)}(e:H a=some (.ins C dx fs)) (cl:Cls K C) (ha:W.findIn K (.ref C) "__class__"=some (some (.builtin "object.__class__")))
   (hn:W.specialIn K (.builtin "object.__class__") "__get__"=some (some (.builtin "getset_descriptor.__get__"))) (htk:W.takesIn K (.builtin "object.__class__")=some true)
   (hm:W.mroIn K C (.type "object")=some true):Xp K H (.ref a) (.ref C)
theorem Eg(I:Inv X pins U H s)(rx:RelV x u)(ty:Xp X.K H x t)(e:W.kitOne X.K t c=some b)(h:∀tk,Q (.bool b) {s with toks:=tk}):
  wpAny (model X.prog X.w) A (call (.builtin "isinstance") [u,c]) Q E s:=by
 cases ty with
 |non=>cases(show u=Value.none from rx);exact W.kia_one W.kitx_none I.kIn True.intro e (fun z=>nomatch z) h
 |bl y=>cases(show u=Value.bool y from rx);exact W.kia_one W.kitx_bool I.kIn True.intro e (fun z=>nomatch z) h
 |int i=>obtain⟨t,q⟩:=(show ∃t,u=Value.int i t from rx);cases q;exact W.kia_one W.kitx_int I.kIn True.intro e (fun z=>nomatch z) h
 |str y=>obtain⟨t,q⟩:=(show ∃t,u=Value.str y t from rx);cases q;exact W.kia_one W.kitx_str I.kIn True.intro e (fun z=>nomatch z) h
 |flt y=>obtain⟨t,q⟩:=(show ∃t,u=Value.float y t from rx);cases q;exact W.kia_one W.kitx_float I.kIn True.intro e (fun z=>nomatch z) h
 | @lst a xs ea=>
  cases(show u=Value.ref a from rx);obtain⟨_,_,n,_,h1⟩:=(show VT X.prog X.w H s.heap a (.lst xs)from I.hok a _ ea);exact W.kia_one W.kitx_list I.kIn ⟨_,h1,rfl⟩ e (fun z=>nomatch z) h
 | @frz a ob xs ea=>
  cases(show u=Value.ref a from rx);obtain⟨_,_,_,n,_,h1⟩:=(show VT X.prog X.w H s.heap a (.frz ob (.lst xs))from I.hok a _ ea);exact W.kia_one W.kitx_list I.kIn ⟨_,h1,rfl⟩ e (fun z=>nomatch z) h
 | @tup a xs ea=>
  cases(show u=Value.ref a from rx);obtain⟨_,_,_,p⟩:=(show VT X.prog X.w H s.heap a (.tup xs)from I.hok a _ ea);obtain⟨o,h1,_,h2,_⟩:=p;exact W.kia_one W.kitx_tuple I.kIn ⟨o,h1,h2⟩ e (fun z=>nomatch z) h
 | @dK a kvs ea=>
  cases(show u=Value.ref a from rx);obtain⟨_,_,vs,_,p⟩:=(show VT X.prog X.w H s.heap a (.dK kvs)from I.hok a _ ea);obtain⟨o,es,ep,h1,h2,_⟩:=p;exact W.kia_one W.kitx_dict I.kIn ⟨o,h1,h2.1⟩ e (fun z=>nomatch z) h
 | @dT a kvs ea=>
  cases(show u=Value.ref a from rx);obtain⟨_,_,xs,_,o,es,ep,h1,h2,_⟩:=(show VT X.prog X.w H s.heap a (.dT kvs)from I.hok a _ ea);exact W.kia_one W.kitx_dict I.kIn ⟨o,h1,h2.1⟩ e (fun z=>nomatch z) h
 | @ins a C dx fs ea cl ha hn htk hm=>
  cases(show u=Value.ref a from rx);obtain⟨mA,O,_⟩:=Gc I.hok ea;obtain⟨od,J,_⟩:=O.look;exact W.kia_one (W.kitx_own (cl.get _) cl.hd ha hn htk hm) I.kIn J e (fun z=>nomatch z) h
end
structure Vs(k:Nat)(A:Around):Prop where
 hd:A.handled=none
 dp:A.depth+3*k+5<recursionLimit
 un:A.units+16*k+200<cLine
theorem Vs.mono(r:Vs k A)(h:j<=k):Vs j A:=⟨r.hd,by have:=r.dp;omega,by have:=r.un;omega⟩
theorem Vs.deeper(r:Vs (k+1) A)(env:Env):Vs k (A.deeper env):=
 ⟨r.hd,by have:=r.dp;show A.depth+1+3*k+5<_;omega,by have:=r.un;show A.units+3+16*k+200<_;omega⟩
theorem Vs.in1(r:Vs (k+1) A):Vs k A.in1:=
 ⟨r.hd,by have:=r.dp;show A.depth+3*k+5<_;omega,by have:=r.un;show A.units+1+16*k+200<_;omega⟩
theorem Br{A:Around}:(A.under (.builtin "type.__call__" ⟨.ref C::us,kw⟩)).depth=A.depth+1:=by
 first|rfl|simp[Around.under,Code.weight,Code.isCreation,Code.isGuard,Code.isCaller,Code.frames,Code.isFrame,guardIds]
theorem Bq{A:Around}:(A.under (.builtin "type.__call__" ⟨.ref C::us,kw⟩)).units=A.units+1:=by
 first|rfl|simp[Around.under,Code.cUnits,Code.frames,Code.isFrame]
theorem Vs.make(r:Vs (k+1) A)(C:Addr)(us:List Value)(kw:List (Str×Value)):Vs k (A.under (.builtin "type.__call__" ⟨.ref C::us,kw⟩)):=
 ⟨r.hd,by have:=r.dp;rw[Br];omega,by have:=r.un;rw[Bq];omega⟩
theorem Vs.depth(r:Vs k A):A.depth<recursionLimit:=by have:=r.dp;omega
theorem Vs.units(r:Vs k A):A.units+64<cLine:=by have:=r.un;omega
theorem Vs.units0(r:Vs k A):A.units<cLine:=by have:=r.un;omega
def Rx:TA:=fun _ H Q=>Q [] H
def JT(ta:TE)(tr:TA):TA:=fun U H Q=>ta U H fun x H1=>tr U H1 fun xs H2=>Q (x::xs) H2
section
variable{t:TA}
theorem Vj:PA X [] Rx:=fun _ _ _ _ H Q I h=>Calls.spliced_nil ⟨[],H,I,.nil,h⟩
theorem V2(ha:PE X e te)(hr:PA X es t)(hs:starEach (e::es) X.env=(false,eval e X.env)::starEach es X.env:=by rfl):PA X (e::es) (JT te t):=by
 intro pos pins s U H Q I h;rw[hs];show wpAny _ _ (spliced ((false,eval e X.env)::backTo pos (starEach es X.env))) _ _ s;refine Calls.spliced_cons (thn (ha pins s U H _ I h) fun u s1 ⟨x,H1,I1,r1,q1⟩=>?_);exact thn (hr pos pins s1 U H1 _ I1 q1) fun us s2 ⟨xs,H2,I2,r2,q2⟩=>⟨x::xs,H2,I2,.cons r1 r2,q2⟩
theorem pa1(a0:PE X e0 t0)(h0:starEach [e0] X.env=(false,eval e0 X.env)::starEach [] X.env:=by rfl):PA X [e0] (JT t0 (Rx)):=V2 a0 (Vj) h0
theorem pa2(a0:PE X e0 t0)(a1:PE X e1 t1)(h0:starEach [e0,e1] X.env=(false,eval e0 X.env)::starEach [e1] X.env:=by rfl)(h1:starEach [e1] X.env=(false,eval e1 X.env)::starEach [] X.env:=by rfl):PA X [e0,e1] (JT t0 (JT t1 (Rx))):=V2 a0 (V2 a1 (Vj) h1) h0
theorem pa3(a0:PE X e0 t0)(a1:PE X e1 t1)(a2:PE X e2 t2)(h0:starEach [e0,e1,e2] X.env=(false,eval e0 X.env)::starEach [e1,e2] X.env:=by rfl)(h1:starEach [e1,e2] X.env=(false,eval e1 X.env)::starEach [e2] X.env:=by rfl)(h2:starEach [e2] X.env=(false,eval e2 X.env)::starEach [] X.env:=by rfl):PA X [e0,e1,e2] (JT t0 (JT t1 (JT t2 (Rx)))):=V2 a0 (V2 a1 (V2 a2 (Vj) h2) h1) h0
theorem pa4(a0:PE X e0 t0)(a1:PE X e1 t1)(a2:PE X e2 t2)(a3:PE X e3 t3)(h0:starEach [e0,e1,e2,e3] X.env=(false,eval e0 X.env)::starEach [e1,e2,e3] X.env:=by rfl)(h1:starEach [e1,e2,e3] X.env=(false,eval e1 X.env)::starEach [e2,e3] X.env:=by rfl)(h2:starEach [e2,e3] X.env=(false,eval e2 X.env)::starEach [e3] X.env:=by rfl)(h3:starEach [e3] X.env=(false,eval e3 X.env)::starEach [] X.env:=by rfl):PA X [e0,e1,e2,e3] (JT t0 (JT t1 (JT t2 (JT t3 (Rx))))):=V2 a0 (V2 a1 (V2 a2 (V2 a3 (Vj) h3) h2) h1) h0
theorem pa5(a0:PE X e0 t0)(a1:PE X e1 t1)(a2:PE X e2 t2)(a3:PE X e3 t3)(a4:PE X e4 t4)(h0:starEach [e0,e1,e2,e3,e4] X.env=(false,eval e0 X.env)::starEach [e1,e2,e3,e4] X.env:=by rfl)(h1:starEach [e1,e2,e3,e4] X.env=(false,eval e1 X.env)::starEach [e2,e3,e4] X.env:=by rfl)(h2:starEach [e2,e3,e4] X.env=(false,eval e2 X.env)::starEach [e3,e4] X.env:=by rfl)(h3:starEach [e3,e4] X.env=(false,eval e3 X.env)::starEach [e4] X.env:=by rfl)(h4:starEach [e4] X.env=(false,eval e4 X.env)::starEach [] X.env:=by rfl):PA X [e0,e1,e2,e3,e4] (JT t0 (JT t1 (JT t2 (JT t3 (JT t4 (Rx)))))):=V2 a0 (V2 a1 (V2 a2 (V2 a3 (V2 a4 (Vj) h4) h3) h2) h1) h0
def A7(t:TA):TE:=fun U H Q=>t U H fun xs H1=>xs.length<=sizeLine/\∀p,H1 p=none->Q (.ref p) (upd H1 p (.tup xs))
def CF(t:TA):TE:=fun U H Q=>t U H fun xs H1=>xs.length<=sizeLine/\∀p,H1 p=none->Q (.ref p) (upd H1 p (.lst xs))
theorem Yt(h:PA X es t):PE X (.Tuple es x1 pos) (A7 t):=by
 intro pins s U H Q I hq;refine wpAny_Tuple_spliced (thn (h pos pins s U H _ I hq) fun us s1 ⟨xs,H1,I1,r,z,q⟩=>⟨by rw[<-r.length];exact z,?_⟩);have hf:H1 s1.heap.objs.size=none:=I1.hok.fresh (ZG _);refine⟨.ref s1.heap.objs.size,upd H1 s1.heap.objs.size (.tup xs),I1.laid (t':=s1.toks) (fun b u e=>ZE _ e) (ZG _) ?_,rfl,q _ hf⟩;exact⟨z,us,r,⟨_,ZY _ rfl,rfl,rfl,_,rfl⟩⟩
theorem Vg(h:PA X es t):PE X (.List es pos) (CF t):=by
 intro pins s U H Q I hq;refine wpAny_List_spliced (thn (h pos pins s U H _ I hq) fun us s1 ⟨xs,H1,I1,r,z,q⟩=>⟨by rw[<-r.length];exact z,?_⟩);have hf:H1 s1.heap.objs.size=none:=I1.hok.fresh (ZG _);refine⟨.ref s1.heap.objs.size,upd H1 s1.heap.objs.size (.lst xs),I1.laid (t':=s1.toks) (fun b u e=>ZE _ e) (ZG _) ?_,rfl,q _ hf⟩;exact⟨z,us,0,r,ZY _ rfl⟩
end
abbrev Sp:=List V->Hp->VK->XK->Prop
abbrev CXT:=List Env->Hp->Shared->XK->Value->Shared->Prop
structure DF(P:Program)(w:World)(K:W.Frag)(mg:Str->Option Value)(base:Heap)(A:Around)(outer:List Env)(s:Shared)(H:Hp):Prop where
 frames:A.frames=some outer
 mod:Mod K mg base
 bs:∀b o,base.get? b=some o->s.heap.get? b=some o/\H b=none
 bsz:base.objs.size<=s.heap.objs.size
 funs:s.heap.FunFrames base outer
 frf:∀b∈frs outer,H b=none
 hok:HOk P w H s.heap
 bare:AllBare s.gens
def CE(outer:List Env)(P:Program)(w:World)(H:Hp)(s:Shared)(Q:VK)(u:Value)(s':Shared):Prop:=
 ∃v H',s'.os=s.os/\AllBare s'.gens/\Un (frs outer) [] H H' s.heap s'.heap/\HOk P w H' s'.heap/\RelV v u/\Q v H'
def CR(CX:CXT)(outer:List Env)(P:Program)(w:World)(H:Hp)(s:Shared)(Q:VK)(E:XK)(r:Result)(s':Shared):Prop:=
 match r with
 |.ok (.ret u)=>CE outer P w H s Q u s'
 |.ok _=>False
 |.error e=>CX outer H s E e s'
structure Yf(P:Program)(w:World)(K:W.Frag)(mg:Str->Option Value)(base:Heap)(CX:CXT)(k:Nat)(f:Addr)(fd:FuncData)(ps:List Str)(sp:Sp):Prop where
 len:∀vs H Q E,sp vs H Q E->vs.length=ps.length
 run:∀(A:Around)(outer:List Env)(s:Shared)(H:Hp)(args:Args)(us:List Value)(vs:List V)(Q:VK)(E:XK),Vs k A->DF P w K mg base A outer s H->BindsTo s fd args (ps.zip us)->Vals vs us->sp vs H Q E->
  codeAny (model P w) A (.call (.ref f) args) (CR CX outer P w H s Q E) s
theorem Yf.mono{K:W.Frag}(F:Yf P w K mg base CX j f fd ps sp)(h:j<=k):
  Yf P w K mg base CX k f fd ps sp:=⟨F.len,fun A outer s H args us vs Q E hr=>F.run A outer s H args us vs Q E (hr.mono h)⟩
theorem DF.make{K:W.Frag}(e:DF P w K mg base A outer s H)(C:Addr)(us:List Value)(kw:List (Str×Value)):
  DF P w K mg base (A.under (.builtin "type.__call__" ⟨.ref C::us,kw⟩)) outer s H:=⟨by first|exact e.frames|(simpa[Around.under,Code.envs,Code.isFrame,pushEnvs]using e.frames),e.mod,e.bs,e.bsz,e.funs,e.frf,e.hok,e.bare⟩
section
theorem Inv.env0(I:Inv X pins U H s):DF X.prog X.w X.K X.mg X.base X.A X.stack s H:=
 ⟨I.ok.frames,I.ok.mod,I.bs,Zb I.ok.bsz I.sz,I.stack,I.stkFree,I.hok,I.bare⟩
theorem Inv.after(I:Inv X pins U H s)(h:CE X.stack X.prog X.w H s Q u s'):EP X pins U Q u s':=by
 obtain⟨v,H',os,bare,un,hok,r,q⟩:=h;obtain⟨hh,g,d,t,os'⟩:=s';obtain rfl:os'=s.os:=os;exact⟨v,H',I.call (h':=hh) (g':=g) (d':=d) (t':=t) (ch:=[]) un hok bare (fun b z=>Zr z (by simp)),r,q⟩
end
def M8(sp:Sp)(dvs:List V)(E:XK)(t:TA):TE:=fun U H Q=>t U H fun vs H1=>sp (vs++ dvs) H1 Q E
def FF(C:Addr)(m:Str)(sp:Sp)(dvs:List V)(E:XK)(ta:TE)(t:TA):TE:=fun U H Q=>ta U H fun x H1=>Jc x fun a=>∃dx fs,H1 a=some (.ins C dx fs)/\fs.lookup m=none/\
 t U H1 fun vs H2=>sp (x::(vs++ dvs)) H2 Q E
def SO(C:Addr)(sp:Sp)(dvs:List V)(E:XK)(t:TA):TE:=fun U H Q=>t U H fun vs H1=>∀x dx,H1 x=none->H1 dx=none->dx≠x->
 sp (.ref x::(vs++ dvs)) (upd (upd H1 dx (.own x)) x (.ins C dx [])) (fun v H2=>v=.non/\Q (.ref x) H2) E
def Binds(K:W.Frag)(fd:FuncData)(ps:List Str)(ds:List Value):Prop:=
 ∀(s:Shared)(us:List Value),K.In s.heap->(us++ ds).length=ps.length->BindsTo s fd ⟨us,[]⟩ (ps.zip (us++ ds))
theorem Binds.all{K:W.Frag}(h:∀us:List Value,us.length=ps.length->bindArgs fd ⟨us,[]⟩=pure (ps.zip us)):Binds K fd ps []:=fun s us _ hl=>by
 rw[List.append_nil]at hl |-;exact .of_eq (h us hl)
def Ul(CX:CXT)(X:Cx)(E:XK):Prop:=∀(pins:List (Addr×Obj))(U:St)(H:Hp)(s:Shared)(e:Value)(s':Shared),Inv X pins U H s->CX X.stack H s E e s'->X.xe e s'
section
variable{f C:Addr}
theorem Gz(F:Yf X.prog X.w X.K X.mg X.base CX k f fd ps sp)(hr:Vs k X.A)(hb:Binds X.K fd ps ds)(hd:Vals dvs ds)(hx:Ul CX X E)(I:Inv X pins U H s)(r:Vals vs us)(h:sp (vs++ dvs) H Q E):wpAny (model X.prog X.w) X.A (call (.ref f) us) (EP X pins U Q) X.xe s:=by
 have r2:Vals (vs++ dvs) (us++ ds):=r.append hd;have hl:(us++ ds).length=ps.length:=by rw[<-r2.length];exact F.len _ _ _ _ h
 refine wpAny_call (codeAny_mono (F.run X.A X.stack s H ⟨us,[]⟩ (us++ ds) (vs++ dvs) Q E hr I.env0 (hb s us I.kIn hl) r2 h) fun r s' hq=>?_)
 cases r with
 |error e=>exact hx pins U H s e s' I hq
 |ok fl=>
  cases fl with
  |ret u=>exact I.after hq
  |next=>exact False.elim hq
  |brk=>exact False.elim hq
  |cont=>exact False.elim hq
theorem Jg(F:Yf X.prog X.w X.K X.mg X.base CX k f fd ps sp)(hr:Vs k X.A)(hg:Gl X x)(hm:X.mg x=some (.ref f))(hk:W.keepIn X.K (.ref f)=true)(hb:Binds X.K fd ps ds)(hd:Vals dvs ds)(hx:Ul CX X E)(ha:PA X (e::es) t)(hdb:(x==("__debug__":Str))=false:=by decide)(he:starEach (e::es) X.env=(false,eval e X.env)::starEach es X.env:=by rfl)(hpl:(backTo pos (starEach es X.env)).any (·.1)=false:=by rfl):
  PE X (.Call (.Name x p) (e::es) [] pos) (M8 sp dvs E t):=by
 intro pins s U H Q I h;refine wpAny_Call_Name_kw (GZ I hg hm ?_ hdb);refine W.callWith_K (h₀:=X.base) I.ok.mod.kin hk (thn (ha pos pins s U H _ I h) fun us s1 ⟨vs,H1,I1,r,q⟩=>⟨I1.kIn,?_⟩) he hpl;exact Gz F hr hb hd hx I1 r q
theorem Y6(he:PE X o ta)(c:Cls X.K C)(hm:VO X.K C m f)(F:Yf X.prog X.w X.K X.mg X.base CX k f fd ps sp)(hr:Vs k X.A)(hb:Binds X.K fd ps ds)(hd:Vals dvs ds)(hx:Ul CX X E)(ha:PA X (e::es) t)(hst:starEach (e::es) X.env=(false,eval e X.env)::starEach es X.env:=by rfl)(hpl:(backTo pos (starEach es X.env)).any (·.1)=false:=by rfl)(ht:eval (.Call (.Attribute o m apos) (e::es) [] pos) X.env=(do
   let ov <-eval o X.env
   standAt apos.atName
   let(f,first) <-holding [ov] (getMethod ov m pl)
   callWith pos f first (backTo pos (starEach (e::es) X.env)) (backToKw pos (keywordEach [] X.env))):=by rfl):
  PE X (.Call (.Attribute o m apos) (e::es) [] pos) (FF C m sp dvs E ta t):=by
 intro pins s U H Q I h;refine W.methodCall_KW (pl:=pl) (thn (he pins s U H _ I h) fun u s1 ⟨x,H1,I1,rx,q⟩=>?_) ht;replace q:=Jc.old q;obtain⟨a,ex,dx,fs,ea,l,q⟩:=q;subst ex;obtain rfl:u=Value.ref a:=rx;refine Ta I1 ea c hm l ?_;refine W.callWith_K (first:=[.ref a]) (h₀:=X.base) I.ok.mod.kin hm.kp (thn (ha pos pins s1 U H1 _ I1 q) fun us s2 ⟨vs,H2,I2,r,q2⟩=>⟨I2.kIn,?_⟩) hst hpl;exact Gz (us:=.ref a::us) (vs:=.ref a::vs) F hr hb hd hx I2 (.cons rfl r) q2
theorem Vf(he:PE X o ta)(c:Cls X.K C)(hm:VO X.K C m f)(F:Yf X.prog X.w X.K X.mg X.base CX k f fd ps sp)(hr:Vs k X.A)(hb:Binds X.K fd ps ds)(hd:Vals dvs ds)(hx:Ul CX X E)(ht:eval (.Call (.Attribute o m apos) [] [] pos) X.env=(do
   let ov <-eval o X.env
   standAt apos.atName
   let(f,first) <-holding [ov] (getMethod ov m pl)
   callWith pos f first (backTo pos (starEach [] X.env)) (backToKw pos (keywordEach [] X.env))):=by rfl):
  PE X (.Call (.Attribute o m apos) [] [] pos) (FF C m sp dvs E ta Rx):=by
 intro pins s U H Q I h;refine W.methodCall_KW (pl:=pl) (thn (he pins s U H _ I h) fun u s1 ⟨x,H1,I1,rx,q⟩=>?_) ht;replace q:=Jc.old q;obtain⟨a,ex,dx,fs,ea,l,q⟩:=q;subst ex;obtain rfl:u=Value.ref a:=rx;refine Ta I1 ea c hm l ?_;exact W.callWith_K0 (first:=[.ref a]) I1.kIn hm.kp (Gz (us:=[.ref a]) (vs:=[.ref a]) F hr hb hd hx I1 (.cons rfl .nil) q)
structure Mk(K:W.Frag)(C f:Addr):Prop where
 makes:W.makesIn K C=true
 init:W.findIn K (.ref C) "__init__"=some (some (.ref f))
 fn:W.isFn K (.ref f)=true
 kp:W.keepIn K (.ref C)=true
theorem Fo(M:Mk X.K C f)(F:Yf X.prog X.w X.K X.mg X.base CX k f fd ps sp)(hr:Vs (k+1) X.A)(hb:Binds X.K fd ps ds)(hd:Vals dvs ds)(hx:Ul CX X E)(I:Inv X pins U H s)(r:Vals vs us)(h:∀x dx,H x=none->H dx=none->dx≠x->sp (.ref x::(vs++ dvs)) (upd (upd H dx (.own x)) x (.ins C dx [])) (fun v H2=>v=.non/\Q (.ref x) H2) E):
  wpAny (model X.prog X.w) X.A (call (.ref C) us) (EP X pins U Q) X.xe s:=by
 have hq:=h (s.heap.objs.size+1) s.heap.objs.size (I.hok.fresh (Nat.le_succ _)) (I.hok.fresh (ZG _)) (Ze (Nat.lt_succ_self _));have I2:=Inv.made (C:=C) I;have r2:Vals (V.ref (s.heap.objs.size+1)::(vs++ dvs)) (Value.ref (s.heap.objs.size+1)::(us++ ds)):=.cons rfl (r.append hd)
 have hl:(Value.ref (s.heap.objs.size+1)::us++ ds).length=ps.length:=by
  have e:=r2.length;rw[F.len _ _ _ _ hq]at e;exact e.symm
 refine wpAny_call (Io (f:=f) I.kIn M.makes M.init (beq_iff_eq.mp M.fn) (codeAny_mono (F.run _ X.stack _ _ ⟨Value.ref (s.heap.objs.size+1)::us,[]⟩ (Value.ref (s.heap.objs.size+1)::(us++ ds)) _ _ E (hr.make C us [])
  (I2.env0.make C us []) (hb _ (Value.ref (s.heap.objs.size+1)::us) I2.kIn hl) r2 hq) fun r s' hq'=>?_))
 cases r with
 |error e=>exact hx pins U _ _ e s' I2 hq'
 |ok fl=>
  cases fl with
  |ret u=>
   obtain⟨v,H',I3,rv,ev,q3⟩:=I2.after hq';subst ev;exact⟨rv,⟨V.ref (s.heap.objs.size+1),H',I3,rfl,q3⟩⟩
  |next=>exact False.elim hq'
  |brk=>exact False.elim hq'
  |cont=>exact False.elim hq'
theorem Xz(M:Mk X.K C f)(F:Yf X.prog X.w X.K X.mg X.base CX k f fd ps sp)(hr:Vs (k+1) X.A)(hg:Gl X x)(hm:X.mg x=some (.ref C))(hb:Binds X.K fd ps ds)(hd:Vals dvs ds)(hx:Ul CX X E)(ha:PA X (e::es) t)(hdb:(x==("__debug__":Str))=false:=by decide)(he:starEach (e::es) X.env=(false,eval e X.env)::starEach es X.env:=by rfl)(hpl:(backTo pos (starEach es X.env)).any (·.1)=false:=by rfl):
  PE X (.Call (.Name x p) (e::es) [] pos) (SO C sp dvs E t):=by
 intro pins s U H Q I h;refine wpAny_Call_Name_kw (GZ I hg hm ?_ hdb);refine W.callWith_K (h₀:=X.base) I.ok.mod.kin M.kp (thn (ha pos pins s U H _ I h) fun us s1 ⟨vs,H1,I1,r,q⟩=>⟨I1.kIn,?_⟩) he hpl;exact Fo M F hr hb hd hx I1 r q
end
structure Yi(N P:List Str)(sc:Scope):Prop where
 kind:sc.kind=.function
 co:sc.isCoroutine=false
 gen:sc.isGenerator=false
 nd:N.Nodup
 pre:N.take P.length=P
 par:∀x∈P,sc.names.lookup x=some .local\/sc.names.lookup x=some .cell
 nofree:∀y∈sc.names,y.2≠.free
theorem Ri{kindOf:Str->Option NameKind}:∀{binds:List (Str×Value)}{m:Str->Option Value},(∀v,(x,v)∉binds)->bindL kindOf binds m x=m x
 |[],_,_=>rfl
 |(n,v)::r,m,h=>by
  unfold bindL;rw[Ri fun w hw=>h w (ZM _ hw)]
  split
  .have:x≠n:=by rintro rfl;exact h v Za
   simp[this]
  .rfl
theorem Rk{kindOf:Str->Option NameKind}:∀{binds:List (Str×Value)}{m:Str->Option Value},(∀v,(x,v)∉binds)->bindC kindOf binds m x=m x
 |[],_,_=>rfl
 |(n,v)::r,m,h=>by
  unfold bindC;rw[Rk fun w hw=>h w (ZM _ hw)]
  split
  .rfl
  .have:x≠n:=by rintro rfl;exact h v Za
   simp[this]
theorem Rj{kindOf:Str->Option NameKind}:∀{P:List Str}{vs:List Value}{i:Nat}{m:Str->Option Value},P.Nodup->P[i]?=some x->vs[i]?=some v->kindOf x=some .local->
  bindL kindOf (P.zip vs) m x=some v
 |[],_,_,_,_,h,_,_=>by simp at h
 |_::_,[],_,_,_,_,h,_=>by simp at h
 |p::P,w::vs,0,m,nd,h1,h2,hk=>by
  simp at h1 h2;subst h1;subst h2;show bindL kindOf ((p,w)::P.zip vs) m p=_;unfold bindL;rw[Ri fun v hv=>(List.nodup_cons.mp nd).1 (List.of_mem_zip hv).1,Zp hk];simp
 |p::P,w::vs,i+1,m,nd,h1,h2,hk=>by
  show bindL kindOf ((p,w)::P.zip vs) m x=_;unfold bindL;exact Rj (i:=i) (List.nodup_cons.mp nd).2 (by simpa using h1) (by simpa using h2) hk
theorem Rl{kindOf:Str->Option NameKind}:∀{P:List Str}{vs:List Value}{i:Nat}{m:Str->Option Value},P.Nodup->P[i]?=some x->vs[i]?=some v->kindOf x≠some .local->
  bindC kindOf (P.zip vs) m x=some v
 |[],_,_,_,_,h,_,_=>by simp at h
 |_::_,[],_,_,_,_,h,_=>by simp at h
 |p::P,w::vs,0,m,nd,h1,h2,hk=>by
  simp at h1 h2;subst h1;subst h2;show bindC kindOf ((p,w)::P.zip vs) m p=_;unfold bindC;rw[Rk fun v hv=>(List.nodup_cons.mp nd).1 (List.of_mem_zip hv).1,Zq hk];simp
 |p::P,w::vs,i+1,m,nd,h1,h2,hk=>by
  show bindC kindOf ((p,w)::P.zip vs) m x=_;unfold bindC;exact Rl (i:=i) (List.nodup_cons.mp nd).2 (by simpa using h1) (by simpa using h2) hk
def start(N:List Str)(vs:List V):St:=vs.map some++ List.replicate (N.length-vs.length) none
def Vb(CX:CXT)(P:Program)(w:World)(K:W.Frag)(mg:Str->Option Value)(base:Heap)(N:List Str)(qual:Str)(scope:Scope)(f:Addr)(cd:Value)(A:Around)(outer:List Env)(s:Shared)(H:Hp)(E:XK):Cx where
 prog:=P
 w:=w
 K:=K
 mg:=mg
 base:=base
 A:=A.deeper (envOfC qual scope s.heap.objs.size f cd)
 N:=N
 s₀:=s
 H₀:=H
 env:=envOfC qual scope s.heap.objs.size f cd
 outer:=outer
 stack:=envOfC qual scope s.heap.objs.size f cd::outer
 ex:=[]
 calm:=true
 fn:=fun _=>true
 pn:=[]
 xe:=fun e s'=>wpAny (model P w) (A.deeper (envOfC qual scope s.heap.objs.size f cd)) (leaving (envOfC qual scope s.heap.objs.size f cd) e) (fun _ s''=>CX outer H s E e s'') (fun e' s''=>CX outer H s E e' s'') s'
theorem Nk{sc:Scope}(h:sc.names.lookup x=some .cell):∃c,(cellsFrom n sc.names []).lookup x=some c:=by
 have q:=W.cellsFrom_some sc.names n [] (.inl h);exact Option.isSome_iff_exists.mp q
theorem Eh{CX:CXT}{P:Program}{w:World}{K:W.Frag}(S:Yi N ps scope)(hd:A.handled=none)(e0:DF P w K mg base A outer s H)(hl:vs.length=ps.length)(r:Vals vs us)(x:InCallC s s.heap.objs.size (bindL (envOfC qual scope s.heap.objs.size f cd).kindOf (ps.zip us) fun _=>none) (cellsFrom (s.heap.objs.size+1) scope.names []) (bindC (envOfC qual scope s.heap.objs.size f cd).kindOf (ps.zip us) fun _=>none) s1):
  Inv (Vb CX P w K mg base N qual scope f cd A outer s H E) [] (start N vs) H s1:=by
 have hpl:ps.length<=N.length:=by have:=congrArg List.length S.pre;rw[ZN]at this;omega
 obtain⟨h1,tk,rfl,hk⟩:=x.done;have noA:∀b:Addr,b∉(Vb CX P w K mg base N qual scope f cd A outer s H E).ex:=fun b z=>Zr (show b∈([]:List Addr)from z) (by simp);refine⟨⟨e0.mod,S.kind,rfl,rfl,ZG _,fun y z c h1 h2=>?_,fun y hy=>?_,fun y c _ h=>?_,fun _=>hd,Around.frames_deeper e0.frames,.inr ⟨rfl,rfl⟩,fun b z=>Zr z (noA b),e0.bs,e0.bsz,fun b _ _=>noA b,fun b z=>Zr z (noA b),e0.funs,e0.frf⟩,
  rfl,e0.bare,Un.kept hk,⟨_,x.toInCall.ns,fun i y v h1 h2 h3=>?_⟩,fun y c h=>⟨_,x.cell y c h⟩,e0.hok.fresh (ZG _),fun y c h=>?_,fun p hp=>Zr (show p∈([]:List (Addr×Obj))from hp) (by simp),e0.hok.kept hk,?_⟩
 .exact name_of_addr x.apart (PySem.mem_of_lookup h1) (PySem.mem_of_lookup h2)
 .have hy:scope.names.lookup y=some .cell\/scope.names.lookup y=some .free:=hy
  rcases hy with hy|hy
  .exact Nk hy
  .exact Zr rfl (S.nofree _ (PySem.mem_of_lookup hy))
 .exact Zh (x.above y c (PySem.mem_of_lookup h))
 .have hi:i<vs.length:=by
   unfold start at h2
   by_cases hi:i<vs.length
   .exact hi
   .rw [List.getElem?_append_right (by simpa using hi)]at h2
    rw[List.getElem?_replicate]at h2
    split at h2 <;> cases h2
  have ha:vs[i]?=some v:=by
   unfold start at h2;rw[List.getElem?_append_left (by simpa using hi),ZH]at h2
   cases e:vs[i]? with
   |none=>rw[e]at h2;cases h2
   |some a=>rw[e]at h2;cases h2;rfl
  obtain⟨u,hu,rv⟩:=r.get ha
  have hp:ps[i]?=some y:=by
   rw[<-S.pre,List.getElem?_take_of_lt (by omega)];exact h1
  have ndP:ps.Nodup:=by rw[<-S.pre];exact S.nd.sublist (List.take_sublist _ _)
  refine⟨u,rv,?_⟩;rcases S.par y (ZJ hp)with k|k
  .exact .inl ⟨k,Rj ndP hp hu k⟩
  .obtain ⟨c,e⟩:=Nk (n:=s.heap.objs.size+1) k
   refine .inr ⟨.inl k,c,e,?_⟩;have q:=x.cell y c e;rw[Rl ndP hp hu (by show scope.names.lookup y≠_;rw[k];decide)]at q;exact q
 .exact e0.hok.fresh (Zh (x.above y c (PySem.mem_of_lookup h)))
 .unfold start
  show _=N.length;rw[ZL,ZA,List.length_replicate];omega
theorem PF{CX:CXT}{P:Program}{K:W.Frag}{dV kV doc pm cdv ct oc:Value}(lk:K.lookup f=some ⟨oc,od,.func (W.fnOf name qual params body scope dV kV doc pm an cdv ct),osl⟩)(hcd:W.codeIn K cdv qual=true)(S:Yi N ps scope)(len:∀vs H Q E,sp vs H Q E->vs.length=ps.length)(hbody:∀(A:Around)(outer:List Env)(s:Shared)(H:Hp)(vs:List V)(Q:VK)(E:XK),Vs k (A.deeper (envOfC qual scope s.heap.objs.size f cdv))->sp vs H Q E->
   ∃t,PSs (Vb CX P w K mg base N qual scope f cdv A outer s H E) body t/\t {nx:=fun _ H'=>Q .non H',rt:=Q} (start N vs) H):
  Yf P w K mg base CX (k+1) f (W.fnOf name qual params body scope dV kV doc pm an cdv ct) ps sp:=by
 refine⟨len,fun A outer s H args us vs Q E hr e0 hb r hsp=>?_⟩;have hl:=len _ _ _ _ hsp;have KX:K.In s.heap:=e0.mod.kin.keeps fun b o e=>(e0.bs b o e).1;have lim:s.heap.NoLimit:=e0.mod.nolimit.keeps fun b o e=>(e0.bs b o e).1
 have hkind:∀y∈ps.zip us,scope.names.lookup y.1=some .local\/(scope.names.lookup y.1=some .cell/\((cellsFrom (s.heap.objs.size+1) scope.names []).lookup y.1).isSome=true):=fun⟨n,v⟩ hy=>by
  rcases S.par n (List.of_mem_zip hy).1 with q|q
  .exact .inl q
  .exact .inr ⟨q,W.cellsFrom_some _ _ _ (.inl q)⟩
 refine codeAny_call_function hr.depth (KX _ _ lk) rfl S.co S.gen rfl (W.codeRec_of KX hcd) (hb _ _ _ _ ?_);refine wpAny_newFunctionEnv_cells S.kind hkind fun env he s1 x=>?_;subst he;refine⟨lim.keeps x.toInCall.keep,codeAny_func ?_⟩;obtain⟨t,ht,hq⟩:=hbody A outer s H vs Q E (hr.deeper _) hsp;have I:Inv (Vb CX P w K mg base N qual scope f cdv A outer s H E) [] (start N vs) H s1:=Eh S hr.hd e0 hl r x;refine Zn (ht [] s1 (start N vs) H _ I hq) (fun fl s' hs=>?_) fun e s' hs=>hs
 have fin:∀{U':St}{H':Hp}{v:V}{u:Value},Inv (Vb CX P w K mg base N qual scope f cdv A outer s H E) [] U' H' s'->RelV v u->Q v H'->CE outer P w H s Q u s':=
  fun{U' H' v u} J rv q=>⟨v,H',J.os,J.bare,J.base,J.hok,rv,q⟩
 cases fl with
 |ret u=>
  obtain⟨v,U',H',J,rv,q⟩:=hs;exact fin J rv q
 |next=>
  obtain⟨U',H',J,q⟩:=hs;exact fin (v:=V.non) (u:=Value.none) J rfl q
 |brk=>
  obtain⟨_,_,_,q⟩:=hs;exact False.elim q
 |cont=>
  obtain⟨_,_,_,q⟩:=hs;exact False.elim q
end L2
namespace L2
open PySem PySem.Spec PyProof.Rows
section
variable{t:TA}{id T:String}{r:List V->Hp->VK->Prop}
def tCB(r:List V->Hp->VK->Prop)(t:TA):TE:=fun U H Q=>t U H fun vs H1=>r vs H1 Q
theorem Y7(hc:Jb X (.builtin id) r)(hg:Gl X x)(hm:X.mg x=none)(hv:bootBuiltins x=some (.builtin id))(ha:PA X (e::es) t)(hn:x≠"__name__":=by decide)(hdb:(x==("__debug__":Str))=false:=by decide)(he:starEach (e::es) X.env=(false,eval e X.env)::starEach es X.env:=by rfl)(hpl:(backTo pos (starEach es X.env)).any (·.1)=false:=by rfl):PE X (.Call (.Name x p) (e::es) [] pos) (tCB r t):=by
 intro pins s U H Q I h;refine wpAny_Call_Name_kw (U3 I hg hm hv ?_ hn hdb);exact PyProof.Rows.callWith_builtin1 (thn (ha pos pins s U H _ I h) fun us s1 ⟨vs,H1,I1,r1,q1⟩=>hc pins s1 U H1 vs us Q I1 r1 q1) he hpl
theorem VL(hc:Jb X (.type T) r)(hg:Gl X x)(hm:X.mg x=none)(hv:bootBuiltins x=some (.type T))(ha:PA X (e::es) t)(hn:x≠"__name__":=by decide)(hdb:(x==("__debug__":Str))=false:=by decide)(he:starEach (e::es) X.env=(false,eval e X.env)::starEach es X.env:=by rfl)(hpl:(backTo pos (starEach es X.env)).any (·.1)=false:=by rfl):PE X (.Call (.Name x p) (e::es) [] pos) (tCB r t):=by
 intro pins s U H Q I h;refine wpAny_Call_Name_kw (U3 I hg hm hv ?_ hn hdb);exact PyProof.Rows.callWith_type1 (thn (ha pos pins s U H _ I h) fun us s1 ⟨vs,H1,I1,r1,q1⟩=>hc pins s1 U H1 vs us Q I1 r1 q1) he hpl
end
end L2
namespace HT
open PySem PyProof.Rows
section
open PySem.SeqAt
open PySem.AutoSeq1 (wpAny_loadPart')
open PySem.MeetsSeq PySem.MeetsSeq2 PySem.MeetsSeq3
end
section
theorem cat_tup(ht:IsTup s.heap t vs.toArray)(hb:IsTup s.heap b ws.toArray)(hv:vs≠[])(h1:ws=[]->Q (.ref t) s)(h2:ws≠[]->Q (.ref s.heap.objs.size) {s with heap:=s.heap.push {cls:=.type "tuple",data:=.seq (vs++ ws).toArray}})(hsz:vs.length+ws.length<=sizeLine):wpAny (model prog w) A (binaryOp .Add (.ref t) (.ref b)) Q E s:=by
 obtain⟨⟨cls,dd,data,sl⟩,ho,hc,n,hd⟩:=id ht;obtain⟨⟨cls2,dd2,data2,sl2⟩,ho2,hc2,n2,hd2⟩:=id hb;simp only at hc hd hc2 hd2;subst hc hd hc2 hd2;have e:vs.toArray++ ws.toArray=(vs++ ws).toArray:=by simp
 by_cases hw:ws=[]
 .exact concat_meets ⟨_,ho,rfl⟩ ⟨_,ho2,rfl⟩ noFill_tuple_add seq_tuple_add PySem.F.slot_tuple_add PySem.F.entry_tuple_add (PySem.F.args_tuple_add_2 _ _)
   (tuple_addW1 t b vs.toArray ws.toArray n n2 dd dd2 sl sl2 (by simpa using hv) (by simp[hw])) ⟨ho,ho2,h1 hw⟩
 .refine concat_meets ⟨_,ho,rfl⟩ ⟨_,ho2,rfl⟩ noFill_tuple_add seq_tuple_add PySem.F.slot_tuple_add PySem.F.entry_tuple_add (PySem.F.args_tuple_add_2 _ _)
   (tuple_addW2 t b vs.toArray ws.toArray n n2 dd dd2 sl sl2 (by simpa using hv) (by simpa using hw) (by rw[ZO,ZO];exact hsz)) ⟨ho,ho2,?_⟩
  rw[e];exact h2 hw
def sIx(n d:Nat):Option Int->Nat
 |none=>d
 |some v=>if v<0 then(v+(n:Int)).toNat else min v.toNat n
theorem sIx_none(n d:Nat):sIx n d none=d:=rfl
theorem sIx_nat(n d k:Nat):sIx n d (some (k:Int))=min k n:=by
 show(if(k:Int)<0 then((k:Int)+(n:Int)).toNat else min (k:Int).toNat n)=min k n;rw[Zq (by omega),Int.toNat_natCast]
theorem P9(n d:Nat)(hd:d<=n)(o:Option Int):sIx n d o<=n:=by
 cases o with
 |none=>exact hd
 |some v=>
  show(if v<0 then(v+(n:Int)).toNat else min v.toNat n)<=n
  by_cases hv:v<0
  .rw [Zp hv];omega
  .rw [Zq hv];exact Nat.min_le_right _ _
theorem D5(v:Int)(n d:Nat):(if v<0 then max (v+(n:Int)) 0 else min v (n:Int))=((sIx n d (some v):Nat):Int):=by
 show(if v<0 then max (v+(n:Int)) 0 else min v (n:Int))=(((if v<0 then(v+(n:Int)).toNat else min v.toNat n):Nat):Int)
 by_cases hv:v<0
 .simp only[Zp hv];omega
 .simp only[Zq hv];omega
theorem B9(lo hi:Option Int)(n:Nat):Builtin.Slice.sliceAdjust lo hi 1 (n:Int)=(((sIx n 0 lo:Nat):Int),((sIx n n hi:Nat):Int)):=by
 have h1:¬((1:Int)<0):=by omega
 unfold Builtin.Slice.sliceAdjust;simp only[h1,if_false];refine Prod.ext ?_ ?_
 .cases lo with
  |none=>rfl
  |some v=>exact D5 v n 0
 .cases hi with
  |none=>rfl
  |some v=>exact D5 v n n
theorem Ba(i j:Nat):Builtin.Slice.slicePlaces (i:Int) (j:Int) 1=j-i:=by
 unfold Builtin.Slice.slicePlaces;have h1:(1:Int) > 0:=by omega
 simp only[h1,if_true,Int.ediv_one]
 split <;> omega
theorem Gr(p:IsPart v o)(h:Q o s):wpAny (model prog w) A (Builtin.Slice.slicePartIndex v) Q E s:=by
 cases p with
 |none=>exact slicePart_none h
 |int i t=>exact slicePart_int h
theorem sliceApplied_gen{lo hi:Option Int}{n:Nat}(hs:s.heap.IsSliceOf sl vl vu .none)(pl:IsPart vl lo)(pu:IsPart vu hi)(h:Q (((sIx n 0 lo:Nat):Int),1,sIx n n hi-sIx n 0 lo) s):wpAny (model prog w) A (Builtin.Slice.sliceApplied (.ref sl) (pure (n:Int))) Q E s:=by
 obtain⟨os,hos,hcs,hds⟩:=id hs;unfold Builtin.Slice.sliceApplied Builtin.Slice.sliceFields;refine Zl (Zl (Zo hos hds (x:=vl) rfl (Zl (Zo hos hds (x:=vu) rfl (Zl (Zo hos hds (x:=.none) rfl (Zm ?_)))))));refine Zl (slicePart_none ?_);show wpAny _ _ (if((1:Int)==0)=true then _ else _) _ _ s;rw[Zq (by decide)];refine Zl (Gr pl (Zl (Gr pu (Zl (Zm ?_)))));show wpAny _ _ (match Builtin.Slice.sliceAdjust lo hi 1 (n:Int)with|(lo,hi)=>pure (lo,(1:Int),Builtin.Slice.slicePlaces lo hi 1)) _ _ s;rw[B9 lo hi n];show wpAny _ _ (pure (((sIx n 0 lo:Nat):Int),(1:Int),Builtin.Slice.slicePlaces ((sIx n 0 lo:Nat):Int) ((sIx n n hi:Nat):Int) 1)) _ _ s;rw[Ba];exact Zm h
theorem Fw(xs:Array Value)(i k:Nat):((List.range k).filterMap fun(m:Nat)=>xs[((i:Int)+(m:Int)*1).toNat]?).toArray=((xs.toList.drop i).take k).toArray:=by
 have e:(fun(m:Nat)=>xs[((i:Int)+(m:Int)*1).toNat]?)=fun m=>xs[i+m]?:=by
  funext m
  have:((i:Int)+(m:Int)*1).toNat=i+m:=by omega
  rw[this]
 rw[e];have:=pick_run xs i k;rw[List.filterMap_map]at this;have e2:((fun x=>xs[x]?) ∘ fun x=>i+x)=fun m=>xs[i+m]?:=rfl;rw[e2]at this;rw[this]
theorem getItem_tuple_cut{lo hi:Option Int}(ht:IsTup s.heap t items)(hs:s.heap.IsSliceOf sl vl vu .none)(pl:IsPart vl lo)(pu:IsPart vu hi)(hw:¬(sIx items.size 0 lo=0/\sIx items.size items.size hi=items.size))(h:Q (.ref s.heap.objs.size) {s with heap:=s.heap.push {cls:=.type "tuple",data:=.seq ((items.toList.drop (sIx items.size 0 lo)).take (sIx items.size items.size hi-sIx items.size 0 lo)).toArray}})(hsz:items.size<=sizeLine):wpAny (model prog w) A (getItem (.ref t) (.ref sl)) Q E s:=by
 have htake:sizeOk (.seq ((items.toList.drop (sIx items.size 0 lo)).take (sIx items.size items.size hi-sIx items.size 0 lo)).toArray):=by
  show((items.toList.drop (sIx items.size 0 lo)).take (sIx items.size items.size hi-sIx items.size 0 lo)).toArray.size<=sizeLine;rw[ZO,ZN,List.length_drop,Array.length_toList];omega
 have hj:sIx items.size items.size hi<=items.size:=P9 _ _ (ZG _) hi;obtain⟨os,hos,hcs,hds⟩:=id hs;have hTs:s.TypeIs (.ref sl) "slice":=⟨os,hos,hcs⟩;unfold getItem
 try with_reducible refine wpAny_holding ?_
 first|refine Zl (Zm ?_)|skip
 refine Zl (wpAny_sequenceKey ht.typeIs (by decide) ?_);refine Zl (wpAny_callSpecial?_slot (name:=Str.ofString "__getitem__") ht.typeIs PyProof.Rows.slot_tuple_getitem
  (wpAny_call_entry PyProof.Rows.slot_tuple_getitem ht.typeIs entry_tuple_getitem ?_ (args_tuple_getitem _ _)))
 show wpAny _ _ (Builtin.Tuple.tupleItemsOf (.ref t) >>=_) _ _ s;refine Zl (tupleItemsOf_ ht ?_);refine Zl (wpAny_typeOf hTs ?_);rw[Zp (by decide)];refine Zl (sliceApplied_gen hs pl pu ?_)
 have hno:¬((((sIx items.size 0 lo:Nat):Int)==0 && (1:Int)==1 && (sIx items.size items.size hi-sIx items.size 0 lo)==items.size)=true):=by
  intro q;rw[ZZ,ZZ]at q;have q1:((sIx items.size 0 lo:Nat):Int)=0:=eq_of_beq q.1.1;have q2:sIx items.size items.size hi-sIx items.size 0 lo=items.size:=eq_of_beq q.2;exact hw ⟨by omega,by omega⟩
 show wpAny _ _ (if(((sIx items.size 0 lo:Nat):Int)==0 && (1:Int)==1 && (sIx items.size items.size hi-sIx items.size 0 lo)==items.size)=true then _ else _) _ _ s;rw[Zq hno,Fw]
 first
  |exact Zl (m:=Builtin.Tuple.tupleExact _) (wpAny_newObj_type (Zm ⟨_,rfl,Zm h⟩) htake)
  |exact Zl (m:=Builtin.Tuple.tupleExact _) (wpAny_newObj_type (Zl (Zm (Zm ⟨_,rfl,Zm h⟩))) htake)
  |exact Zl (Zl (m:=Builtin.Tuple.tupleExact _) (wpAny_newObj_type (Zm (Zm ⟨_,rfl,Zm h⟩)) htake))
  |exact Zl (Zl (m:=Builtin.Tuple.tupleExact _) (wpAny_newObj_type (Zm ⟨_,rfl,Zm h⟩) htake))
end
end HT
namespace L2
open PySem PySem.Spec PyProof.Rows
abbrev TO:=St->Hp->(Option Int->Hp->Prop)->Prop
def PO(X:Cx)(e:Option Expr)(t:TO):Prop:=
 ∀(pins:List (Addr×Obj))(s:Shared)(U:St)(H:Hp)(Q:Option Int->Hp->Prop),Inv X pins U H s->t U H Q->
  wpAny (model X.prog X.w) X.A (evalPart e X.env) (fun u s'=>∃o H',Inv X pins U H' s'/\IsPart u o/\Q o H') X.xe s
def K6:TO:=fun _ H Q=>Q none H
def SL(t:TE):TO:=fun U H Q=>t U H fun x H1=>∃i,x=.int i/\Q (some i) H1
section
variable{X:Cx}{te:TE}{lo hi:Option Expr}{tl th:TO}
theorem JK:PO X none K6:=by
 intro pins s U H Q I h;rw[evalPart_none];exact Zm ⟨none,H,I,.none,h⟩
theorem JJ(h:PE X e te):PO X (some e) (SL te):=by
 intro pins s U H Q I hw;rw[evalPart_some];refine thn (h pins s U H _ I hw) fun u s1 ⟨x,H1,I1,r1,q1⟩=>?_;obtain⟨i,rfl,q⟩:=q1;obtain⟨t,rfl⟩:=r1;exact⟨some i,H1,I1,.int i t,q⟩
def SlR(X:Cx)(r:V->Option Int->Option Int->Hp->VK->Prop):Prop:=
 ∀(pins:List (Addr×Obj))(s:Shared)(U:St)(H:Hp)(x:V)(v vl vu:Value)(lo hi:Option Int)(sl:Addr)(Q:VK),Inv X pins U H s->RelV x v->s.heap.IsSliceOf sl vl vu .none->IsPart vl lo->IsPart vu hi->r x lo hi H Q->
  ∃T id,typeLookup (.type T) "__getitem__"=pure (some (.builtin id))/\s.TypeIs v T/\wpAny (model X.prog X.w) X.A (getItem v (.ref sl)) (EP X pins U Q) X.xe s
def tSl(r:V->Option Int->Option Int->Hp->VK->Prop)(te:TE)(tl th:TO):TE:=fun U H Q=>te U H fun x H1=>tl U H1 fun l H2=>th U H2 fun u H3=>r x l u H3 Q
theorem V3(hr:SlR X r)(he:PE X e te)(hl:PO X lo tl)(hu:PO X hi th):PE X (.Subscript e (.Slice lo hi none p2) pos) (tSl r te tl th):=by
 intro pins s U H Q I h;refine Subscript_ (thn (he pins s U H _ I h) fun v s1 ⟨x,H1,I1,r1,q1⟩=>?_);refine wpAny_Slice (thn (hl pins s1 U H1 _ I1 q1) fun vl s2 ⟨l,H2,I2,pl,q2⟩=>thn (hu pins s2 U H2 _ I2 q2) fun vu s3 ⟨u,H3,I3,pu,q3⟩=>?_);rw[evalPart_none];refine Zm ?_;have I4:Inv X pins U H3 {s3 with heap:=s3.heap.push {cls:=.type "slice",data:=.fields #[vl,vu,.none]}}:=I3.kept (t':=s3.toks) fun b ob q=>ZE _ q;obtain⟨T,id,hT,ht,hg⟩:=hr pins {s3 with heap:=s3.heap.push {cls:=.type "slice",data:=.fields #[vl,vu,.none]}} U H3 x v vl vu l u s3.heap.objs.size Q I4 r1 (Heap.IsSliceOf.new ..) pl pu q3;show wpAny (model X.prog X.w) X.A (subscriptTail e (.Slice lo hi none p2) v (.ref s3.heap.objs.size)) (EP X pins U Q) X.xe {s3 with heap:=s3.heap.push {cls:=.type "slice",data:=.fields #[vl,vu,.none]}};exact tail_any (ops:=[.ref s3.heap.objs.size,v]) ht hT hg (by with_unfolding_all rfl)
def UU(xs:List V)(lo hi:Option Int):List V:=(xs.drop (HT.sIx xs.length 0 lo)).take (HT.sIx xs.length xs.length hi-HT.sIx xs.length 0 lo)
theorem Ww(xs:List V)(lo hi:Option Int):(UU xs lo hi).length<=xs.length:=by
 unfold UU;rw[ZN,List.length_drop];omega
def Cf(K:W.Frag):V->Option Int->Option Int->Hp->VK->Prop:=fun x lo hi H Q=>∃a xs,x=.ref a/\SqT K H a xs/\
 ¬(HT.sIx xs.length 0 lo=0/\HT.sIx xs.length xs.length hi=xs.length)/\∀p,H p=none->Q (.ref p) (upd H p (.tup (UU xs lo hi)))
theorem MF:SlR X (Cf X.K):=by
 intro pins s U H x v vl vu lo hi sl Q I rx hs pl pu h;obtain⟨a,xs,rfl,hx,hw,q⟩:=h;cases rx;obtain⟨its,r,ht,hz⟩:=I.tuple hx;have hlen:its.toArray.size=xs.length:=by rw[ZO];exact r.length.symm
 refine⟨"tuple",_,PyProof.Rows.slot_tuple_getitem.lookup,ht.typeIs,?_⟩;refine HT.getItem_tuple_cut ht hs pl pu (by rw[hlen];exact hw) ?_ (by rw[hlen];exact hz);rw[hlen];refine⟨.ref s.heap.objs.size,_,I.laid (t':=s.toks) (o:=.tup (UU xs lo hi)) (fun b ob q=>ZE _ q) (ZG _) ?_,rfl,q _ (I.hok.fresh (ZG _))⟩;exact⟨Zb (Ww xs lo hi) hz,_,(r.drop (HT.sIx xs.length 0 lo)).take (HT.sIx xs.length xs.length hi-HT.sIx xs.length 0 lo),W0.new _ _⟩
def Uw(K:W.Frag):R2:=fun x y H Q=>∃a b xs ys,x=.ref a/\y=.ref b/\SqT K H a xs/\SqT K H b ys/\xs≠[]/\xs.length+ys.length<=sizeLine/\
 (ys=[]->Q (.ref a) H)/\(ys≠[]->∀p,H p=none->Q (.ref p) (upd H p (.tup (xs++ ys))))
theorem Vals.nil_iff(r:Vals xs us):us=[]↔xs=[]:=by
 cases r with
 |nil=>simp
 |cons _ _=>simp
theorem Md:OpR X (binaryOp .Add) (Uw X.K):=by
 intro pins s U H x y v u Q I rx ry h;obtain⟨a,b,xs,ys,rfl,rfl,ha,hb,hx,hz,q1,q2⟩:=h;cases rx;cases ry;obtain⟨its,r1,p1,_⟩:=I.tuple ha;obtain⟨its2,r2,p2,_⟩:=I.tuple hb;refine HT.cat_tup p1 p2 (fun z=>hx (r1.nil_iff.mp z)) (fun z=>⟨.ref a,H,I,rfl,q1 (r2.nil_iff.mp z)⟩) (fun z=>?_) (by rw[<-r1.length,<-r2.length];exact hz);refine⟨.ref s.heap.objs.size,_,I.laid (t':=s.toks) (o:=.tup (xs++ ys)) (fun b ob q=>ZE _ q) (ZG _) ?_,rfl,q2 (fun w=>z (r2.nil_iff.mpr w)) _ (I.hok.fresh (ZG _))⟩;exact⟨by rw[ZL];exact hz,_,r1.append r2,W0.new _ _⟩
end
def ixN(n:Nat)(i:Int):Option Nat:=if 0<=i then(if i<n then some i.toNat else none)else if -(n:Int)<=i then some (i+n).toNat else none
def atI{α:Type}(xs:List α)(i:Int):Option α:=(ixN xs.length i).bind fun j=>xs[j]?
theorem Do(h:ixN n i=some j):seqIndex? i n=some j/\j<n/\ -(n:Int)<=i/\i<n:=by
 unfold ixN at h
 by_cases h0:0<=i
 .rw [Zp h0]at h
  by_cases h1:i<n
  .rw [Zp h1]at h
   have e:i.toNat=j:=ZT h;exact⟨by rw[seqIndex_of h0 h1,e],by omega,by omega,h1⟩
  .rw [Zq h1]at h;cases h
 .rw [Zq h0]at h
  by_cases h1: -(n:Int)<=i
  .rw [Zp h1]at h
   have e:(i+n).toNat=j:=ZT h;exact⟨by rw[seqIndex_neg (by omega) h1,e],by omega,h1,by omega⟩
  .rw [Zq h1]at h;cases h
theorem My(h:atI xs i=some v):∃j,seqIndex? i xs.length=some j/\xs[j]?=some v/\j<xs.length/\ -(xs.length:Int)<=i/\i<xs.length:=by
 unfold atI at h
 cases e:ixN xs.length i with
 |none=>rw[e]at h;cases h
 |some j=>
  rw[e]at h;obtain⟨h1,h2,h3,h4⟩:=Do e;exact⟨j,h1,h,h2,h3,h4⟩
theorem Y5{xs:List α}{j:Nat}{v:α}(h:xs[j]?=some v):atI xs (j:Int)=some v:=by
 have hj:j<xs.length:=(ZF.mp h).1
 have e:ixN xs.length (j:Int)=some j:=by
  unfold ixN;rw[Zp (by omega),Zp (by omega)];simp
 unfold atI;rw[e];exact h
def Of(b:Expr):Prop:=∀o i,subscripted b false o i=operate [o,i] (getItem o i)
def IxR(X:Cx)(r:R2):Prop:=
 ∀(value slice:Expr)(pins:List (Addr×Obj))(s:Shared)(U:St)(H:Hp)(x y:V)(v u:Value)(Q:VK),Inv X pins U H s->RelV x v->RelV y u->r x y H Q->
  subscripted slice false v u=operate [v,u] (getItem v u)->wpAny (model X.prog X.w) X.A (subscriptTail value slice v u) (EP X pins U Q) X.xe s
def MtR(X:Cx)(id:String)(r:V->List V->Hp->VK->Prop):Prop:=
 ∀(pins:List (Addr×Obj))(s:Shared)(U:St)(H:Hp)(x:V)(xs:List V)(v:Value)(us:List Value)(Q:VK),Inv X pins U H s->RelV x v->Vals xs us->r x xs H Q->
  wpAny (model X.prog X.w) X.A (call (.builtin id) (v::us)) (EP X pins U Q) X.xe s
section
variable{a b:Expr}{ta tb:TE}
theorem Yj(hr:IxR X r)(ha:PE X a ta)(hb:PE X b tb)(hs:Of b:=by exact fun _ _=>rfl):PE X (.Subscript a b pos) (tOp r ta tb):=by
 intro pins s U H Q I h;exact Subscript_ (Qz ha hb I h fun v u s2 x y H2 I2 rx ry q=>hr a b pins s2 U H2 x y v u Q I2 rx ry q (hs _ _))
def EQ(K:W.Frag):R2:=fun x y H Q=>Jc x fun p=>Ui y fun i=>∃xs v,SqL K H p xs/\atI xs i=some v/\Q v H
theorem EQ.old{K:W.Frag}(h:EQ K x y H Q):∃p xs i v,x=.ref p/\y=.int i/\SqL K H p xs/\atI xs i=some v/\Q v H:=by
 replace h:=Jc.old h;obtain⟨p,e,h⟩:=h;replace h:=Ui.old h;obtain⟨i,e',xs,v,h⟩:=h;exact⟨p,xs,i,v,e,e',h⟩
def VS(K:W.Frag):R2:=fun x y H Q=>Jc x fun p=>Ui y fun i=>∃xs v,SqT K H p xs/\atI xs i=some v/\Q v H
theorem VS.old{K:W.Frag}(h:VS K x y H Q):∃p xs i v,x=.ref p/\y=.int i/\SqT K H p xs/\atI xs i=some v/\Q v H:=by
 replace h:=Jc.old h;obtain⟨p,e,h⟩:=h;replace h:=Ui.old h;obtain⟨i,e',xs,v,h⟩:=h;exact⟨p,xs,i,v,e,e',h⟩
def Sg:R2:=fun x y H Q=>∃z i c,x=.str z/\y=.int i/\z.length<=sizeLine/\atI z.cps.toList i=some c/\Q (.str ⟨#[c]⟩) H
theorem VA:IxR X (EQ X.K):=by
 intro value slice pins s U H x y v u Q I rx ry h hs;replace h:=EQ.old h;obtain⟨p,xs,i,z,rfl,rfl,hq,he,q⟩:=h;cases rx;obtain⟨t,rfl⟩:=ry;obtain⟨its,r,pl,hz⟩:=I.list hq;obtain⟨j,h1,h2,h3,h4,h5⟩:=My he;obtain⟨w,ew,rw'⟩:=r.get h2;have hl:=r.length;have hn:=WZ;have fin:EP X pins U Q w s:=⟨z,H,I,rw',q⟩
 by_cases h0:0<=i
 .have hj:i.toNat=j:=by
   rw[seqIndex_of h0 h5]at h1;exact ZT h1
  exact item_listR pl.isList h0 (by omega) (by rw[hj];simpa using ew) fin hs
 .have hj:(i+(its.toArray.size:Int)).toNat=j:=by
   rw[seqIndex_neg (by omega) h4]at h1;rw[ZO,<-hl];exact ZT h1
  exact subscriptTail_builtinR (x:=w) pl.isList.typeIs slot_list_getitem.lookup
   (wpAny_getItem_list_neg (Q:=fun r s'=>r=w/\EP X pins U Q r s') pl.isList (by omega) (by rw[ZO] <;> omega) (by omega) (by rw[hj];simpa using ew) ⟨rfl,fin⟩) hs
theorem Ym:IxR X (VS X.K):=by
 intro value slice pins s U H x y v u Q I rx ry h hs;replace h:=VS.old h;obtain⟨p,xs,i,z,rfl,rfl,hq,he,q⟩:=h;cases rx;obtain⟨t,rfl⟩:=ry;obtain⟨its,r,pl,hz⟩:=I.tuple hq;obtain⟨j,h1,h2,h3,h4,h5⟩:=My he;obtain⟨w,ew,rw'⟩:=r.get h2;have hl:=r.length;have hn:=WZ;have fin:EP X pins U Q w s:=⟨z,H,I,rw',q⟩;exact subscriptTail_builtinR (x:=w) pl.typeIs slot_tuple_getitem.lookup
  (getItem_tuple (j:=j) (Q:=fun r s'=>r=w/\EP X pins U Q r s') pl (by omega) (by omega) (by rw[ZO,<-hl];exact h1) (by simpa using ew) ⟨rfl,fin⟩) hs
theorem Bu:IxR X Sg:=by
 intro value slice pins s U H x y v u Q I rx ry h hs;obtain⟨z,i,c,rfl,rfl,hz,he,q⟩:=h;obtain⟨t,rfl⟩:=rx;obtain⟨t',rfl⟩:=ry;obtain⟨j,h1,h2,h3,h4,h5⟩:=My he;have hl:z.cps.toList.length=z.length:=by simp[Str.length]
 rw[hl]at h1 h4 h5;have hn:=WZ
 exact tail_any (typeIs_str s z t) slot_str_getitem.lookup (getItem_str (c:=c) (by
  have e1:decide (i < -(2 ^ 63:Int))=false:=Zy (by omega);have e2:decide (i ≥ 2 ^ 63)=false:=Zy (by omega);rw[e1,e2,Bool.or_false]) (by rw[h1];simpa using h2) ⟨.str ⟨#[c]⟩,H,I.tok _,⟨_,rfl⟩,q⟩) hs
theorem Bp(its:List Value)(n j:Nat)(u:Value):Obj.mapSeq (·.setIfInBounds j u) {cls:=.type "list",data:=.seq its.toArray n}={cls:=.type "list",data:=.seq (its.set j u).toArray n}:=by
 simp[Obj.mapSeq]
theorem Inv.lst(I:Inv X pins U H s)(h:H p=some (.lst xs)):
  ∃(its:List Value)(n:Nat),Vals xs its/\s.heap.get? p=some {cls:=.type "list",data:=.seq its.toArray n}/\xs.length<=sizeLine:=by
 obtain⟨z,its,n,r,e⟩:=I.hok p _ h;exact⟨its,n,r,e,z⟩
theorem Inv.lstUpd{its its':List Value}(I:Inv X pins U H s)(h:H p=some (.lst xs))(ho:s.heap.get? p=some {cls:=.type "list",data:=.seq its.toArray n})(hf:f {cls:=.type "list",data:=.seq its.toArray n}={cls:=.type "list",data:=.seq its'.toArray n'})(r:Vals ys its')(hz:ys.length<=sizeLine)(t:Nat):
  Inv X pins U (upd H p (.lst ys)) {s with heap:=s.heap.update p f,toks:=t}:=by
 have e:(s.heap.update p f).get? p=some {cls:=.type "list",data:=.seq its'.toArray n'}:=by
  rw[Heap.get?_update_self f ho (by rw[hf] <;> rfl),hf]
 refine I.write (x:=p) (e:=p) (by rw[h];trivial) (.inl rfl) (fun b u hb q=>(Heap.get?_update_other _ _ (Zs hb)).trans q) ⟨_,e⟩ ?_;exact⟨hz,its',n',r,e⟩
def Se:V->V->V->Hp->(Hp->Prop)->Prop:=fun o i v H Q=>∃p xs k j,o=.ref p/\i=.int k/\H p=some (.lst xs)/\ixN xs.length k=some j/\Q (upd H p (.lst (xs.set j v)))
theorem set_list:A3 X Se:=by
 intro pins s U H o i v ov iv u Q I ro ri rv h;obtain⟨p,xs,k,j,rfl,rfl,hp,hj,q⟩:=h;cases ro;obtain⟨t,rfl⟩:=ri;obtain⟨its,n,r,ho,hz⟩:=I.lst hp;obtain⟨h1,h2,h3,h4⟩:=Do hj;have hl:=r.length;have hn:=WZ
 have I':Inv X pins U (upd H p (.lst (xs.set j v))) {s with heap:=s.heap.update p (Obj.mapSeq (·.setIfInBounds j u))}:=
  I.lstUpd hp ho (Bp its n j u) (r.set rv j) (by rw[List.length_set];exact hz) s.toks
 by_cases h0:0<=k
 .have hk:k.toNat=j:=by
   rw[seqIndex_of h0 h4]at h1;exact ZT h1
  exact W.ki_setAt ho h0 (by omega) (by rw[ZO,<-hl];exact h4) (by rw[hk];exact⟨_,I',q⟩)
 .have hk:(k+(its.toArray.size:Int)).toNat=j:=by
   rw[seqIndex_neg (by omega) h3]at h1;rw[ZO,<-hl];exact ZT h1
  exact W.ki_setBack ho (by omega) (by rw[ZO,<-hl];exact h3) (by omega) (by rw[hk];exact⟨_,I',q⟩)
theorem ME(lo hi:Option Int)(n:Nat):(sliceBounds lo hi none n).1=((HT.sIx n 0 lo:Nat):Int)/\(sliceBounds lo hi none n).2.1=((HT.sIx n n hi:Nat):Int)/\(sliceBounds lo hi none n).2.2=1:=by
 refine⟨?_,?_,rfl⟩
 .cases lo with
  |none=>simp[sliceBounds,HT.sIx]
  |some i=>
   simp only[sliceBounds,HT.sIx,Option.getD_none,show(1:Int) > 0 by decide,if_true]
   by_cases h:i<0
   .simp only[h,if_true] <;> omega
   .simp only[h,if_false] <;> omega
 .cases hi with
  |none=>simp[sliceBounds,HT.sIx]
  |some i=>
   simp only[sliceBounds,HT.sIx,Option.getD_none,show(1:Int) > 0 by decide,if_true]
   by_cases h:i<0
   .simp only[h,if_true] <;> omega
   .simp only[h,if_false] <;> omega
theorem Tx(its:List Value)(lo hi:Option Int):slicePick its.toArray lo hi none=((its.drop (HT.sIx its.length 0 lo)).take (HT.sIx its.length its.length hi-HT.sIx its.length 0 lo)).toArray:=by
 obtain⟨h1,h2,h3⟩:=ME lo hi its.toArray.size;unfold slicePick;rw[h1,h2,h3];simp only[sliceRange_one,pick_run,ZO] <;> rfl
def Ci(K:W.Frag):V->Option Int->Option Int->Hp->VK->Prop:=fun x lo hi H Q=>∃a xs,x=.ref a/\SqL K H a xs/\∀p,H p=none->Q (.ref p) (upd H p (.lst (UU xs lo hi)))
theorem MH:SlR X (Ci X.K):=by
 intro pins s U H x v vl vu lo hi sl Q I rx hs pl pu h;obtain⟨a,xs,rfl,hx,q⟩:=h;cases rx;obtain⟨its,r,ht,hz⟩:=I.list hx;have hlen:=r.length;refine⟨"list",_,slot_list_getitem.lookup,ht.isList.typeIs,?_⟩;refine wpAny_getItem_list_slice ht.isList hs pl pu .none (by simp) ?_ (by rw[ZO] <;> omega);rw[Tx,<-hlen];refine⟨.ref s.heap.objs.size,_,I.laid (t':=s.toks) (o:=.lst (UU xs lo hi)) (fun b ob q=>ZE _ q) (ZG _) ?_,rfl,q _ (I.hok.fresh (ZG _))⟩;exact⟨Zb (Ww xs lo hi) hz,_,0,(r.drop (HT.sIx xs.length 0 lo)).take (HT.sIx xs.length xs.length hi-HT.sIx xs.length 0 lo),ZY _ rfl⟩
def X5:V->Bool
 |.non=>true
 |.bl _=>true
 |.int _=>true
 |.str _=>true
 |_=>false
def eqV:V->V->Bool
 |.non,.non=>true
 |.bl a,.bl b=>a==b
 |.bl a,.int b=>(if a then 1 else 0)==b
 |.int a,.bl b=>a==(if b then 1 else 0)
 |.int a,.int b=>a==b
 |.str a,.str b=>a==b
 |_,_=>false
theorem Qv(ry:RelV y u)(rx:RelV x v)(fy:X5 y=true)(fx:X5 x=true):SeqAt.EqAt A s u v (eqV y x):=by
 cases y with
 |non=>
  cases ry
  cases x with
  |non=>cases rx;exact SeqAt.EqAt.same _
  |bl b=>cases rx;exact SeqAt.EqAt.none_bool b
  |int b=>obtain⟨t,rfl⟩:=rx;exact SeqAt.EqAt.none_int b t
  |str b=>obtain⟨t,rfl⟩:=rx;exact SeqAt.EqAt.none_str b t
  |_=>exact Zr (show false=true from fx) Zi
 |bl a=>
  cases ry
  cases x with
  |non=>cases rx;exact SeqAt.EqAt.bool_none a
  |bl b=>cases rx;exact SeqAt.EqAt.bool_bool a b
  |int b=>obtain⟨t,rfl⟩:=rx;exact SeqAt.EqAt.bool_int a b t
  |str b=>obtain⟨t,rfl⟩:=rx;exact SeqAt.EqAt.bool_str a b t
  |_=>exact Zr (show false=true from fx) Zi
 |int a=>
  obtain⟨t',rfl⟩:=ry
  cases x with
  |non=>cases rx;exact SeqAt.EqAt.int_none a t'
  |bl b=>cases rx;exact SeqAt.EqAt.int_bool a t' b
  |int b=>obtain⟨t,rfl⟩:=rx;exact SeqAt.EqAt.int_int a t' b t
  |str b=>obtain⟨t,rfl⟩:=rx;exact SeqAt.EqAt.int_str a t' b t
  |_=>exact Zr (show false=true from fx) Zi
 |str a=>
  obtain⟨t',rfl⟩:=ry
  cases x with
  |non=>cases rx;exact SeqAt.EqAt.str_none a t'
  |bl b=>cases rx;exact SeqAt.EqAt.str_bool a t' b
  |int b=>obtain⟨t,rfl⟩:=rx;exact SeqAt.EqAt.str_int a t' b t
  |str b=>obtain⟨t,rfl⟩:=rx;exact SeqAt.EqAt.str_str a t' b t
  |_=>exact Zr (show false=true from fx) Zi
 |_=>exact Zr (show false=true from fy) Zi
def eqU(x:V)(u:Value):Bool:=match u with
 |.none=>eqV .non x
 |.bool b=>eqV (.bl b) x
 |.int i _=>eqV (.int i) x
 |.str z _=>eqV (.str z) x
 |_=>false
theorem KZ(r:RelV y u)(f:X5 y=true):eqU x u=eqV y x:=by
 cases y with
 |non=>cases r;rfl
 |bl b=>cases r;rfl
 |int i=>obtain⟨t,rfl⟩:=r;rfl
 |str z=>obtain⟨t,rfl⟩:=r;rfl
 |_=>exact Zr (show false=true from f) Zi
theorem X9:∀{xs:List V}{us:List Value},Vals xs us->xs.all X5=true->us.any (eqU x)=xs.any fun y=>eqV y x
 |_,_,.nil,_=>rfl
 |y::xs,u::us,.cons r t,f=>by
  rw[List.all_cons,ZZ]at f;rw[List.any_cons,List.any_cons,KZ r f.1,X9 t f.2]
theorem U1(rx:RelV x v)(fx:X5 x=true):∀{xs:List V}{us:List Value},Vals xs us->xs.all X5=true->∀u∈us,SeqAt.EqAt A s u v (eqU x u)
 |_,_,.nil,_=>fun u hu=>by cases hu
 |y::xs,u::us,.cons r t,f=>fun u' hu=>by
  rw[List.all_cons,ZZ]at f;rcases Zd.mp hu with rfl|hu
  .rw [KZ r f.1];exact Qv r rx f.1 fx
  .exact U1 rx fx t f.2 u' hu
def inV(x:V)(xs:List V):Bool:=xs.any fun y=>eqV y x
def rIn(K:W.Frag)(neg:Bool):R2:=fun x y H Q=>∃p xs,y=.ref p/\(SqL K H p xs\/SqT K H p xs)/\X5 x=true/\xs.all X5=true/\Q (.bl (if neg then !inV x xs else inV x xs)) H
theorem XF:OpR X (compareOp .In) (rIn X.K false):=by
 intro pins s U H x y v u Q I rx ry h;obtain⟨p,xs,rfl,hq,fx,fs,q⟩:=h;cases ry;rcases hq with hq|hq
 .obtain ⟨its,r,pl,hz⟩:=I.list hq
  refine SeqAt.in_listAt (eqU x) pl.isList (fun w hw=>U1 rx fx r fs w (by simpa using hw)) ⟨.bl _,H,I,rfl,?_⟩;rw[show its.toArray.any (eqU x)=its.any (eqU x) by simp,X9 r fs];exact q
 .obtain ⟨its,r,pl,hz⟩:=I.tuple hq
  refine SeqAt.in_tupleAt (eqU x) pl (fun w hw=>U1 rx fx r fs w (by simpa using hw)) ⟨.bl _,H,I,rfl,?_⟩;rw[show its.toArray.any (eqU x)=its.any (eqU x) by simp,X9 r fs];exact q
theorem Jp:OpR X (compareOp .NotIn) (rIn X.K true):=by
 intro pins s U H x y v u Q I rx ry h;obtain⟨p,xs,rfl,hq,fx,fs,q⟩:=h;cases ry;rcases hq with hq|hq
 .obtain ⟨its,r,pl,hz⟩:=I.list hq
  refine SeqAt.notIn_listAt (eqU x) pl.isList (fun w hw=>U1 rx fx r fs w (by simpa using hw)) ⟨.bl _,H,I,rfl,?_⟩;rw[show its.toArray.any (eqU x)=its.any (eqU x) by simp,X9 r fs];exact q
 .obtain ⟨its,r,pl,hz⟩:=I.tuple hq
  refine SeqAt.notIn_tupleAt (eqU x) pl (fun w hw=>U1 rx fx r fs w (by simpa using hw)) ⟨.bl _,H,I,rfl,?_⟩;rw[show its.toArray.any (eqU x)=its.any (eqU x) by simp,X9 r fs];exact q
theorem Y3:Jb X (.builtin "len") (fun xs H Q=>∃p ys,xs=[.ref p]/\(SqL X.K H p ys\/SqT X.K H p ys)/\Q (.int ys.length) H):=by
 intro pins s U H xs us Q I r h;obtain⟨p,ys,rfl,hq,q⟩:=h;obtain⟨u,rfl,rx⟩:=vals1 r;cases rx;have hn:=WZ;rcases hq with hq|hq
 .obtain ⟨its,r',pl,hz⟩:=I.list hq
  have hlen:=r'.length;exact Calls.call_len_list pl.isList (by simp only[ZO] <;> omega) ⟨.int ys.length,H,I.tok _,⟨s.toks+1,by rw[ZO,hlen]⟩,q⟩
 .obtain ⟨its,r',pl,hz⟩:=I.tuple hq
  have hlen:=r'.length;exact len_tuple pl (by simp only[ZO] <;> omega) ⟨.int ys.length,H,I.tok _,⟨s.toks+1,by rw[ZO,hlen]⟩,q⟩
theorem Mv:Jb X (.builtin "len") (fun xs H Q=>∃z,xs=[.str z]/\z.length<=sizeLine/\Q (.int z.length) H):=by
 intro pins s U H xs us Q I r h;obtain⟨z,rfl,hz,q⟩:=h;obtain⟨u,rfl,t,rfl⟩:=vals1 r;have hn:=WZ;exact len_str (by omega) ⟨.int z.length,H,I.tok _,⟨_,rfl⟩,q⟩
theorem Jr:Jb X (.type "list") (fun xs H Q=>∃p ys,xs=[.ref p]/\(SqL X.K H p ys\/SqT X.K H p ys)/\∀l,H l=none->Q (.ref l) (upd H l (.lst ys))):=by
 intro pins s U H xs us Q I r h;obtain⟨p,ys,rfl,hq,q⟩:=h;obtain⟨u,rfl,rx⟩:=vals1 r;cases rx;have fin:∀(its:List Value),Vals ys its->ys.length<=sizeLine->∀(h':Heap)(c':Nat),(∀b o',s.heap.get? b=some o'->h'.get? b=some o')->
   h'.get? s.heap.objs.size=some {cls:=.type "list",dict:=none,data:=.seq its.toArray c',slots:= #[]}->EP X pins U Q (.ref s.heap.objs.size) {s with heap:=h'}:=fun its r' hz h' c' kp e=>
  ⟨.ref s.heap.objs.size,_,I.laid (t':=s.toks) kp (ZG _) (show VT X.prog X.w _ h' _ (.lst ys)from⟨hz,its,c',r',e⟩),rfl,q _ (I.hok.fresh (ZG _))⟩
 rcases hq with hq|hq
 .obtain ⟨its,r',pl,hz⟩:=I.list hq
  have hlen:=r'.length;obtain⟨o,ho,hc,n,hd⟩:=pl.isList;exact call_list_seq p (.inl rfl) ho hc hd (fun h' c' kp e=>fin its r' hz h' c' kp e) (by simp only[ZO] <;> omega)
 .obtain ⟨its,r',pl,hz⟩:=I.tuple hq
  have hlen:=r'.length;obtain⟨o,ho,hc,n,hd⟩:=pl;exact call_list_seq p (.inr rfl) ho hc hd (fun h' c' kp e=>fin its r' hz h' c' kp e) (by simp only[ZO] <;> omega)
theorem Vq:Jb X (.type "tuple") (fun xs H Q=>∃p ys,xs=[.ref p]/\((SqL X.K H p ys/\∀l,H l=none->Q (.ref l) (upd H l (.tup ys)))\/(SqT X.K H p ys/\Q (.ref p) H))):=by
 intro pins s U H xs us Q I r h;obtain⟨p,ys,rfl,h⟩:=h;obtain⟨u,rfl,rx⟩:=vals1 r;cases rx;rcases h with⟨hq,q⟩|⟨hq,q⟩
 .obtain ⟨its,r',pl,hz⟩:=I.list hq
  have hlen:=r'.length;refine call_tuple_list pl.isList (fun h' kp=>?_) (by simp only[ZO] <;> omega);have I1:Inv X pins U H {s with heap:=h'}:=I.kept (t':=s.toks) kp
  have I2:Inv X pins U (upd H h'.objs.size (.tup ys)) {s with heap:=h'.push {cls:=.type "tuple",data:=.seq its.toArray}}:=
   I1.laid (t':=s.toks) (fun b o e=>ZE _ e) (ZG _) (show VT X.prog X.w _ _ _ (.tup ys)from⟨hz,its,r',W0.new _ _⟩)
  exact⟨.ref h'.objs.size,_,I2,rfl,q _ (I1.hok.fresh (ZG _))⟩
 .obtain ⟨its,r',pl,hz⟩:=I.tuple hq
  exact call_tuple_same pl ⟨.ref p,H,I,rfl,q⟩
def tyV(K:W.Frag)(T:String)(x:V)(H:Hp):Prop:=match x with
 |.str _=>T="str"
 |.int _=>T="int"
 |.ref p=>(T="list" /\∃xs,SqL K H p xs)\/(T="tuple" /\∃o,K.lookup p=some o/\o.cls=.type "tuple" /\o.dict=none) \/
   (T="dict" /\((∃kvs,H p=some (.dK kvs)) \/ ∃kvs,H p=some (.dT kvs)))\/(T="set" /\∃S n,H p=some (.set S n))
 |_=>False
theorem FC(I:Inv X pins U H s)(r:RelV x v)(ty:tyV X.K T x H):
  s.TypeIs v T/\∀a,v=.ref a->∃ob,s.heap.get? a=some ob/\ob.dict=none:=by
 cases x with
 |str z=>
  obtain⟨t,rfl⟩:=r;cases(show T="str" from ty);exact⟨typeIs_str s z t,fun _ e=>nomatch e⟩
 |int i=>
  obtain⟨t,rfl⟩:=r;cases(show T="int" from ty);exact⟨typeIs_int s i t,fun _ e=>nomatch e⟩
 |ref p=>
  cases r;rcases ty with⟨rfl,xs,hq⟩|⟨rfl,o,hk,hc,hd⟩|⟨rfl,hk⟩|⟨rfl,S,n,hk⟩
  .obtain ⟨its,_,pl,_⟩:=I.list hq
   refine⟨pl.isList.typeIs,fun a e=>?_⟩;cases e;obtain⟨o,n,e,c,hd,_⟩:=pl;exact⟨o,e,hd⟩
  .refine ⟨⟨o,I.kIn p o hk,hc⟩,fun a e=>?_⟩
   cases e;exact⟨o,I.kIn _ o hk,hd⟩
  .have z:∃o,s.heap.get? p=some o/\o.ExactDict:=by
    rcases hk with⟨kvs,hk⟩|⟨kvs,hk⟩
    .obtain ⟨_,_,_,_,o,_,_,e,ex,_⟩:=I.hok p _ hk
     exact⟨o,e,ex⟩
    .obtain ⟨_,_,_,_,o,_,_,e,ex,_⟩:=I.hok p _ hk
     exact⟨o,e,ex⟩
   obtain⟨o,e,ex⟩:=z;refine⟨⟨o,e,ex.1⟩,fun a e2=>?_⟩;cases e2;exact⟨o,e,ex.2.1⟩
  .obtain ⟨o,_,_,_,e,ex,_⟩:=I.hok p _ hk
   refine⟨⟨o,e,ex.1⟩,fun a e2=>?_⟩;cases e2;exact⟨o,e,ex.2.1⟩
 |_=>exact False.elim ty
def CI(K:W.Frag)(T:String)(r:V->List V->Hp->VK->Prop)(to:TE):TE:=fun U H Q=>to U H fun x H1=>tyV K T x H1/\r x [] H1 Q
def tBM(K:W.Frag)(T:String)(r:V->List V->Hp->VK->Prop)(to:TE)(t:TA):TE:=fun U H Q=>to U H fun x H1=>tyV K T x H1/\t U H1 fun xs H2=>r x xs H2 Q
variable{T id:String}
theorem IH(pa:PlainAttrs T)(slot:Slot T name id)(hty:typeOf (.builtin id)=pure (.type "method_descriptor"))(hm:MtR X id r)(ho:PE X o to)(hbase:attributeBase o name X.env (eval o X.env)=eval o X.env:=by rfl)(hline:(apos.endLine==cpos.line)=true:=by rfl):PE X (.Call (.Attribute o name apos) [] [] cpos) (CI X.K T r to):=by
 intro pins s U H Q I h;refine wpAny_Call_method0_late hbase hline (thn (ho pins s U H _ I h) fun v s1 ⟨x,H1,I1,r1,ty,q1⟩=>?_);obtain⟨h1,h2⟩:=FC I1 r1 ty;exact⟨T,id,pa,slot,hty,h1,h2,Calls.callWith_builtin rfl (PySem.evalArgs_none (hm pins s1 U H1 x [] v [] Q I1 r1 .nil q1))⟩
theorem XU(pa:PlainAttrs T)(slot:Slot T name id)(hty:typeOf (.builtin id)=pure (.type "method_descriptor"))(hm:MtR X id r)(ho:PE X o to)(ha:PA X (e::es) t)(hbase:attributeBase o name X.env (eval o X.env)=eval o X.env:=by rfl)(hfew:((backTo cpos (starEach (e::es) X.env)).all (fun x=>!x.1) && (backToKw cpos (keywordEach [] X.env)).all (fun x=>x.1.isSome)
   && decide ((e::es).length+([]:List Keyword).length+(if([]:List Keyword).isEmpty then 0 else 1)<30))=true:=by rfl)(hline:(apos.endLine==cpos.line)=true:=by rfl)(hs:starEach (e::es) X.env=(false,eval e X.env)::starEach es X.env:=by rfl)(hplain:(backTo cpos (starEach es X.env)).any (·.1)=false:=by rfl):
  PE X (.Call (.Attribute o name apos) (e::es) [] cpos) (tBM X.K T r to t):=by
 intro pins s U H Q I h;refine wpAny_Call_method_late hbase hfew hline rfl (thn (ho pins s U H _ I h) fun v s1 ⟨x,H1,I1,r1,ty,q1⟩=>?_);obtain⟨h1,h2⟩:=FC I1 r1 ty;refine⟨T,id,pa,slot,hty,h1,h2,?_⟩;have hA:=ha cpos pins s1 U H1 _ I1 q1;rw[hs]at hA |-;refine Calls.callWith_builtin (by show(false || (backTo cpos (starEach es X.env)).any (·.1))=false;rw[hplain] <;> rfl) (Calls.evalArgs_plain ?_);exact thn hA fun us s2 ⟨vs,H2,I2,r2,q2⟩=>hm pins s2 U H2 x vs v us Q I2 r1 r2 q2
end
def MtM(X:Cx)(id:String)(r:V->List V->Hp->VK->Prop):Prop:=
 ∀(pins:List (Addr×Obj))(s:Shared)(U:St)(H:Hp)(x:V)(xs:List V)(v:Value)(us:List Value)(Q:VK),Inv X pins U H s->RelV x v->Vals xs us->r x xs H Q->
  wpAny (model X.prog X.w) X.A (call (.builtin id) (v::us)) (EP X pins U Q) X.xe s
theorem Vals.one:∀{x:V}{us:List Value},Vals [x] us->∃u,us=[u]/\RelV x u
 |_,_,.cons r .nil=>⟨_,rfl,r⟩
theorem Vals.zero:∀{us:List Value},Vals [] us->us=[]
 |_,.nil=>rfl
theorem Vals.dropLast(h:Vals xs us):Vals xs.dropLast us.dropLast:=by
 induction h with
 |nil=>exact .nil
 |cons r t ih=>
  cases t with
  |nil=>exact .nil
  |cons q t'=>exact .cons r ih
theorem Vals.rep(h:Vals xs us):∀k:Nat,Vals (List.replicate k xs).flatten (List.replicate k us).flatten
 |0=>.nil
 |k+1=>by
  rw[List.replicate_succ,List.replicate_succ,List.flatten_cons,List.flatten_cons];exact Vals.append h (Vals.rep h k)
theorem B2(l:List α):l.eraseIdx (l.length-1)=l.dropLast:=by
 induction l with
 |nil=>rfl
 |cons a r ih=>
  cases r with
  |nil=>rfl
  |cons b r=>
   have e:(a::b::r).length-1=((b::r).length-1)+1:=by
    have h1:(a::b::r).length=r.length+2:=rfl;have h2:(b::r).length=r.length+1:=rfl;omega
   rw[e,List.eraseIdx_cons_succ,ih]
   all_goals rfl
theorem foldl_rep(its:List Value):∀(k:Nat)(acc:List Value),
  List.foldl (fun x1 x2=>x1++ x2) acc.toArray (List.replicate k its.toArray)=(acc++ (List.replicate k its).flatten).toArray
 |0,acc=>by simp
 |k+1,acc=>by
  have e:acc.toArray++ its.toArray=(acc++ its).toArray:=by simp
  have e2:(acc++ its)++ (List.replicate k its).flatten=acc++ (List.replicate (k+1) its).flatten:=by
   rw[List.replicate_succ,List.flatten_cons,List.append_assoc]
  rw[<-e2,<-foldl_rep its k (acc++ its),<-e,List.replicate_succ,List.foldl_cons]
section
theorem Inv.lset{its its':List Value}(I:Inv X pins U H s)(hH:H l=some (.lst xs))(e:s.heap.get? l=some {cls:=.type "list",data:=.seq its.toArray n})(hf:f its.toArray=its'.toArray)(hv:Vals ys its')(hz:ys.length<=sizeLine):
  Inv X pins U (upd H l (.lst ys)) {s with heap:=s.heap.update l (Obj.mapSeq f),toks:=t'}:=by
 have q:=PySem.IsL.update e f;rw[hf]at q;refine I.write (x:=l) (e:=l) (by rw[hH];exact trivial) (.inl rfl) (fun b' u hb hu=>(Heap.get?_update_other s.heap (Obj.mapSeq f) (Zs hb)).trans hu) ⟨_,q⟩ ?_;exact⟨hz,its',_,hv,q⟩
theorem Inv.lnew(I:Inv X pins U H s)(hv:Vals ys its)(hz:ys.length<=sizeLine):
  Inv X pins U (upd H s.heap.objs.size (.lst ys)) {s with heap:=s.heap.push {cls:=.type "list",data:=.seq its.toArray},toks:=t'}:=
 I.laid (fun _ _ q=>ZE _ q) (ZG _) ⟨hz,its,0,hv,ZY _ rfl⟩
theorem Inv.fresh(I:Inv X pins U H s):H s.heap.objs.size=none:=I.hok.fresh (ZG _)
theorem Inv.lstM(I:Inv X pins U H s)(hH:H l=some (.lst xs)):xs.length<=sizeLine/\∃(its:List Value)(n:Nat),Vals xs its/\xs.length=its.length/\s.heap.get? l=some {cls:=.type "list",data:=.seq its.toArray n}:=by
 obtain⟨z,its,n,r,e⟩:=I.hok l _ hH;exact⟨z,its,n,r,r.length,e⟩
theorem NQ(h:n<=sizeLine):Builtin.List.listTooLong n=false:=by
 unfold Builtin.List.listTooLong;exact Zy (by omega)
end
section
def LU:V->List V->Hp->VK->Prop:=fun x vs H Q=>∃l xs y,x=.ref l/\vs=[y]/\H l=some (.lst xs)/\xs.length<sizeLine/\Q .non (upd H l (.lst (xs++[y])))
theorem Je:MtM X "list.append" LU:=by
 intro pins s U H x vs v us Q I rx rv h;obtain⟨l,xs,y,rfl,rfl,hH,hz,q⟩:=h;cases rx;obtain⟨u,rfl,ru⟩:=rv.one;obtain⟨z,its,n,r,hl,e⟩:=I.lstM hH;refine call_meets F.slot_list_append ⟨_,e,rfl⟩ F.entry_list_append (F.args_list_append_2 _ _) (PySem.list_append l its.toArray n u (by rw[ZO];omega)) ⟨e,?_⟩;refine⟨.non,_,I.lset (its':=its++[u]) hH e (by simp) (r.append (.cons ru .nil)) ?_,rfl,q⟩;rw[ZL,List.length_singleton];omega
def LT:V->List V->Hp->VK->Prop:=fun x vs H Q=>∃l b xs zs,x=.ref l/\vs=[.ref b]/\H l=some (.lst xs)/\H b=some (.lst zs)/\xs.length+zs.length<=sizeLine/\Q .non (upd H l (.lst (xs++ zs)))
theorem Ed:MtM X "list.extend" LT:=by
 intro pins s U H x vs v us Q I rx rv h;obtain⟨l,b,xs,zs,rfl,rfl,hH,hB,hz,q⟩:=h;cases rx;obtain⟨u,rfl,ru⟩:=rv.one;cases ru;obtain⟨z,its,n,r,hl,e⟩:=I.lstM hH;obtain⟨z2,its2,n2,r2,hl2,e2⟩:=I.lstM hB;have hsz:its.toArray.size+its2.toArray.size<=sizeLine:=by rw[ZO,ZO];omega
 have hlong:¬(!its.toArray.isEmpty && Builtin.List.listTooLong (its.toArray.size+its2.toArray.size))=true:=by
  rw[NQ hsz,Bool.and_false];exact Zi
 refine call_meets F.slot_list_extend ⟨_,e,rfl⟩ F.entry_list_extend (F.args_list_extend_2 _ _)
  (AutoSeq1.list_extend_list_list_0 l its.toArray n b its2.toArray n2 hlong (by rw[ZO];omega) (by omega)) ⟨e,e2,?_⟩
 refine⟨.non,_,I.lset (its':=its++ its2) hH e (by simp) (r.append r2) ?_,rfl,q⟩;rw[ZL];omega
def Cm:V->List V->Hp->VK->Prop:=fun x vs H Q=>∃l xs y,x=.ref l/\vs=[]/\H l=some (.lst xs)/\xs[xs.length-1]?=some y/\Q y (upd H l (.lst xs.dropLast))
theorem Il:MtM X "list.pop" Cm:=by
 intro pins s U H x vs v us Q I rx rv h;obtain⟨l,xs,y,rfl,rfl,hH,hy,q⟩:=h;cases rx;have hus:=rv.zero;subst hus;obtain⟨z,its,n,r,hl,e⟩:=I.lstM hH;obtain⟨u,hu,ru⟩:=r.get hy
 have hy':its.toArray[its.toArray.size-1]?=some u:=by
  show its.toArray[its.length-1]?=some u;rw[<-Array.getElem?_toList,<-hl];exact hu
 refine call_meets F.slot_list_pop ⟨_,e,rfl⟩ F.entry_list_pop (F.args_list_pop_1 _) (MeetsSeq.list_pop_last l its.toArray n u hy' (by rw[ZO];omega)) ⟨e,?_⟩;refine⟨y,_,I.lset (its':=its.dropLast) hH e ?_ r.dropLast ?_,ru,q⟩
 .show its.toArray.eraseIdxIfInBounds (its.toArray.size-1)=its.dropLast.toArray
  rw[ZO,List.eraseIdxIfInBounds_toArray,B2]
 .rw [List.length_dropLast]
  omega
def Cq:R2:=fun x y H Q=>∃l b xs zs,x=.ref l/\y=.ref b/\H l=some (.lst xs)/\H b=some (.lst zs)/\xs.length+zs.length<=sizeLine/\∀p,H p=none->Q (.ref p) (upd H p (.lst (xs++ zs)))
theorem TJ:OpR X (binaryOp .Add) Cq:=by
 intro pins s U H x y v u Q I rx ry h;obtain⟨l,b,xs,zs,rfl,rfl,hH,hB,hz,q⟩:=h;cases rx;cases ry;obtain⟨z,its,n,r,hl,e⟩:=I.lstM hH;obtain⟨z2,its2,n2,r2,hl2,e2⟩:=I.lstM hB;refine PySem.P.add_list e e2 ?_ (by rw[ZO,ZO];omega);have ea:its.toArray++ its2.toArray=(its++ its2).toArray:=by simp
 rw[ea];exact⟨.ref _,_,I.lnew (t':=s.toks) (r.append r2) (by rw[ZL];omega),rfl,q _ I.fresh⟩
def Ck:R2:=fun x y H Q=>∃l k xs,x=.ref l/\y=.int k/\H l=some (.lst xs)/\ -(2 ^ 63)<=k/\k<2 ^ 63/\xs.length*k.toNat<=sizeLine/\
 ∀p,H p=none->Q (.ref p) (upd H p (.lst (List.replicate k.toNat xs).flatten))
theorem len_rep(xs:List α)(k:Nat):(List.replicate k xs).flatten.length=k*xs.length:=by
 induction k with
 |zero=>simp
 |succ k ih=>rw[List.replicate_succ,List.flatten_cons,ZL,ih,Nat.succ_mul,Nat.add_comm]
theorem QK:OpR X (binaryOp .Mult) Ck:=by
 intro pins s U H x y v u Q I rx ry h;obtain⟨l,k,xs,rfl,rfl,hH,h1,h2,hz,q⟩:=h;cases rx;obtain⟨t,rfl⟩:=ry;obtain⟨z,its,n,r,hl,e⟩:=I.lstM hH;have hlen:its.toArray.size*k.toNat<=sizeLine:=by rw[ZO,<-hl];exact hz
 have hcap:¬its.toArray.size*k.toNat > (2 ^ 63-1) / 8:=by
  have:(sizeLine:Nat)<=(2 ^ 63-1) / 8:=by decide
  omega
 have hfit:¬(!Builtin.List.listFitsIndex k)=true:=by
  rw[fitsIndex_both h1 h2];exact Zi
 have hlong:¬Builtin.List.listTooLong (its.toArray.size*k.toNat)=true:=by
  rw[NQ hlen];exact Zi
 have hnew:List.foldl (fun x1 x2=>x1++ x2) #[] (List.replicate (if its.toArray.isEmpty=true then 0 else k.toNat) its.toArray)=(List.replicate k.toNat its).flatten.toArray:=by
  have f0:∀m:Nat,List.foldl (fun x1 x2=>x1++ x2) #[] (List.replicate m its.toArray)=(List.replicate m its).flatten.toArray:=fun m=>by
   have:=foldl_rep its m [];rw[List.nil_append]at this;exact this
  rw[f0]
  cases its with
  |nil=>simp
  |cons a r'=>rw[Zq (by simp)]
 refine wpAny_binaryOp_repeat_ref (T:="list") (U:="int") (by decide) ⟨_,e,rfl⟩ (fun s'=>typeIs_int s' k t) noFill_list_mul F.fills_int_mul F.slot_int_rmul repeat_list F.slot_int_index.lookup
  (call_meets F.slot_int_rmul (typeIs_int s k t) F.entry_int_rmul (F.args_int_rmul_2 _ _) (int___rmul___int_list k t l its.toArray n)
   ⟨e,rfl,⟨_,e,rfl⟩,call_meets F.slot_list_mul ⟨_,e,rfl⟩ F.entry_list_mul (F.args_list_mul_2 _ _) (AutoListH.list___mul___list_int_3 l its.toArray n k t hfit hcap hlong) ⟨e,?_⟩⟩)
 rw[hnew];exact⟨.ref _,_,I.lnew (t':=s.toks) (r.rep k.toNat) (by rw[len_rep,Nat.mul_comm];exact hz),rfl,q _ I.fresh⟩
end
section
set_option maxRecDepth 100000 in
end
section
variable{κ:Type}[DecidableEq κ]
def VF(kvs:List (κ×V))(k:κ):Option V:=(kvs.find? fun kv=>decide (kv.1=k)).map (·.2)
def putK(kvs:List (κ×V))(k:κ)(v:V):List (κ×V):=
 if(kvs.any fun kv=>decide (kv.1=k))=true then kvs.map (fun kv=>if kv.1=k then(kv.1,v)else kv)else kvs++[(k,v)]
theorem Vw{p:κ×V}(e:p.1=k):VF (p::r) k=some p.2:=by simp[VF,List.find?_cons,e]
theorem Vx{p:κ×V}(e:¬p.1=k):VF (p::r) k=VF r k:=by simp[VF,List.find?_cons,e]
theorem Us(k:κ):∀kvs:List (κ×V),(kvs.any fun kv=>decide (kv.1=k))=(VF kvs k).isSome
 |[]=>rfl
 |p::r=>by
  rw[List.any_cons]
  by_cases e:p.1=k
  .simp only[Vw e,decide_eq_true e,Bool.true_or,Option.isSome_some]
  .rw [Vx e,Zy e,Bool.false_or];exact Us k r
theorem M5(k j:κ)(y:V):∀kvs:List (κ×V),VF (kvs.map fun kv=>if kv.1=k then(kv.1,y)else kv) j=(VF kvs j).map fun x=>if j=k then y else x
 |[]=>rfl
 |p::r=>by
  have ih:=M5 k j y r;rw[ZV]
  by_cases h:p.1=k
  .rw [Zp h]
   by_cases e:p.1=j
   .rw [Vw (p:=(p.1,y)) e,Vw e,Option.map_some,Zp (e.symm.trans h)]
   .rw [Vx (p:=(p.1,y)) e,Vx e,ih]
  .rw [Zq h]
   by_cases e:p.1=j
   .rw [Vw (p:=p) e,Vw e,Option.map_some,Zq (fun z=>h (e.trans z))]
   .rw [Vx (p:=p) e,Vx e,ih]
theorem RF(k j:κ)(y:V):∀kvs:List (κ×V),VF kvs k=none->VF (kvs++[(k,y)]) j=if j=k then some y else VF kvs j
 |[],_=>by
  by_cases e:k=j
  .rw [Zp e.symm];exact Vw (p:=(k,y)) e
  .rw [Zq (fun z=>e z.symm)];exact Vx (p:=(k,y)) e
 |p::r,hn=>by
  rw[List.cons_append];have hk:¬p.1=k:=fun z=>by rw[Vw z]at hn;cases hn
  rw[Vx hk]at hn;have ih:=RF k j y r hn
  by_cases e:p.1=j
  .rw [Vw e,Vw e,Zq (fun z=>hk (e.trans z))]
  .rw [Vx e,Vx e,ih]
theorem Jt(kvs:List (κ×V))(k j:κ)(y:V):VF (putK kvs k y) j=if j=k then some y else VF kvs j:=by
 unfold putK
 by_cases a:(kvs.any fun kv=>decide (kv.1=k))=true
 .rw [Zp a,M5]
  rw[Us]at a
  by_cases e:j=k
  .obtain ⟨x,hx⟩:=Option.isSome_iff_exists.mp a
   rw[Zp e,e,hx,Option.map_some,Zp rfl]
  .rw [Zq e]
   cases VF kvs j with
   |none=>rfl
   |some x=>rw[Option.map_some,Zq e]
 .rw [Zq a]
  refine RF k j y kvs ?_;rw[Us]at a
  cases q:VF kvs k with
  |none=>rfl
  |some x=>rw[q]at a;exact(a rfl).elim
theorem Vn(kvs:List (κ×V))(k:κ)(v:V):(putK kvs k v).length<=kvs.length+1:=by
 unfold putK
 split
 .rw [ZA];omega
 .rw [ZL,Zf,List.length_nil];omega
theorem Xx{kvs:List (κ×V)}(v:V)(h:VF kvs k=none):putK kvs k v=kvs++[(k,v)]:=by
 unfold putK;rw[Us,h];exact Zq (by decide)
theorem Uq.isSome_eq(r:Uq o u):o.isSome=u.isSome:=by
 cases o with
 |none=>cases u with
  |none=>rfl
  |some _=>exact(show False from r).elim
 |some _=>cases u with
  |none=>exact(show False from r).elim
  |some _=>rfl
theorem Uq.getD(r:Uq o u)(rd:RelV d d'):RelV (o.getD d) (u.getD d'):=by
 cases o with
 |none=>cases u with
  |none=>exact rd
  |some _=>exact(show False from r).elim
 |some _=>cases u with
  |none=>exact(show False from r).elim
  |some _=>exact r
theorem KV.val(r:KV kvs vs)(k:κ):Uq (VF kvs k) (valueAt vs k):=by
 unfold KV at r
 induction r with
 |nil=>exact True.intro
 | @cons p q ps qs h t ih=>
  obtain⟨h1,h2⟩:=h
  by_cases e:p.1=k
  .have e':q.1=k:=h1.symm.trans e
   have b:valueAt (q::qs) k=some q.2:=by simp[valueAt,List.find?_cons,e']
   rw[Vw e,b];exact h2
  .have e':¬q.1=k:=fun z=>e (h1.trans z)
   have b:valueAt (q::qs) k=valueAt qs k:=by simp[valueAt,List.find?_cons,e']
   rw[Vx e,b];exact ih
theorem KV.any(r:KV kvs vs)(k:κ):(kvs.any fun kv=>decide (kv.1=k))=vs.any fun kv=>decide (kv.1=k):=by
 unfold KV at r
 induction r with
 |nil=>rfl
 |cons h t ih=>rw[List.any_cons,List.any_cons,ih,h.1]
theorem KV.repl(r:KV kvs vs)(k:κ)(ry:RelV y u):
  KV (kvs.map fun kv=>if kv.1=k then(kv.1,y)else kv) (vs.map fun kv=>if kv.1=k then(kv.1,u)else kv):=by
 unfold KV at r |-
 induction r with
 |nil=>exact .nil
 | @cons p q ps qs h t ih=>
  rw[ZV,ZV];refine .cons ?_ ih;obtain⟨h1,h2⟩:=h
  by_cases e:p.1=k
  .rw [Zp e,Zp (h1.symm.trans e)];exact⟨h1,ry⟩
  .rw [Zq e,Zq (fun z=>e (h1.trans z))];exact⟨h1,h2⟩
theorem KV.put(r:KV kvs vs)(k:κ)(ry:RelV y u):KV (putK kvs k y) (stored vs k u):=by
 unfold putK stored;rw[r.any k]
 by_cases e:(vs.any fun kv=>decide (kv.1=k))=true
 .rw [Zp e,Zp e];exact r.repl k ry
 .rw [Zq e,Zq e];exact Paired.snoc r ⟨rfl,ry⟩
theorem KV.keys{kvs:List (κ×V)}(r:KV kvs vs):kvs.map (·.1)=vs.map (·.1):=by
 unfold KV at r
 induction r with
 |nil=>rfl
 |cons h t ih=>rw[ZV,ZV,ih,h.1]
theorem KV.length(r:KV kvs vs):kvs.length=vs.length:=Paired.length r
end
theorem U4(r:RelV (kV k) u):(Y9 P w).is k u=true:=by
 cases k with
 |inl i=>obtain⟨t,e⟩:=(show ∃t,u=Value.int i t from r);subst e;exact NU P w i t
 |inr x=>obtain⟨t,e⟩:=(show ∃t,u=Value.str x t from r);subst e;exact NT P w x t
theorem RU:∀{ks:List Key}{us:List Value},Vals (ks.map kV) us->ItemsAre (Y9 P w) ks us
 |[],_,r=>by rw[List.map_nil]at r;cases r;exact .nil
 |k::ks,_,r=>by
  rw[ZV]at r
  cases r with
  |cons h t=>exact .cons (U4 h) (RU t)
abbrev KT(H:Hp):List (List Key×V)->List (List Key×Addr×Value)->Prop:=Paired fun p q=>p.1=q.1/\H q.2.1=some (.tup (p.1.map kV))/\RelV p.2 q.2.2
theorem KT.val(r:KT H kvs xs)(k:List Key):Uq (VF kvs k) ((atKey xs k).map (·.2)):=by
 induction r with
 |nil=>exact True.intro
 | @cons p q ps qs h t ih=>
  obtain⟨h1,_,h2⟩:=h
  by_cases e:p.1=k
  .have e':q.1=k:=h1.symm.trans e
   have b:atKey (q::qs) k=some q.2:=by simp[atKey,List.find?_cons,e']
   rw[Vw e,b];exact h2
  .have e':¬q.1=k:=fun z=>e (h1.trans z)
   have b:atKey (q::qs) k=atKey qs k:=by simp[atKey,List.find?_cons,e']
   rw[Vx e,b];exact ih
theorem KT.repl(r:KT H kvs xs)(k:List Key)(ry:RelV y u):
  KT H (kvs.map fun kv=>if kv.1=k then(kv.1,y)else kv) (xs.map (putAt k u)):=by
 induction r with
 |nil=>exact .nil
 | @cons p q ps qs h t ih=>
  rw[ZV,ZV];refine .cons ?_ ih;obtain⟨h1,h2,h3⟩:=h;unfold putAt
  by_cases e:p.1=k
  .rw [Zp e,Zp (h1.symm.trans e)];exact⟨h1,h2,ry⟩
  .rw [Zq e,Zq (fun z=>e (h1.trans z))];exact⟨h1,h2,h3⟩
theorem KT.put(r:KT H kvs xs)(k:List Key)(hb:H b=some (.tup (k.map kV)))(ry:RelV y u):
  KT H (putK kvs k y) (storedH xs k b u):=by
 have e:(kvs.any fun kv=>decide (kv.1=k))=(atKey xs k).isSome:=by
  rw[Us,(r.val k).isSome_eq,Option.isSome_map]
 unfold putK storedH;rw[e]
 by_cases q:(atKey xs k).isSome=true
 .rw [Zp q,Zp q];exact r.repl k ry
 .rw [Zq q,Zq q];exact Paired.snoc r ⟨rfl,hb,ry⟩
theorem KT.keeps(r:KT H kvs xs)(ht:∀b ys,H b=some (.tup ys)->H' b=some (.tup ys)):KT H' kvs xs:=
 Paired.mapP r fun _ _ z=>⟨z.1,ht _ _ z.2.1,z.2.2⟩
section
theorem Ow(ok:HOk P w H h)(e:Rd H a u):VT P w H h a u:=e.ok ok
theorem Wv(ok:HOk P w H h)(e:Rd H a (.dK kvs)):kvs.length<=sizeLine/\(a==sysModules)=false/\∃vs,KV kvs vs/\h.DictOf (Y9 P w) a vs:=
 show VT P w H h a (.dK kvs)from Ow ok e
theorem Kh(ok:HOk P w H h)(e:H a=some (.dK kvs)):kvs.length<=sizeLine/\(a==sysModules)=false/\∃vs,KV kvs vs/\h.DictOf (Y9 P w) a vs:=Wv ok (.inl e)
theorem Wc(ok:HOk P w H h)(e:H a=some (.tup (ks.map kV))):(tupleKind (Y9 P w)).is h ks a:=by
 obtain⟨_,its,r,o,h1,_,h2,n,h3⟩:=(show VT P w H h a (.tup (ks.map kV))from ok a _ e);exact⟨o,its.toArray,n,h1,h2,h3,by simpa using RU r⟩
theorem Tj(ok:HOk P w H h)(e:Rd H a (.dT kvs)):kvs.length<=sizeLine/\(a==sysModules)=false/\
  ∃xs,KT H kvs xs/\h.DictOfH (tupleKind (Y9 P w)) a xs:=by
 obtain⟨z,y,xs,r,o,es,ep,h1,h2,h3,h4,h5⟩:=(show VT P w H h a (.dT kvs)from Ow ok e);refine⟨z,y,xs,r,o,es,ep,h1,h2,h3,h4,fun x hx=>?_,h5⟩
 have all:∀{l:List (List Key×V)}{m:List (List Key×Addr×Value)},KT H l m->∀x∈m,(tupleKind (Y9 P w)).is h x.1 x.2.1:=by
  intro l m q
  induction q with
  |nil=>intro x hx;exact nomatch hx
  | @cons p q ps qs hq t ih=>
   intro x hx;rcases Zd.mp hx with e|hx
   .subst e
    exact Wc ok (by rw[<-hq.1];exact hq.2.1)
   .exact ih x hx
 exact all r x hx
theorem Ao(ok:HOk P w H h)(e:H a=some (.dT kvs)):kvs.length<=sizeLine/\(a==sysModules)=false/\
  ∃xs,KT H kvs xs/\h.DictOfH (tupleKind (Y9 P w)) a xs:=Tj ok (.inl e)
end
def Vh(H:Hp)(a:Addr)(y:V)(r:Option V):Prop:=
 (∃kvs k,Rd H a (.dK kvs)/\y=kV k/\r=VF kvs k) \/ ∃kvs k b,Rd H a (.dT kvs)/\y=.ref b/\H b=some (.tup (k.map kV))/\r=VF kvs k
def J5(H:Hp)(a:Addr)(y v:V)(H':Hp):Prop:=
 (∃kvs k,H a=some (.dK kvs)/\y=kV k/\kvs.length<sizeLine/\H'=upd H a (.dK (putK kvs k v))) \/
 ∃kvs k b,H a=some (.dT kvs)/\y=.ref b/\H b=some (.tup (k.map kV))/\kvs.length<sizeLine/\H'=upd H a (.dT (putK kvs k v))
theorem Vh.k{k:Key}(e:H a=some (.dK kvs)):Vh H a (kV k) (VF kvs k):=.inl ⟨kvs,k,.inl e,rfl,rfl⟩
theorem Vh.t{k:List Key}(e:H a=some (.dT kvs))(eb:H b=some (.tup (k.map kV))):Vh H a (.ref b) (VF kvs k):=.inr ⟨kvs,k,b,.inl e,rfl,eb,rfl⟩
theorem J5.k{k:Key}(e:H a=some (.dK kvs))(hl:kvs.length<sizeLine):J5 H a (kV k) v (upd H a (.dK (putK kvs k v))):=.inl ⟨kvs,k,e,rfl,hl,rfl⟩
theorem J5.t{k:List Key}(e:H a=some (.dT kvs))(eb:H b=some (.tup (k.map kV)))(hl:kvs.length<sizeLine):
  J5 H a (.ref b) v (upd H a (.dT (putK kvs k v))):=.inr ⟨kvs,k,b,e,rfl,eb,hl,rfl⟩
section
theorem Inv.big(I:Inv X pins U H s):sysModules<s.heap.objs.size:=by
 have h:mainGlobals<s.heap.objs.size:=(I.mod.glob.keeps I.bk).lt;exact Nat.lt_trans (by decide) h
theorem Ep(hu:A.units+1<cLine)(I:Inv X pins U H s)(g:Vh H a y (some v))(ry:RelV y u)(h:∀w' s',Inv X pins U H s'->RelV v w'->Q w' s'):
  wpAny (model X.prog X.w) A (getItem (.ref a) u) Q E s:=by
 rcases g with⟨kvs,k,e,ey,l⟩|⟨kvs,k,b,e,ey,eb,l⟩
 .subst ey
  obtain⟨z,hd,vs,rel,dd⟩:=Wv I.hok e;obtain⟨w',hw,rw'⟩:=Uq.some_of (v:=v) (o:=valueAt vs k) (by rw[l];exact rel.val k);exact wpAny_getItem_of (U4 ry) dd.mapOf hw (h w' _ (I.tok _) rw')
 .subst ey
  cases(show u=Value.ref b from ry);obtain⟨z,hd,xs,rel,dd⟩:=Tj I.hok e;obtain⟨w',hw,rw'⟩:=Uq.some_of (v:=v) (o:=(atKey xs k).map (·.2)) (by rw[l];exact rel.val k);obtain⟨p,hp,hp2⟩:=Zj.mp hw;refine wpAny_getItem_heap (tupleKind_room_in1 hu) (Wc I.hok eb) dd hp ?_;rw[hp2];exact h w' _ (I.tok _) rw'
theorem C9(hu:A.units+1<cLine)(I:Inv X pins U H s)(g:Vh H a y o)(ry:RelV y u)(h:∀s',Inv X pins U H s'->Q (.bool o.isSome) s'):
  wpAny (model X.prog X.w) A (compareOp .In u (.ref a)) Q E s:=by
 rcases g with⟨kvs,k,e,ey,l⟩|⟨kvs,k,b,e,ey,eb,l⟩
 .subst ey
  obtain⟨z,hd,vs,rel,dd⟩:=Wv I.hok e;refine wpAny_in_of (U4 ry) hd dd.mapOf ?_;rw[<-(rel.val k).isSome_eq,<-l];exact h _ (I.tok _)
 .subst ey
  cases(show u=Value.ref b from ry);obtain⟨z,hd,xs,rel,dd⟩:=Tj I.hok e;refine wpAny_in_heap (tupleKind_room_in1 hu) (Wc I.hok eb) hd dd ?_;have q:=(rel.val k).isSome_eq;rw[Option.isSome_map]at q;rw[<-q,<-l];exact h _ (I.tok _)
theorem OZ(hu:A.units+1<cLine)(I:Inv X pins U H s)(g:Vh H a y o)(ry:RelV y u)(h:∀s',Inv X pins U H s'->Q (.bool (!o.isSome)) s'):
  wpAny (model X.prog X.w) A (compareOp .NotIn u (.ref a)) Q E s:=by
 rcases g with⟨kvs,k,e,ey,l⟩|⟨kvs,k,b,e,ey,eb,l⟩
 .subst ey
  obtain⟨z,hd,vs,rel,dd⟩:=Wv I.hok e;refine wpAny_notIn_of (U4 ry) hd dd.mapOf ?_;rw[<-(rel.val k).isSome_eq,<-l];exact h _ (I.tok _)
 .subst ey
  cases(show u=Value.ref b from ry);obtain⟨z,hd,xs,rel,dd⟩:=Tj I.hok e;refine wpAny_notIn_heap (tupleKind_room_in1 hu) (Wc I.hok eb) hd dd ?_;have q:=(rel.val k).isSome_eq;rw[Option.isSome_map]at q;rw[<-q,<-l];exact h _ (I.tok _)
theorem Mr(I:Inv X pins U H s)(mu:Mut (H a))(hs:Heap.SameBut a s.heap h')(he:∃q,h'.get? a=some q)(new:VT X.prog X.w (upd H a ob) h' a ob):
  Inv X pins U (upd H a ob) {s with heap:=h',toks:=t'}:=
 I.write (x:=a) (e:=a) mu (.inl rfl) (fun b q hb z=>(hs.2 b hb).trans z) he new
theorem Wg(z:kvs.length<=sizeLine)(hd:(a==sysModules)=false)(rel:KV kvs vs)(dd:h'.DictOf (Y9 P w) a vs):
  VT P w H' h' a (.dK kvs):=⟨z,hd,vs,rel,dd⟩
theorem Eo(hu:A.units+1<cLine)(I:Inv X pins U H s)(g:J5 H a y v H')(ry:RelV y u)(rv:RelV v r)(h:∀s',Inv X pins U H' s'->Q () s'):
  wpAny (model X.prog X.w) A (setItem (.ref a) u r) Q E s:=by
 rcases g with⟨kvs,k,e,ey,l,eH⟩|⟨kvs,k,b,e,ey,eb,l,eH⟩
 .subst ey eH
  obtain⟨z,hd,vs,rel,dd⟩:=Kh I.hok e;have hz:vs.length<=sizeLine:=by rw[<-rel.length];exact z
  have hl:(putK kvs k v).length<=sizeLine:=by have:=Vn kvs k v;omega
  refine wpAny_setItem_pairs (hsz:=hz) (U4 ry) dd fun h' dd' hs=>h _ ?_;have he:∃q,h'.get? a=some q:=let⟨q,_,_,hq,_⟩:=dd';⟨q,hq⟩
  exact Mr I (by rw[e];exact True.intro) hs he (Wg hl hd (rel.put k rv) dd')
 .subst ey eH
  cases(show u=Value.ref b from ry);obtain⟨z,hd,xs,rel,dd⟩:=Ao I.hok e;have hz:xs.length<=sizeLine:=by rw[<-Paired.length rel];exact z
  have hl:(putK kvs k v).length<=sizeLine:=by have:=Vn kvs k v;omega
  refine wpAny_setItem_heap (hsz:=hz) (tupleKind_room_in1 hu) (Wc I.hok eb) dd fun h' dd' hs=>h _ ?_;obtain⟨q,es,ep,hq,h2,h3,h4,_,h5⟩:=dd';refine Mr I (by rw[e];exact True.intro) hs ⟨q,hq⟩ ⟨hl,hd,_,(rel.put k eb rv).keeps fun c ys ec=>?_,q,es,ep,hq,h2,h3,h4,h5⟩;rw[Yg (JR ec e (fun z=>nomatch z))];exact ec
end
def Q5(i:Expr):Prop:=∀ov iv,subscripted i false ov iv=operate [ov,iv] (getItem ov iv)
theorem DU{T id:String}(hl:typeLookup (.type T) "__getitem__"=pure (some (.builtin id)))(hs:Q5 slice)(h:wpAny (model prog w) A (eval value env) (fun o s₁=>wpAny (model prog w) A (eval slice env) (fun i s₂=>s₂.TypeIs o T/\wpAny (model prog w) A (getItem o i) Q E s₂) E s₁) E s):
  wpAny (model prog w) A (eval (.Subscript value slice pos) env) Q E s:=by
 refine Subscript_ (Zn h (fun o s₁ h₁=>Zn h₁ (fun i s₂ h₂=>?_) fun _ _ x=>x) fun _ _ x=>x);obtain⟨hT,h₂⟩:=h₂;unfold subscriptTail;refine Zl ?_;rw[getitemInPython_of_ne hT.not_modules];refine Zl (wpAny_specialOf hT hl ?_)
 have fin:wpAny (model prog w) A (subscripted slice false o i) (fun r s₃=>wpAny (model prog w) A (letTemporaryGo value o r >>=fun _=>pure r) Q E s₃) E s₂:=by
  rw[hs o i];exact wpAny_operating (Zn h₂ (fun r s₃ h₃=>Zl (wpAny_letTemporaryGo (Zm h₃))) fun _ _ x=>x)
 first
  |exact Zm (Zl fin)
  |exact Zl (Zm (Zl fin))
  |exact Zl fin
theorem Nh(I:Inv X pins U H s)(g:Vh H a y o):s.TypeIs (.ref a) "dict":=by
 rcases g with⟨kvs,k,e,_,_⟩|⟨kvs,k,b,e,_,_,_⟩
 .obtain ⟨_,_,vs,_,dd⟩:=Wv I.hok e
  exact dd.typeIs
 .obtain ⟨_,_,xs,_,dd⟩:=Tj I.hok e
  exact dd.typeIs
def Oo(td ty:TE):TE:=fun U H Q=>td U H fun x H1=>ty U H1 fun y H2=>Jc x fun a=>∃v,Vh H2 a y (some v)/\Q v H2
def CH(ty td:TE):TE:=fun U H Q=>ty U H fun y H1=>td U H1 fun x H2=>Jc x fun a=>∃o,Vh H2 a y o/\Q (.bl o.isSome) H2
def K7(ty td:TE):TE:=fun U H Q=>ty U H fun y H1=>td U H1 fun x H2=>Jc x fun a=>∃o,Vh H2 a y o/\Q (.bl (!o.isSome)) H2
def Sd(td ty tv:TE):TS:=fun D U H=>tv U H fun v H1=>td U H1 fun x H2=>ty U H2 fun y H3=>Jc x fun a=>∃H4,J5 H3 a y v H4/\D.nx U H4
section
theorem Vc(hu:X.A.units+1<cLine)(ho:PE X o td)(hi:PE X i ty)(hs:Q5 i):PE X (.Subscript o i pos) (Oo td ty):=by
 intro pins s U H Q I h;refine DU PySem.F.slot_dict_getitem.lookup hs (thn (ho pins s U H _ I h) fun u s1 ⟨x,H1,I1,rx,q1⟩=>thn (hi pins s1 U H1 _ I1 q1) fun iv s2 ⟨y,H2,I2,ry,q2⟩=>?_);replace q2:=Jc.old q2;obtain⟨a,ex,v,g,q2⟩:=q2;subst ex;obtain rfl:u=Value.ref a:=rx;exact⟨Nh I2 g,Ep hu I2 g ry fun w' s3 I3 rw'=>⟨v,H2,I3,rw',q2⟩⟩
theorem Uy(hu:X.A.units+1<cLine)(hi:PE X i ty)(ho:PE X o td):PC X .In i o (CH ty td):=by
 intro pins s U H Q I h;refine thn (hi pins s U H _ I h) fun iv s1 ⟨y,H1,I1,ry,q1⟩=>thn (ho pins s1 U H1 _ I1 q1) fun u s2 ⟨x,H2,I2,rx,q2⟩=>?_;replace q2:=Jc.old q2;obtain⟨a,ex,ov,g,q2⟩:=q2;subst ex;obtain rfl:u=Value.ref a:=rx;exact C9 hu I2 g ry fun s3 I3=>⟨.bl ov.isSome,H2,I3,rfl,q2⟩
theorem WT(hu:X.A.units+1<cLine)(hi:PE X i ty)(ho:PE X o td):PC X .NotIn i o (K7 ty td):=by
 intro pins s U H Q I h;refine thn (hi pins s U H _ I h) fun iv s1 ⟨y,H1,I1,ry,q1⟩=>thn (ho pins s1 U H1 _ I1 q1) fun u s2 ⟨x,H2,I2,rx,q2⟩=>?_;replace q2:=Jc.old q2;obtain⟨a,ex,ov,g,q2⟩:=q2;subst ex;obtain rfl:u=Value.ref a:=rx;exact OZ hu I2 g ry fun s3 I3=>⟨.bl (!ov.isSome),H2,I3,rfl,q2⟩
theorem Vt(hu:X.A.units+1<cLine)(ho:PE X o td)(hi:PE X i ty)(hv:PE X value tv)(hs:swapsWith value (some (.Subscript o i pos')) pos.line X.env=pure false):
  PS X (.Assign [.Subscript o i pos'] value pos) (Sd td ty tv):=by
 intro pins s U H D I h;refine wpAny_Assign_Subscript (thn (hv pins s U H _ I h) fun r s1 ⟨v,H1,I1,rv,q1⟩=>thn (ho pins s1 U H1 _ I1 q1) fun u s2 ⟨x,H2,I2,rx,q2⟩=>thn (hi pins s2 U H2 _ I2 q2) fun iv s3 ⟨y,H3,I3,ry,q3⟩=>?_) hs;replace q3:=Jc.old q3;obtain⟨a,ex,H4,g,q3⟩:=q3;subst ex;obtain rfl:u=Value.ref a:=rx;exact Eo hu I3 g ry rv fun s4 I4=>⟨U,H4,I4,q3⟩
end
theorem Ng(h:Heap)(hb:sysModules<h.objs.size):VT P w H (h.push {cls:=.type "dict",data:=.dict #[]}) h.objs.size (.dK []):=
 ⟨Zc _,beq_eq_false_iff_ne.mpr (Zs (Ze hb)),[],.nil,Heap.DictOf.new h⟩
theorem Ke(h:Heap)(hb:sysModules<h.objs.size):VT P w H (h.push {cls:=.type "dict",data:=.dict #[]}) h.objs.size (.dT []):=
 ⟨Zc _,beq_eq_false_iff_ne.mpr (Zs (Ze hb)),[],.nil,_,#[],0,ZY _ rfl,⟨rfl,rfl,rfl⟩,rfl,rfl,List.nodup_nil⟩
def Pd:TE:=fun _ H Q=>∀p,H p=none->Q (.ref p) (upd H p (.dK []))
def Pc:TE:=fun _ H Q=>∀p,H p=none->Q (.ref p) (upd H p (.dT []))
section
theorem Vy:PE X (.Dict [] [] pos) Pd:=fun pins s U H Q I h=>
 wpAny_Dict_empty ⟨.ref s.heap.objs.size,_,I.laid (a:=s.heap.objs.size) (o:=.dK []) (t':=s.toks) (fun _ _ q=>ZE _ q) (ZG _) (Ng s.heap I.big),rfl,h _ (I.hok.fresh (ZG _))⟩
theorem Fy:PE X (.Dict [] [] pos) Pc:=fun pins s U H Q I h=>
 wpAny_Dict_empty ⟨.ref s.heap.objs.size,_,I.laid (a:=s.heap.objs.size) (o:=.dT []) (t':=s.toks) (fun _ _ q=>ZE _ q) (ZG _) (Ke s.heap I.big),rfl,h _ (I.hok.fresh (ZG _))⟩
end
def Ny:List (TE×TE)->St->Hp->(List (V×V)->Hp->Prop)->Prop
 |[],_,H,Q=>Q [] H
 |(tk,tv)::r,U,H,Q=>tk U H fun x H1=>tv U H1 fun y H2=>Ny r U H2 fun ps H3=>Q ((x,y)::ps) H3
abbrev VV:List (V×V)->List (Value×Value)->Prop:=Paired fun p q=>RelV p.1 q.1/\RelV p.2 q.2
def PPs(X:Cx)(pos:Pos)(keys:List (Option Expr))(values:List Expr)(trs:List (TE×TE)):Prop:=
 ∀(pins:List (Addr×Obj))(s:Shared)(U:St)(H:Hp)(Q:List (V×V)->Hp->Prop),Inv X pins U H s->Ny trs U H Q->
  wpAny (model X.prog X.w) X.A (evalPairs (pairTrees keys values X.env pos)) (fun vs s'=>∃ps H',Inv X pins U H' s'/\VV ps vs/\Q ps H') X.xe s
theorem LY:PPs X pos [] [] []:=fun pins s U H Q I h=>pairTrees_nil_walk ⟨[],H,I,.nil,h⟩
theorem Fv(hk:PE X k tk)(hv:PE X v tv)(hr:PPs X pos ks vs trs):
  PPs X pos (some k::ks) (v::vs) ((tk,tv)::trs):=fun pins s U H Q I h=>
 pairTrees_cons_walk (thn (hk pins s U H _ I h) fun u s1 ⟨x,H1,I1,rx,q1⟩=>thn (hv pins s1 U H1 _ I1 q1) fun w2 s2 ⟨y,H2,I2,ry,q2⟩=>
  thn (hr pins s2 U H2 _ I2 q2) fun ws s3 ⟨ps,H3,I3,rel,q3⟩=>⟨(x,y)::ps,H3,I3,.cons ⟨rx,ry⟩ rel,q3⟩)
def TN(kvs more:List (Key×V)):List (Key×V):=more.foldl (fun acc kv=>putK acc kv.1 kv.2) kvs
theorem KV.merge:∀{more:List (Key×V)}{rs:List (Key×Value)}{kvs:List (Key×V)}{vs:List (Key×Value)},KV more rs->KV kvs vs->KV (TN kvs more) (merged vs rs):=by
 intro more rs kvs vs r;unfold KV at r
 induction r generalizing kvs vs with
 |nil=>intro q;exact q
 | @cons p q ps qs h t ih=>
  intro r0
  have e:KV (putK kvs p.1 p.2) (stored vs q.1 q.2):=by
   have:=r0.put p.1 h.2;rw[<-h.1];exact this
  exact ih e
theorem XW:∀(more kvs:List (Key×V)),(TN kvs more).length<=kvs.length+more.length
 |[],kvs=>by show kvs.length<=kvs.length+0;omega
 |p::r,kvs=>by
  have h1:=XW r (putK kvs p.1 p.2);have h2:=Vn kvs p.1 p.2;show(TN (putK kvs p.1 p.2) r).length<=_;rw[Zf];omega
theorem Tr:∀{kvs:List (Key×V)}{ws:List (Value×Value)},VV (kvs.map fun kv=>(kV kv.1,kv.2)) ws->∃rs,Carries (Y9 P w) ws rs/\KV kvs rs
 |[],_,r=>by rw[List.map_nil]at r;cases r;exact⟨[],True.intro,.nil⟩
 |p::kvs,_,r=>by
  rw[ZV]at r
  cases r with
  | @cons a b as bs h t=>
   obtain⟨rs,c,q⟩:=Tr (P:=P) (w:=w) t;obtain⟨b1,b2⟩:=b;exact⟨(p.1,b2)::rs,⟨U4 h.1,rfl,c⟩,.cons ⟨rfl,h.2⟩ q⟩
def SS(trs:List (TE×TE)):TE:=fun U H Q=>∀p,H p=none->Ny trs U (upd H p (.dK [])) fun ps H2=>H2 p=some (.dK [])/\∃kvs:List (Key×V),ps=kvs.map (fun kv=>(kV kv.1,kv.2))/\kvs.length<=15/\Q (.ref p) (upd H2 p (.dK (TN [] kvs)))
theorem Lg(h:PPs X pos keys values trs)(hall:keys.all (·.isSome)=true)(hl:keys.length=values.length)(h0:keys≠[])(h15:keys.length<=15):PE X (.Dict keys values pos) (SS trs):=by
 intro pins s U H Q I q;have hn:=I.hok.fresh (ZG s.heap.objs.size);have I1:=I.laid (a:=s.heap.objs.size) (o:=.dK []) (h':=s.heap.push {cls:=.type "dict",data:=.dict #[]}) (t':=s.toks) (fun _ _ q=>ZE _ q) (ZG _) (Ng s.heap I.big);refine wpAny_Dict_walk (knd:=Y9 X.prog X.w) hall hl h0 h15 (thn (h pins _ U _ _ I1 (q _ hn)) fun ws s2 ⟨ps,H2,I2,rel,e,kvs,ep,lk,q2⟩=>?_);subst ep;obtain⟨rs,c,rk⟩:=Tr (P:=X.prog) (w:=X.w) rel;obtain⟨z,hd,vs0,r0,dd⟩:=Kh I2.hok e;cases r0;refine⟨rs,c,dd,fun h' dd' hs=>⟨.ref s.heap.objs.size,_,?_,rfl,q2⟩⟩
 have hz:(TN [] kvs).length<=sizeLine:=by
  have h1:=XW kvs [];rw[List.length_nil]at h1;rw[sizeLine_eq];omega
 have he:∃q,h'.get? s.heap.objs.size=some q:=let⟨q,_,_,hq,_⟩:=dd';⟨q,hq⟩
 exact Mr I2 (by rw[e];exact True.intro) hs he (Wg hz hd (rk.merge .nil) dd')
structure M1(X:Cx)(o:Expr)(m:Str)(apos:Pos)(e:Expr)(cpos:Pos):Prop where
 base:attributeBase o m X.env (eval o X.env)=eval o X.env
 few:((backTo cpos (starEach [e] X.env)).all (fun x=>!x.1) && (backToKw cpos (keywordEach [] X.env)).all (fun x=>x.1.isSome)
  && decide (([e]:List Expr).length+([]:List Keyword).length+(if([]:List Keyword).isEmpty then 0 else 1)<30))=true
 line:(apos.endLine==cpos.line)=true
 trees:backTo cpos (starEach [e] X.env)=[(false,eval e X.env)]
def IsD(H:Hp)(a:Addr):Prop:=(∃kvs,Rd H a (.dK kvs)) \/ ∃kvs,Rd H a (.dT kvs)
theorem Ql(I:Inv X pins U H s)(d:IsD H a):
  s.TypeIs (.ref a) "dict" /\(∀b,Value.ref a=.ref b->∃ob,s.heap.get? b=some ob/\ob.dict=none)/\(a==sysModules)=false:=by
 rcases d with⟨kvs,e⟩|⟨kvs,e⟩
 .obtain ⟨_,hd,vs,_,dd⟩:=Wv I.hok e
  refine⟨dd.typeIs,fun b q=>?_,hd⟩;cases q;obtain⟨ob,_,_,h1,h2,_⟩:=dd;exact⟨ob,h1,h2.2.1⟩
 .obtain ⟨_,hd,xs,_,dd⟩:=Tj I.hok e
  refine⟨dd.typeIs,fun b q=>?_,hd⟩;cases q;obtain⟨ob,_,_,h1,h2,_⟩:=dd;exact⟨ob,h1,h2.2.1⟩
section
theorem Qx(hu:A.units+1<cLine)(I:Inv X pins U H s)(g:Vh H a y o)(ry:RelV y u)(h:∀w' s',Inv X pins U H s'->RelV (o.getD .non) w'->Q w' s'):
  wpAny (model X.prog X.w) A (call (.builtin "dict.get") [.ref a,u]) Q E s:=by
 rcases g with⟨kvs,k,e,ey,l⟩|⟨kvs,k,b,e,ey,eb,l⟩
 .subst ey
  obtain⟨z,hd,vs,rel,dd⟩:=Wv I.hok e;refine call_meetsIn PySem.F.slot_dict_get dd.typeIs PySem.F.entry_dict_get (PySem.F.args_dict_get_2 _ _) (meets_dict_get (Y9 X.prog X.w) a (U4 ry) hd) ⟨_,dd.mapOf,h _ _ (I.tok _) ?_⟩;rw[l];exact(rel.val k).getD rfl
 .subst ey
  cases(show u=Value.ref b from ry);obtain⟨z,hd,xs,rel,dd⟩:=Tj I.hok e;refine call_meetsIn PySem.F.slot_dict_get dd.typeIs PySem.F.entry_dict_get (PySem.F.args_dict_get_2 _ _) (meetsH_dict_get (tupleKind (Y9 X.prog X.w)) a b hd) ⟨tupleKind_room_in1 hu,k,xs,Wc I.hok eb,dd,h _ _ (I.tok _) ?_⟩;rw[l];exact(rel.val k).getD rfl
end
def Pe(td ty:TE):TE:=fun U H Q=>td U H fun x H1=>Jc x fun a=>IsD H1 a/\ty U H1 fun y H2=>∃o,Vh H2 a y o/\Q (o.getD .non) H2
section
theorem TH(hu:X.A.units+1<cLine)(ho:PE X o td)(he:PE X e ty)(m:M1 X o "get" apos e cpos):PE X (.Call (.Attribute o "get" apos) [e] [] cpos) (Pe td ty):=by
 intro pins s U H Q I h;refine wpAny_Call_method m.base m.few m.line PySem.F.plainAttrs_dict PySem.F.slot_dict_get PySem.F.type_dict_get (thn (ho pins s U H _ I h) fun u s1 ⟨x,H1,I1,rx,q1⟩=>?_);replace q1:=Jc.old q1;obtain⟨a,ex,d,q1⟩:=q1;subst ex;obtain rfl:u=Value.ref a:=rx;obtain⟨t1,t2,_⟩:=Ql I1 d;refine⟨t1,t2,?_⟩;rw[m.trees];refine Calls.callWith_builtin rfl (Calls.evalArgs_plain (Calls.spliced_cons (thn (he pins s1 U H1 _ I1 q1) fun iv s2 ⟨y,H2,I2,ry,ov,g,q2⟩=>Calls.spliced_nil ?_)));exact Qx hu I2 g ry fun w' s3 I3 rw'=>⟨_,H2,I3,rw',q2⟩
end
end L2
namespace Att
open PySem PySem.W PySem.Calls PyProof.Rows
theorem Wy:∀(ns:List Int)(vs:List Value),WellAll P h vs (ns.map WData.int)->IntsAre vs ns:=by
 intro ns
 induction ns with
 |nil=>
  intro vs w;rw[List.map_nil]at w;cases w;exact .nil
 |cons n ns ih=>
  intro vs w;rw[ZV]at w
  cases w with
  |cons a b=>
   cases a;exact .cons _ _ (ih _ b)
theorem EL{l:OpenLaw}(hn:l.most=some n)(hpre:l.row.toRowW.claim.pre args=true)(hwl:WellAll P h vals args):
  ∃a vs ns,vals=[Value.ref a]/\args=[WData.list (ns.map WData.int)]/\h.get? a=some {cls:=.type "list",data:=.seq vs.toArray}/\IntsAre vs ns/\ns.length<=n:=by
 have hsh:WShape.hasAll [] args [.list .int]=true:=(pre_splitW hpre).1;have hc:l.pre.holds [] {args:=args}=true:=(pre_splitW hpre).2;obtain⟨d,r,rfl,h1,h2⟩:=hasAllW_cons hsh;obtain rfl:=hasAllW_nil h2;obtain⟨xs,rfl,h3⟩:=hasW_list h1;obtain⟨ns,rfl⟩:=items_int h3
 have hlen:ns.length<=n:=by
  unfold OpenLaw.pre at hc
  have h4:(WTm.not (.lt (.lit (.int (n:Int))) (.len (.arg 0)))).holds [] {args:=[.list (ns.map .int)]}=true:=by
   have h4:=(holds_andW hc).1;rw[hn]at h4;exact h4
  have h5:=condW_of h4 (w_not (w_lt w_lit (w_len_list (w_arg rfl))));rw[ZA]at h5;refine Nat.le_of_not_lt fun q=>?_;have q':(n:Int)<((ns.length:Nat):Int):=by omega
  first
   |(rw[decide_eq_true q']at h5;exact Zr h5 (by decide))
   |(simp at h5;omega)
 cases hwl with
 |cons w1 w2=>
  cases w2
  cases w1 with
  |list ho hall=>exact⟨_,_,ns,rfl,rfl,ho,Wy ns _ hall,hlen⟩
theorem ET(l:OpenLaw)(args:List WData):l.row.toRowW.claim.post args (.bool true) args=true:=
 postW_of (r:=l.row.toRowW) (X:=(true==true))
  (show WShape.has [] (.bool true) .bool=true by first|rfl|decide|simp[WShape.has,WShape.arms,WShape.armsAll])
  (show(WTm.eq .res (.lit (.bool true))).value [] {args:=args,res:=some (.bool true),after:=args}=some (.bool (true==true))from w_eq_bool (w_res rfl) w_lit) rfl
theorem attach_call{l:OpenLaw}(hn:l.most=some n)(hdf:d.params.defaults=[])(call:∀(w:World)(s₀ s₁:Shared)(mg mb:Str->Option Value)(fa:Addr)(o:Obj)(pm cd doc:Value)(a:Addr)(vs:List Value)(ns:List Int),
   Ground q loose [] XP w s₀ mg mb s₁.heap->YP w s₁.heap->
   s₁.heap.get? fa=some o->o.data=.func (docDef d.name d.params d.body d.scope pm cd doc)->s₁.heap.CodeRec cd d.name->mg d.name=some (.ref fa)->
   s₁.heap.get? a=some {cls:=.type "list",data:=.seq vs.toArray}->IntsAre vs ns->ns.length<=n->s₁.gens= #[]->
   codeAny (model l.prog w) callerA (.call (.ref fa) ⟨[.ref a],[]⟩) (fun r s'=>r=.ok (.ret (.bool true))/\OldK s₁.heap s'.heap/\s'.os=s₁.os/\AllBare s'.gens) s₁):
  WalkO q loose XP YP l.row.toRowW d [] (fun f vs=>PySem.call f vs):=by
 intro w s₀ s₁ mg mb G Y fa o pm cd doc dV kV ho hd hcd hD hmg hg args vals as hpre hlay hrd hwl hlo;obtain rfl:dV=.none:=Dflts.none hD hdf;obtain rfl:kV=.none:=Dflts.noKw hD;obtain⟨a,vs,ns,rfl,rfl,hobj,hints,hlen⟩:=EL hn hpre hwl;refine enter_call (codeAny_mono (call w s₀ s₁ mg mb fa o pm cd doc a vs ns G Y ho (fd_plain hd) hcd hmg hobj hints hlen hg) fun r s' hq=>?_);obtain⟨rfl,h2,h3,h4⟩:=hq;exact⟨.inl ⟨.bool true,.bool true,[],rfl,fun _=>rfl,.bool true,ET l _,fun _=>⟨List.Pairwise.nil,fun _ hm=>(nomatch hm)⟩⟩,h2,h3,h4⟩
end Att
namespace L2
open PySem PySem.Spec PyProof.Rows
theorem RE:∀{vs:List Value}{ns:List Int},IntsAre vs ns->Vals (ns.map V.int) vs
 |_,_,.nil=>.nil
 |_,_,.cons n t h=>.cons ⟨t,rfl⟩ (RE h)
def Q4(H:Hp):Prop:=∀b,H b=none \/ ∃o xs,H b=some (.frz o (.lst xs))
theorem Ip{K:W.Frag}(KX:K.In s₁.heap)(hns:s₁.heap.Ns mainGlobals mg)(hb:s₁.heap.Ns builtinsNs mb)(hbb:∀x:Str,x≠"__name__" ->mb x=bootBuiltins x)(hlim:s₁.heap.NoLimit)(hg:s₁.gens= #[])(ha:s₁.heap.get? a=some {cls:=.type "list",data:=.seq vs.toArray})(hi:IntsAre vs ns)(hl:ns.length<=sizeLine)(hr:Vs k callerA)(F:∀base:Heap,K.In base->base.Ns mainGlobals mg->Yf P w K mg base CX k fa fd [x] sp)(hbind:∀(s:Shared)(u:Value),BindsTo s fd ⟨[u],[]⟩ [(x,u)])(hsp:∀H:Hp,Q4 H->SqL K H a (ns.map V.int)->sp [.ref a] H (fun v _=>v=.bl true) fun _ _ _=>False)(hCX:∀H e s',CX [] H s₁ (fun _ _ _=>False) e s'->False):
  codeAny (model P w) callerA (.call (.ref fa) ⟨[.ref a],[]⟩) (fun r s'=>r=.ok (.ret (.bool true))/\OldK s₁.heap s'.heap/\s'.os=s₁.os/\AllBare s'.gens) s₁:=by
 have rv:=RE hi;have lenV:=hi.length;have core:∀H:Hp,Q4 H->SqL K H a (ns.map V.int)->HOk P w H s₁.heap->(∀b,H b≠none->b=a)->(H a≠none->K.lookup a=none)->
   codeAny (model P w) callerA (.call (.ref fa) ⟨[.ref a],[]⟩) (fun r s'=>r=.ok (.ret (.bool true))/\OldK s₁.heap s'.heap/\s'.os=s₁.os/\AllBare s'.gens) s₁:=by
  intro H hO hS hok hA hK;have base_of:∀{b:Addr}{o:Obj},s₁.heap.get? b=some o->H b=none->(Mi s₁.heap H).get? b=some o:=fun e n=>Iz e n
  have noA:∀{b:Addr}{o:Obj}{es:Array DictEntry}{ep:Nat},s₁.heap.get? b=some o->o.data=.dict es ep->H b=none:=fun{b o es ep} e d=>by
   cases q:H b with
   |none=>rfl
   |some u=>
    have e':b=a:=hA b (by rw[q];simp);subst e';rw[ha]at e;cases e;have d':Data.seq vs.toArray _=Data.dict es ep:=d;cases d'
  have nsK:∀{b:Addr}{m:Str->Option Value},s₁.heap.Ns b m->(Mi s₁.heap H).Ns b m:=fun{b m} ⟨o,es,ep,e,d,r⟩=>⟨o,es,ep,base_of e (noA e d),d,r⟩
  have hKb:K.In (Mi s₁.heap H):=fun b o e=>base_of (KX b o e) (by
   cases q:H b with
   |none=>rfl
   |some u=>
    have e':b=a:=hA b (by rw[q];simp);subst e';rw[hK (by rw[q];simp)]at e;cases e)
  have hM:Mod K mg (Mi s₁.heap H):=⟨hKb,nsK hns,⟨mb,nsK hb,hbb⟩,let⟨mc,h1,h2⟩:=hlim;⟨mc,nsK h1,h2⟩⟩;have e0:DF P w K mg (Mi s₁.heap H) callerA [] s₁ H:=⟨rfl,hM,fun b o e=>Lz e,Nat.le_of_eq (Ei _ _),trivial,fun b hb=>Zr (show b∈([]:List Addr)from hb) (by simp),hok,.of_eq hg⟩;refine codeAny_mono ((F _ hKb (nsK hns)).run callerA [] s₁ H ⟨[.ref a],[]⟩ [.ref a] [.ref a] _ _ hr e0 (hbind s₁ (.ref a)) (.cons rfl .nil) (hsp H hO hS)) fun r s' h=>?_
  cases r with
  |error e=>exact(hCX H e s' h).elim
  |ok fl=>
   cases fl with
   |next=>exact False.elim h
   |brk=>exact False.elim h
   |cont=>exact False.elim h
   |ret u=>
    obtain⟨v,H',os,bare,un,hok',r',q⟩:=h;have q':v=.bl true:=q;subst q';obtain rfl:u=Value.bool true:=r';refine⟨rfl,OldK.of_keep fun b o e=>?_,os,bare⟩
    cases q:H b with
    |none=>exact un.keep b o e q (by intro z;exact Zr (show b∈([]:List Addr)from z) (by simp)) (by simp)
    |some u=>
     rcases hO b with z|⟨ob,xs,z⟩
     .rw [q]at z;cases z
     .have z2:=un.frzs b ob _ z
      obtain⟨e1,_⟩:=hok b _ z;obtain⟨e2,_⟩:=hok' b _ z2;rw[e]at e1;cases e1;exact e2
 cases hk:K.lookup a with
 |some o=>
  have e:=KX a o hk;rw[ha]at e;cases e;refine core (fun _=>none) (fun _=>.inl rfl) (.inr ⟨_,vs.toArray,_,hk,rfl,rfl,rfl,by rw[ZO,lenV];exact hl,by simpa using rv⟩) (fun b u z=>by have z':(none:Option HO)=some u:=z;cases z') (fun b z=>Zr rfl z) fun z=>Zr rfl z
 |none=>
  refine core (fun b=>if b=a then some (.frz {cls:=.type "list",data:=.seq vs.toArray} (.lst (ns.map V.int)))else none) (fun b=>?_) (.inl (.inr ⟨{cls:=.type "list",data:=.seq vs.toArray},Zp rfl⟩)) (fun b u z=>?_) (fun b z=>?_) fun _=>hk
  .by_cases hb:b=a
   .exact .inr ⟨_,_,Zp hb⟩
   .exact .inl (Zq hb)
  .by_cases hb:b=a
   .have z':=(Zp hb).symm.trans z
    cases z';subst hb;exact⟨ha,by rw[ZA];exact hl,vs,_,rv,ha⟩
   .have z':=(Zq hb).symm.trans z
    cases z'
  .by_cases hb:b=a
   .exact hb
   .exact Zr (Zq hb) z
theorem walk_of{l:W.OpenLaw}{K:Params->W.Frag}{CX:World->CXT}{sp:World->Sp}(hn:l.most=some n)(hn2:n<=sizeLine)(hdf:d.params.defaults=[])(hr:Vs k callerA)(hY:∀(w:World)(h:Heap),YP w h->(K w.params).In h)(F:∀(w:World)(mg:Str->Option Value)(fa:Addr)(h:Heap),(K w.params).In h->h.Ns mainGlobals mg->mg d.name=some (.ref fa)->
   ∃fd:FuncData,(∀(s:Shared)(u:Value),BindsTo s fd ⟨[u],[]⟩ [(x,u)])/\
    ∀base:Heap,(K w.params).In base->base.Ns mainGlobals mg->Yf l.prog w (K w.params) mg base (CX w) k fa fd [x] (sp w))(hsp:∀(w:World)(H:Hp)(a:Addr)(ns:List Int),ns.length<=n->Q4 H->SqL (K w.params) H a (ns.map V.int)->sp w [.ref a] H (fun v _=>v=.bl true) fun _ _ _=>False)(hCX:∀(w:World)(H:Hp)(s:Shared)(e:Value)(s':Shared),CX w [] H s (fun _ _ _=>False) e s'->False):
  W.WalkO q loose XP YP l.row.toRowW d [] (fun f vs=>PySem.call f vs):=by
 refine Att.attach_call hn hdf fun w s₀ s₁ mg mb fa o pm cd doc a vs ns G Y ho hd hcd hmg hobj hints hlen hg=>?_;have KX:=hY w _ Y;obtain⟨fd,hb,hF⟩:=F w mg fa _ KX G.T.g hmg;exact Ip KX G.T.g G.T.b G.T.builtins G.T.nolimit hg hobj hints (Zb hlen hn2) hr hF hb (fun H hO hS=>hsp w H a ns hlen hO hS) fun H e s'=>hCX w H s₁ e s'
def inClass(s:Stmt)(j:Nat):Stmt:=match s with
 |.ClassDef _ _ _ body _ _ _ _ _ _ _=>body.getD j (.Pass ⟨0,0,0,0⟩)
 |_=>.Pass ⟨0,0,0,0⟩
def JM(s:Stmt):Arguments:=match s with
 |.FunctionDef _ a _ _ _ _ _ _ _ _=>a
 |_=>{posonlyargs:=[],args:=[],vararg:=none,kwonlyargs:=[],kw_defaults:=[],kwarg:=none,defaults:=[]}
def Vv(s:Stmt):List Stmt:=match s with
 |.FunctionDef _ _ b _ _ _ _ _ _ _=>b
 |_=>[]
def Yd(s:Stmt):Scope:=match s with
 |.FunctionDef _ _ _ _ _ _ sc _ _ _=>sc
 |_=>{kind:=.function,names:=[],isGenerator:=false,isCoroutine:=false}
abbrev CX0:CXT:=fun _ _ _ _ _ _=>False
abbrev E0:XK:=fun _ _ _=>False
theorem Y4:Ul CX0 X E0:=fun _ _ _ _ _ _ _ h=>h.elim
structure Fun(K:W.Frag)(x qual:Str)(st:Stmt)(f:Addr)(fd:FuncData):Prop where
 ex:∃(oc:Value)(od:Option Addr)(kV doc pm:Value)(an:Option Addr)(cdv ct:Value)(osl:Array (Option Value)),
  fd=W.fnOf x qual (JM st) (Vv st) (Yd st) .none kV doc pm an cdv ct/\K.lookup f=some ⟨oc,od,.func fd,osl⟩/\W.codeIn K cdv qual=true
 kp:W.keepIn K (.ref f)=true
section
variable{K:W.Frag}
theorem Fun.ok{st:Stmt}(F:Fun K x qual st f fd)(S:Yi N ps (Yd st))(len:∀vs H Q E,sp vs H Q E->vs.length=ps.length)(hbody:∀(cdv:Value)(A:Around)(outer:List Env)(s:Shared)(H:Hp)(vs:List V)(Q:VK)(E:XK),Vs k (A.deeper (envOfC qual (Yd st) s.heap.objs.size f cdv))->sp vs H Q E->
   ∃t,PSs (Vb CX0 P w K mg base N qual (Yd st) f cdv A outer s H E).nox (Vv st) t/\t {nx:=fun _ H'=>Q .non H',rt:=Q} (start N vs) H):Yf P w K mg base CX0 (k+1) f fd ps sp:=by
 obtain⟨oc,od,kV,doc,pm,an,cdv,ct,osl,rfl,lk,hcd⟩:=F.ex;refine PF lk hcd S len fun A outer s H vs Q E hr hsp=>?_;obtain⟨t,h,q⟩:=hbody cdv A outer s H vs Q E hr hsp;exact⟨t,h.nox,q⟩
theorem Fun.oq{st:Stmt}(F:Fun K x qual st f fd)(S:Yi N ps (Yd st))(hbody:∀(cdv:Value)(A:Around)(outer:List Env)(s:Shared)(H:Hp)(vs:List V)(Q:VK)(E:XK),Vs k (A.deeper (envOfC qual (Yd st) s.heap.objs.size f cdv))->sp vs H Q E->
   ∃t,PSs (Vb CX0 P w K mg base N qual (Yd st) f cdv A outer s H E).nox (Vv st) t/\t {nx:=fun _ H'=>Q .non H',rt:=Q} (start N vs) H)(len:∀vs H Q E,sp vs H Q E->vs.length=ps.length:=by intro vs H Q E h;repeat (obtain⟨e,h⟩:=h;first|(subst e;exact rfl)|skip)):Yf P w K mg base CX0 (k+1) f fd ps sp:=F.ok S len hbody
theorem Fun.binds{st:Stmt}(F:Fun K x qual st f fd)(h:∀(kV doc pm:Value)(an:Option Addr)(cdv ct:Value)(us:List Value),us.length=ps.length->bindArgs (W.fnOf x qual (JM st) (Vv st) (Yd st) .none kV doc pm an cdv ct) ⟨us,[]⟩=pure (ps.zip us)):Binds K fd ps []:=by
 obtain⟨oc,od,kV,doc,pm,an,cdv,ct,osl,rfl,lk,hcd⟩:=F.ex;exact .all (h kV doc pm an cdv ct)
theorem KQ{st:Stmt}{kV doc pm cdv ct:Value}(l:K.lookup f=some ⟨oc,od,.func (W.fnOf x qual (JM st) (Vv st) (Yd st) .none kV doc pm an cdv ct),osl⟩)(c:W.codeIn K cdv qual=true)(k:W.keepIn K (.ref f)=true):Fun K x qual st f (W.fnOf x qual (JM st) (Vv st) (Yd st) .none kV doc pm an cdv ct):=⟨⟨oc,od,kV,doc,pm,an,cdv,ct,osl,rfl,l,c⟩,k⟩
end
theorem JF(hr:Vs k A):A.units+1<cLine:=Nat.lt_of_le_of_lt (Nat.add_le_add_left (by decide:1<=64) _) hr.units
theorem Yq(h:n<=1000):n<sizeLine:=Nat.lt_of_le_of_lt h (by decide)
section
theorem pv(i:Nat)(hN:X.N[i]?=some x:=by rfl)(hv:Vis X.env.scope x:=by first|exact Or.inl rfl|exact Or.inr (Or.inl rfl)|exact Or.inr (Or.inr rfl))(hd:(x==("__debug__":Str))=false:=by decide)(hcd:(x==("__classdict__":Str))=false:=by decide):PE X (.Name x pos) (Nx i):=QG hN hv hd hcd
end
theorem Bv{c A B:Prop}[Decidable c](h1:c->A)(h2:¬c->B):if c then A else B:=by
 by_cases h:c
 .rw [Zp h]
  exact h1 h
 .rw [Zq h]
  exact h2 h
def Same(H H':Hp):Prop:=∀b o,H b=some o->H' b=some o
theorem Same.refl(H:Hp):Same H H:=fun _ _ h=>h
abbrev Z8:=@Same.refl
theorem Same.trans(a:Same H H1)(b:Same H1 H2):Same H H2:=fun c o h=>b c o (a c o h)
theorem Same.free(e:Same H H')(h:H' l=Option.none):H l=Option.none:=by
 cases q:H l with
 |none=>rfl
 |some o=>
  rw[e l o q]at h;cases h
theorem Same.seq{K:W.Frag}(e:Same H H')(h:SqL K H a xs):SqL K H' a xs:=by
 rcases h with(h|⟨o,h⟩)|h
 .exact .inl (.inl (e _ _ h))
 .exact .inl (.inr ⟨o,e _ _ h⟩)
 .exact .inr h
end L2
namespace PySem.W
open PySem PyProof.Rows
end PySem.W
namespace L2
open PySem PySem.Spec PyProof.Rows
theorem B4(cs:List (Str×NameKind)):∀(acc:List (Str×Addr)),(∀x∈cs,x.2=.free->∃c,env.cells.lookup x.1=some c)->
  ∃cl,(forIn cs acc (fun(x:Str×NameKind)(r:List (Str×Addr))=>(if(x.2==NameKind.free)=true then do let c <-cellOf env x.1;pure (ForInStep.yield ((x.1,c)::r))else pure (ForInStep.yield r):Sem (ForInStep (List (Str×Addr)))))=pure cl)/\
   (∀x c,cl.lookup x=some c->env.cells.lookup x=some c\/acc.lookup x=some c)/\(∀x,(x,NameKind.free)∈cs->∃c,cl.lookup x=some c)/\(∀x c,acc.lookup x=some c->∃c',cl.lookup x=some c'):=by
 induction cs with
 |nil=>intro acc _;exact⟨acc,rfl,fun x c h=>.inr h,fun x h=>(nomatch h),fun x c h=>⟨c,h⟩⟩
 |cons y r ih=>
  intro acc h;obtain⟨n,k⟩:=y
  by_cases hk:k=.free
  .subst hk
   obtain⟨c,hc⟩:=h (n,.free) Za rfl;obtain⟨cl,e1,e2,e3,e4⟩:=ih ((n,c)::acc) fun x hx=>h x (ZM _ hx);refine⟨cl,?_,fun x c' hx=>?_,fun x hx=>?_,fun x c' hx=>?_⟩
   .rw [<-e1]
    simp only[List.forIn_cons,beq_self_eq_true,if_true,cellOf,hc]
    rfl
   .rcases e2 x c' hx with q|q
    .exact .inl q
    .rw [List.lookup_cons]at q
     cases hb:x==n with
     |true=>
      rw[hb]at q;have:x=n:=by simpa using hb
      subst this;cases q;exact .inl hc
     |false=>rw[hb]at q;exact .inr q
   .rcases Zd.mp hx with q|q
    .cases q
     exact e4 n c (by simp[List.lookup_cons])
    .exact e3 x q
   .cases hb:x==n with
    |true=>exact e4 x c (by simp[List.lookup_cons,hb])
    |false=>exact e4 x c' (by simp[List.lookup_cons,hb,hx])
  .obtain ⟨cl,e1,e2,e3,e4⟩:=ih acc fun x hx=>h x (ZM _ hx)
   have hb:(k==NameKind.free)=false:=by simpa using hk
   refine⟨cl,?_,e2,fun x hx=>?_,e4⟩
   .rw [<-e1]
    simp only[List.forIn_cons,hb,Bool.false_eq_true,if_false]
    rfl
   .rcases Zd.mp hx with q|q
    .cases q;exact Zr rfl hk
    .exact e3 x q
theorem B3(h:∀x∈scope.names,x.2=.free->∃c,env.cells.lookup x.1=some c):
  ∃cl,closureFor scope env=pure cl/\(∀x c,cl.lookup x=some c->env.cells.lookup x=some c)/\(∀x,(x,NameKind.free)∈scope.names->∃c,cl.lookup x=some c):=by
 obtain⟨cl,e1,e2,e3,_⟩:=B4 scope.names [] h;refine⟨cl,?_,fun x c hx=>(e2 x c hx).resolve_right (by simp),e3⟩;rw[<-bind_pure (pure cl:Sem (List (Str×Addr))),<-e1]
 rfl
theorem Xv{scope:Scope}{env:Env}{x:Str}:∀{names:List (Str×NameKind)},(names.map fun(n,k)=>if(k==NameKind.free && env.scope.kind==.function && env.kindOf n==some .cell)then(n,NameKind.cell)else(n,k)).lookup x=some .cell \/
  (names.map fun(n,k)=>if(k==NameKind.free && env.scope.kind==.function && env.kindOf n==some .cell)then(n,NameKind.cell)else(n,k)).lookup x=some .free->(∀y∈names,y.2≠.cell)->(x,NameKind.free)∈names
 |[],h,_=>by simp at h
 |(n,k)::r,h,hc=>by
  have ih:= @Xv scope env x r;rw[ZV]at h
  have key:∀k':NameKind,(∀k₂,((n,k')::(r.map fun(n,k)=>if(k==NameKind.free && env.scope.kind==.function && env.kindOf n==some .cell)then(n,NameKind.cell)else(n,k))).lookup x=some k₂->(x=n/\k'=k₂)\/(r.map fun(n,k)=>if(k==NameKind.free && env.scope.kind==.function && env.kindOf n==some .cell)then(n,NameKind.cell)else(n,k)).lookup x=some k₂):=fun k' k₂ q=>by
   rw[List.lookup_cons]at q
   cases hb:x==n with
   |true=>rw[hb]at q;exact .inl ⟨by simpa using hb,ZT q⟩
   |false=>rw[hb]at q;exact .inr q
  dsimp only at h
  split at h
  .rename_i hk
   have kf:k=.free:=by
    cases k <;> simp at hk
    rfl
   subst kf;rcases h with h|h
   .rcases key _ _ h with⟨e,_⟩|q
    .subst e;exact Za
    .exact ZM _ (ih (.inl q) fun y hy=>hc y (ZM _ hy))
   .rcases key _ _ h with⟨e,_⟩|q
    .subst e;exact Za
    .exact ZM _ (ih (.inr q) fun y hy=>hc y (ZM _ hy))
  .rcases h with h|h
   .rcases key _ _ h with⟨e,e2⟩|q
    .exact Zr e2 (hc (n,k) Za)
    .exact ZM _ (ih (.inl q) fun y hy=>hc y (ZM _ hy))
   .rcases key _ _ h with⟨e,e2⟩|q
    .subst e;subst e2;exact Za
    .exact ZM _ (ih (.inr q) fun y hy=>hc y (ZM _ hy))
theorem Ni(I:Nat->Shared->Prop)(turn:∀n s,I n s->wpAny (model prog w) A (pyNext it) (fun r s1=>match r with
   |none=>R (.ok .next) s1
   |some v=>wpAny (model prog w) A (letOwnedTupleGo target it v) (fun _ s1'=>wpAny (model prog w) A (assign target env v) (fun _ s2=>wpAny (model prog w) A (eval elt env) (fun x s3=>
     wpAny (model prog w) A (call (.builtin "list.append") [acc,x]) (fun _ s4=>∃m,m<n/\I m s4) (fun _ _=>False) s3)
     (fun _ _=>False) s2) (fun _ _=>False) s1') (fun _ _=>False) s1) (fun _ _=>False) s)(n:Nat)(h:I n s):codeAny (model prog w) A
   (.compLoop (.ListComp elt [⟨target,iter,[],0⟩] scope pos) 0 it acc env) R s:=by
 refine codeAny_loop rfl I (fun n s hI=>wpAny_noted (m:=compTurn (.ListComp elt [⟨target,iter,[],0⟩] scope pos) 0 it acc env) ?_) n h;rw[compTurn_list1];refine Zl (wpAny_standAt (Zl (Zn (turn n s hI) (fun r s1 h1=>?_) fun _ _ h'=>h'.elim)))
 cases r with
 |none=>exact Zm h1
 |some v=>
  exact Zl (Zn h1 (fun _ s1' h1'=>Zl (Zn h1' (fun _ s2 h2=>Zl (Zl (Zn h2 (fun x s3 h3=>Zl (Zn h3
   (fun _ s4 h4=>Zm (Zm ⟨rfl,h4⟩)) fun _ _ h'=>h'.elim)) fun _ _ h'=>h'.elim))) fun _ _ h'=>h'.elim)) fun _ _ h'=>h'.elim)
theorem Ws{env:Env}{x:Str}:∀{names:List (Str×NameKind)},names.lookup x=some .free->
  (names.map fun(n,k)=>if(k==NameKind.free && env.scope.kind==.function && env.kindOf n==some .cell)then(n,NameKind.cell)else(n,k)).lookup x≠some .local
 |[],h=>by simp at h
 |(n,k)::r,h=>by
  have ih:= @Ws env x r;rw[ZV];dsimp only[rI0,rI,Ui];rw[List.lookup_cons]at h
  cases hb:x==n with
  |true=>
   rw[hb]at h;have kf:k=.free:=ZT h;subst kf
   split <;> simp[List.lookup_cons,hb]
  |false=>
   rw[hb]at h
   split <;> (simp only[List.lookup_cons,hb];exact ih h)
def Va(X:Cx)(N':List Str)(scope:Scope)(cl:List (Str×Addr))(C:Addr)(fp:List Addr)(s:Shared)(H:Hp):Cx:=
 {X with N:=N',s₀:=s,H₀:=H,env:=compEnvC scope cl C X.env,outer:=X.stack,stack:=X.stack,ex:=fp,fn:=fun _=>false,pn:=[],xe:=fun _ _=>False}
def Vr(X:Cx)(own:List Str)(ix:List Nat):List Str:=own++ ix.map fun j=>X.N.getD j ("":Str)
def JB(k:Nat)(ix:List Nat)(U:St):St:=List.replicate k none++ ix.map fun j=>U.getD j none
def GK(k:Nat)(g:TG):Prop:=∀x U H Q,g x U H Q->g x U H fun σ2 H2=>Q σ2 H2/\σ2.length=U.length/\σ2.drop k=U.drop k
theorem Vu(h:i<k):GK k (Vo i):=fun x U H Q q=>⟨q,by simp,by rw[List.drop_set,Zp h]⟩
def GKs(k:Nat)(g:TGs):Prop:=∀x U H Q,g x U H Q->g x U H fun σ2 H2=>Q σ2 H2/\σ2.length=U.length/\σ2.drop k=U.drop k
theorem B1:GKs k Tc:=fun x U H Q q=>by
 match x,q with
 |[],q=>exact⟨q,rfl,rfl⟩
theorem XQ(h1:GK k g)(h2:GKs k gs)(m1:∀x U H (Q Q':St->Hp->Prop),(∀a b,Q a b->Q' a b)->g x U H Q->g x U H Q')(m2:∀x U H (Q Q':St->Hp->Prop),(∀a b,Q a b->Q' a b)->gs x U H Q->gs x U H Q'):GKs k (JY g gs):=fun x U H Q q=>by
 match x,q with
 |v::r,q=>
  refine m1 _ _ _ _ _ (fun a b z=>?_) (h1 _ _ _ _ q);obtain⟨z1,z2,z3⟩:=z;refine m2 _ _ _ _ _ (fun c d y=>?_) (h2 _ _ _ _ z1);exact⟨y.1,y.2.1.trans z2,y.2.2.trans z3⟩
theorem B0{K:W.Frag}(h:GKs k gs):GK k (Nd K n gs):=fun x U H Q q=>by
 match x,q with
 |.ref a,q=>
  obtain⟨xs,h1,h2,q⟩:=q;exact⟨xs,h1,h2,h _ _ _ _ q⟩
def Tv(J:It)(g:TG)(te:TE)(s0:St)(Q:VK)(H1:Hp):Prop:=∃W:Nat->Nat->List V->Hp->Prop,(∃m,W 0 m [] H1)/\∀i m ys H,W i m ys H->
 ys.length<sizeLine/\((J.stop i H/\∀p,H p=none->Q (.ref p) (upd H p (.lst ys))) \/
  (J.go i H/\∀x H',J.yld i H x H'->g x s0 H' fun σ2 H2=>te σ2 H2 fun y H3=>∃m',m'<m/\W (i+1) m' (ys++[y]) H3))
def Oq(k:Nat)(ix:List Nat)(wi:TI)(g:TG)(te:TE):TE:=fun U H Q=>wi U H fun J H1=>Tv J g te (JB k ix U) Q H1
theorem Inv.retrack(I:Inv X pins U H s)(hD:H D=none)(f:J8 X pins H D)(new:VT X.prog X.w (upd H D o) s.heap D o):Inv X pins U (upd H D o) s:=by
 have ne:∀b u,H b=some u->b≠D:=fun b u e=>Yc e hD;have r:=I.step (h':=s.heap) (H':=upd H D o) (g':=s.gens) (d':=s.drawn) (t':=s.toks) (ch:=[D])
  (fun b hb=>by
   have e:b=D:=by simpa using hb
   subst e;exact⟨f.2.2.2.1,f.2.1,f.2.2.2.2.1,f.2.2.2.2.2⟩)
  (fun b o _ _ _ e _=>e) (fun b o _ _ _ e _=>⟨o.slots,e⟩) (fun b o hb e n=>by rw[Yg (fun z=>hb (by simp[z]))];exact n) (fun b o _ e=>⟨o,e⟩)
  (fun b xs e=>by rw[Yg (ne _ _ e)];exact e) (fun b o u e=>by rw[Yg (ne _ _ e)];exact e) (fun b ps e=>⟨#[],by rw[Yg (ne _ _ e),e];simp⟩) (fun m hm=>hm)
  (fun b u e=>by
   by_cases hb:b=D
   .subst hb;rw[Ye]at e;cases e;exact new
   .rw [Yg hb]at e
    exact(I.hok b u e).stay (fun c v _ q=>q) (fun c q=>by rw[Yg (ne _ _ q)];exact q) fun c xs q=>by rw[Yg (ne _ _ q)];exact q) I.bare
 exact r
def Uj(sc:Scope)(outer:List (Str×NameKind))(N:List Str)(ix:List Nat):Bool:=
 sc.names.all (fun x=>(decide (x.2≠.local) || decide (sc.names.lookup x.1=some .local)) && decide (x.2≠.cell) && (decide (x.2≠.free) || decide (outer.lookup x.1=some .cell) || decide (outer.lookup x.1=some .free))) &&
  ix.all fun j=>match N[j]? with
   |some y=>decide (sc.names.lookup y=some .free)
   |none=>false
theorem Uj.all(hok:Uj sc outer N ix=true):
  (∀x∈sc.names,x.2=.local->sc.names.lookup x.1=some .local)/\(∀x∈sc.names,x.2≠.cell)/\(∀x∈sc.names,x.2=.free->outer.lookup x.1=some .cell\/outer.lookup x.1=some .free)/\∀j∈ix,∃y,N[j]?=some y/\sc.names.lookup y=some .free:=by
 unfold Uj at hok;rw[ZZ,List.all_eq_true,List.all_eq_true]at hok;have each:=fun x hx=>hok.1 x hx;simp only[ZZ,Bool.or_eq_true,decide_eq_true_eq]at each;refine⟨fun x hx hl=>(each x hx).1.1.resolve_left fun z=>z hl,fun x hx=>(each x hx).1.2,fun x hx hf=>?_,fun j hj=>?_⟩
 .rcases (each x hx).2 with(z|z)|z
  .exact Zr hf z
  .exact .inl z
  .exact .inr z
 .have q:=hok.2 j hj
  cases e:N[j]? with
  |none=>rw[e]at q;cases q
  |some y=>rw[e]at q;exact⟨y,rfl,Zt q⟩
structure CB(X:Cx)(own:List Str)(ix:List Nat)(scope:Scope)(pins:List (Addr×Obj))(U:St)(tg:Expr)(cl:List (Str×Addr))(D C:Addr)(fp:List Addr)(it:Addr)(tn:Nat->Heap->Prop)(J:It)(H2:Hp)(s3:Shared):Prop where
 T:Turn X.prog X.w X.K tg J fp it tn
 ok:(Va X (Vr X own ix) scope cl C (D::fp) s3 H2).Ok
 nfp:∀b∈fp,b≠D
 f2:∀b∈fp,J8 X pins H2 b
 fD:J8 X pins H2 D
 I3:Inv X pins U H2 s3
 CD:C≠D
 fC:∀H':Hp,H' C=none->J8 X pins H' C
section
theorem X8{rest:List Comprehension}(own:List Str)(ix:List Nat)(hi:PI X tg iter wi)(hkind:scope.kind=.function)(hok:Uj scope X.env.scope.names X.N ix=true)(hs:∀x,foldedSetIterable iter X.env x=pure x)(I:Inv X pins U H s)(h:wi U H R)(loop:∀(cl:List (Str×Addr))(D C:Addr)(fp:List Addr)(it:Addr)(tn:Nat->Heap->Prop)(J:It)(H2:Hp)(s3 s5:Shared),CB X own ix scope pins U tg cl D C fp it tn J H2 s3->R J H2->Inv (Va X (Vr X own ix) scope cl C (D::fp) s3 H2) [] (JB own.length ix U) H2 s5->tn 0 s5.heap->s5.heap.PlainList D (List.toArray [])->
   codeAny (model X.prog X.w) X.A (.compLoop (.ListComp elt (⟨tg,iter,ifs,0⟩::rest) scope pos) 0 (.ref it) (.ref D) (compEnvC scope cl C X.env)) (compPost (model X.prog X.w) X.A X.xe use POST (.ref D) C) s5):
  wpAny (model X.prog X.w) X.A (comprehension (.ListComp elt (⟨tg,iter,ifs,0⟩::rest) scope pos) scope X.env cpos (newList []) false (eval iter X.env) use) POST X.xe s:=by
 obtain⟨hnames,hcell,hcap,hix⟩:=Uj.all hok;have hcells:∀x∈scope.names,x.2=.free->∃c,X.env.cells.lookup x.1=some c:=fun x hx hf=>I.ok.has x.1 (hcap x hx hf);obtain⟨cl,hcl,hcl1,hcl2⟩:=B3 hcells;refine wpAny_comprehension_free rfl hs hcl hkind hnames ?_;refine thn (hi pins s U H _ I h) fun v s1 h1=>thn h1 fun itv s2 h2=>?_;obtain⟨it,fp,tn,J,H2,e,I2,T,st2,f2,hR⟩:=h2;subst e;refine wpAny_newObj_type (wpAny_newFunctionEnv hcell (by intro y hy;simp at hy) (fun h4 hns hsb=>?_) hkind);dsimp only at hns hsb |-;generalize hh3:s2.heap.push {cls:=.type "list",dict:=none,data:=.seq ([]:List Value).toArray}=h3 at hns hsb |-;have sz3:h3.objs.size=s2.heap.objs.size+1:=by rw[<-hh3,Heap.size_push]
 have k23:∀b u,s2.heap.get? b=some u->h3.get? b=some u:=fun b u q=>by rw[<-hh3];exact ZE _ q
 have D3:h3.get? s2.heap.objs.size=some {cls:=.type "list",data:=.seq #[]}:=by rw[<-hh3];exact ZY _ rfl
 obtain⟨D,hD⟩:∃D,D=s2.heap.objs.size:=⟨_,rfl⟩;obtain⟨C,hC⟩:∃C,C=h3.objs.size:=⟨_,rfl⟩;rw[<-hC]at hns hsb;rw[<-hD]at D3 sz3;have hCD:C=D+1:=hC.trans sz3
 let s3:Shared:={s2 with heap:=h3}
 have I3:Inv X pins U H2 s3:=I2.kept (t':=s2.toks) k23;have lt3:∀b u,h3.get? b=some u->b<C:=fun b u q=>by rw[hC];exact ZP q
 have k34:∀b u,h3.get? b=some u->h4.get? b=some u:=fun b u q=>hsb.extBut b u (Ze (lt3 b u q)) (ZE _ q);have H2D:H2 D=none:=I2.hok.fresh (by rw[hD];exact ZG _);have H2C:H2 C=none:=I2.hok.fresh (by rw[hCD,hD];exact Nat.le_succ _);have fD:J8 X pins H2 D:=I2.fpOk (by rw[hD];exact ZG _) H2D
 have cellsLt:∀x c,X.env.cells.lookup x=some c->c<D:=fun x c e=>by
  obtain⟨v,z⟩:=I2.cell x c e;rw[hD];exact z.lt
 have fpLt:∀b∈fp,b<D:=fun b hb=>by
  obtain⟨o,e,_⟩:=T.obj 0 _ st2 b hb;rw[hD];exact ZP e
 let X':Cx:=Va X (Vr X own ix) scope cl C (D::fp) s3 H2
 have stkLt:∀b∈frs X.stack,b∉D::fp:=fun b hb z=>by
  rcases Zd.mp z with z|z
  .have q:=I2.stack
   obtain⟨_,o,e,_⟩:=q.mem hb;have:=ZP e;rw[z,hD]at this;exact Nat.lt_irrefl _ this
  .rcases Zd.mp (I2.stkSub b hb)with q|q
   .exact (f2 b z).2.1 q
   .exact (f2 b z).2.2.1 q
 have ok':X'.Ok:=by
  refine⟨I.ok.mod,hkind,I.ok.glob,I.ok.blt,?_,fun x y c h1 h2=>I.ok.inj x y c (hcl1 x c h1) (hcl1 y c h2),fun x hx=>hcl2 x (Xv (scope:=scope) hx hcell),(fun x c z=>Bool.noConfusion (show false=true from z)),I.ok.hd,I.ok.frames,.inl rfl,fun b hb=>⟨?_,fun x c h1=>?_⟩,fun b o e=>?_,?_,fun b o e hb=>?_,fun b hb z=>stkLt b z hb,?_,fun b hb=>I2.stkFree b hb⟩
  .show h3.objs.size<=C
   rw[hC];exact ZG _
  .show b≠C
   rcases Zd.mp hb with z|z
   .rw [z,hCD];exact Ze (Nat.lt_succ_self _)
   .rw [hCD];exact Ze (Nat.lt_succ_of_lt (fpLt b z))
  .rcases Zd.mp hb with z|z
   .rw [z];exact Ze (cellsLt x c (hcl1 x c h1))
   .exact (f2 b z).2.2.2.2.1 x c (hcl1 x c h1)
  .exact I3.bs b o e
  .show X.base.objs.size<=h3.objs.size
   have:=Zb I.ok.bsz I2.sz;rw[<-hD]at this;rw[<-hC,hCD];exact Nat.le_succ_of_le this
  .rcases Zd.mp hb with z|z
   .have:=ZP (I2.bk b o e)
    rw[z,hD]at this;exact Nat.lt_irrefl _ this
   .rcases (f2 b z).2.2.2.1 with q|q
    .exact I.ok.noex b o e q
    .have:=Zx (ZP (I.ok.bs b o e).1) q
     exact Nat.lt_irrefl _ this
  .exact I3.stack
 have lenN:(JB own.length ix U).length=(Vr X own ix).length:=by simp[JB,Vr]
 have I4:∀t,Inv X' [] (JB own.length ix U) H2 {s2 with heap:=h4,toks:=t}:=fun t=>by
  refine⟨ok',rfl,I2.bare,Un.kept k34,⟨_,hns,fun i x v e1 e2 e3=>?_⟩,fun x c e=>?_,H2C,fun x c e=>I2.freeC x c (hcl1 x c e),fun p hp=>Zr (show p∈([]:List (Addr×Obj))from hp) (by simp),(I3.hok).kept k34,lenN⟩
  .-- a name of the def that the block reads
   have hi':own.length<=i:=by
    apply Nat.le_of_not_lt;intro hlt;unfold JB at e2;rw[List.getElem?_append_left (by simpa using hlt),List.getElem?_replicate,Zp hlt]at e2;cases e2
   have e1':(ix.map fun j=>X.N.getD j ("":Str))[i-own.length]?=some x:=by
    have z:(own++ ix.map fun j=>X.N.getD j ("":Str))[i]?=some x:=e1
    rwa [List.getElem?_append_right hi']at z
   have e2':(ix.map fun j=>U.getD j none)[i-own.length]?=some (some v):=by
    unfold JB at e2;rw[List.getElem?_append_right (by simpa using hi')]at e2;simpa using e2
   rw[ZH]at e1' e2'
   cases hj:ix[i-own.length]? with
   |none=>rw[hj]at e1';cases e1'
   |some j=>
    rw[hj]at e1' e2';obtain⟨y,hy,hfree⟩:=hix j (ZJ hj)
    have ex:x=y:=by
     have z:X.N.getD j ("":Str)=x:=ZT e1';rw[<-z,List.getD_eq_getElem?_getD,hy];rfl
    subst ex
    have ev:U[j]?=some (some v):=by
     have z:U.getD j none=some v:=ZT e2';rw[List.getD_eq_getElem?_getD]at z
     cases q:U[j]? with
     |none=>rw[q]at z;cases z
     |some a=>rw[q]at z;exact congrArg some z
    have hxm:=PySem.mem_of_lookup hfree;have hvis:=hcap _ hxm rfl;obtain⟨m,hn,hl⟩:=I2.loc;obtain⟨u,r,lk⟩:=hl j x v hy ev (.inr hvis);refine⟨u,r,.inr ⟨?_,?_⟩⟩
    .rcases e3 with z|z
     .exact Zr z (Ws hfree)
     .exact z
    .rcases lk with⟨k,_⟩|⟨_,c,hc1,z⟩
     .rcases hvis with q|q
      .exact Zr (k.symm.trans q) (by simp)
      .exact Zr (k.symm.trans q) (by simp)
     .obtain ⟨c',hc'⟩:=hcl2 x hxm
      have:=hcl1 x c' hc';rw[hc1]at this;cases this;obtain⟨o,ho,hd⟩:=z;exact⟨c,hc',o,k34 _ _ (k23 _ _ ho),hd⟩
  .obtain ⟨v,z⟩:=I3.cell x c (hcl1 x c e)
   obtain⟨o,ho,hd⟩:=z;exact⟨v,o,k34 _ _ ho,hd⟩
 have B:CB X own ix scope pins U tg cl D C fp it tn J H2 s3:=⟨T,ok',fun b hb=>Ze (fpLt b hb),f2,fD,I3,by rw[hCD];exact Nat.ne_of_gt (Nat.lt_succ_self _),fun H' hn=>I2.fpOk (by rw[hCD,hD];exact Nat.le_succ _) hn⟩;have loop':=fun t=>loop cl D C fp it tn J H2 s3 {s2 with heap:=h4,toks:=t} B hR (I4 t) (T.keep 0 _ _ st2 fun b _ o e=>k34 _ _ (k23 _ _ e)) ⟨_,k34 _ _ D3⟩;rw[<-hC,<-hD];exact codeAny_compStart_list (loop' _) (T.self _ 0 _ _ _ (T.keep 0 _ _ st2 fun b _ o e=>k34 _ _ (k23 _ _ e)) (loop' _))
theorem CB.stop(B:CB X own ix scope pins U tg cl D C fp it tn J H2 s3)(I6:Inv (Va X (Vr X own ix) scope cl C (D::fp) s3 H2) [(D,oD)] τ H5 s6)(hz:ys.length<sizeLine)(v5:Vals ys its)(eo:oD={cls:=.type "list",data:=.seq its.toArray nn}):
  Inv X pins U (upd H5 D (.lst ys)) s6/\J8 X pins (upd H5 D (.lst ys)) C/\(∃m,s6.heap.Ns C m)/\H5 D=none:=by
 obtain⟨m,hn6,_⟩:=id I6.loc
 have I7:Inv X pins U H5 s6:=B.I3.call' (ch:=D::fp) I6.os I6.base I6.hok I6.bare fun b hb=>by
  rcases Zd.mp hb with z|z
  .subst z
   exact⟨B.fD.2.2.2.1,B.fD.2.1,B.fD.2.2.2.2.1,B.fD.2.2.2.2.2⟩
  .have f:=B.f2 b z
   exact⟨f.2.2.2.1,f.2.1,f.2.2.2.2.1,f.2.2.2.2.2⟩
 obtain⟨gD,nD,_⟩:=I6.pin (D,oD) (by simp);subst eo;exact⟨I7.retrack (o:=.lst ys) nD ⟨nD,B.fD.2⟩ ⟨Zh hz,its,nn,v5,gD⟩,B.fC _ (by rw[Yg B.CD];exact I6.free),⟨m,hn6⟩,nD⟩
theorem KW(I8:Inv X pins U H' s6)(fC:J8 X pins H' C)(hm:∃m,s6.heap.Ns C m)(q:Q (.ref D) H'):compPost (model X.prog X.w) X.A X.xe none (EP X pins U Q) (.ref D) C (.ok .next) s6:=by
 obtain⟨m,hn⟩:=hm;exact⟨m,hn,fun h' hs'=>⟨.ref D,_,I8.turned (it:=C) (t':=s6.toks) (fun b o hb e=>(hs'.2 b hb).trans e) fC.1 fC.2.1 fC.2.2.2.1 fC.2.2.2.2.1 fC.2.2.2.2.2,rfl,q⟩⟩
theorem KU{D0:Ends}(hN:X.N.Nodup)(hi0:X.N[i0]?=some x0)(hx0:Loc X.env.scope x0)(hf:X.fn x0=true\/X.env.scope.names.lookup x0=some .local)(I8:Inv X pins U H' s6)(fC:J8 X pins H' C)(hm:∃m,s6.heap.Ns C m)(q:Vo i0 (.ref D) U H' D0.nx):
  compPost (model X.prog X.w) X.A X.xe (some (assign (.Name x0 py) X.env)) (fun _ s'=>∃U' H',Inv X pins U' H' s'/\D0.nx U' H') (.ref D) C (.ok .next) s6:=by
 obtain⟨m,hn6⟩:=hm;show wpAny _ X.A (assign (.Name x0 py) X.env (.ref D)) _ _ _;refine wpAny_assign_Name (RH (v:=.ref D) I8 hN hi0 hx0 rfl (fun s7 I9 hs7=>?_) hf);obtain⟨a,hs7,ha⟩:=hs7
 have hCa:C≠a:=by
  rcases ha with ha|ha
  .rw [ha];exact fC.2.1
  .exact fun z=>fC.2.2.2.2.1 x0 a ha z.symm
 exact⟨m,hn6.sameBut hs7 hCa,fun h' hs'=>⟨_,_,I9.turned (it:=C) (t':=s7.toks) (fun b o hb e=>(hs'.2 b hb).trans e) fC.1 fC.2.1 fC.2.2.2.1 fC.2.2.2.2.1 fC.2.2.2.2.2,q⟩⟩
theorem Dg(hsw:swapsWith (.ListComp e gens scope pos) (some (.Name x0 py)) spos.line X.env=pure true)(h:wpAny (model X.prog X.w) X.A (comprehension (.ListComp e gens scope pos) scope X.env (firstIterPos gens pos) (newList []) (firstAsync gens) (firstIter gens X.env) (some (assign (.Name x0 py) X.env))) (fun _ s'=>∃U' H',Inv X pins U' H' s'/\D0.nx U' H') X.xe s):
  wpAny (model X.prog X.w) X.A (exec (.Assign [.Name x0 py] (.ListComp e gens scope pos) spos) X.env) (SP X pins D0) X.xe s:=by
 rw[exec_Assign_Name_used _ _ _ _ hsw];refine Zl (wpAny_standAt (Zl (?_:wpAny _ X.A (do let _ <-comprehension (.ListComp e gens scope pos) scope X.env _ (newList []) _ _ (some (assign (.Name x0 py) X.env))) _ _ s)));exact Zl (Zn h (fun _ s' hq=>Zm (Zm hq)) fun _ _ e=>e)
theorem CB.loop1(B:CB X own ix scope pins U tg cl D C fp it tn J H2 s3)(hc:X.calm=true)(hgk:GK own.length g)(hg:∀cl C fp s H,PG (Va X (Vr X own ix) scope cl C fp s H) tg g)(he:∀cl C fp s H,PE (Va X (Vr X own ix) scope cl C fp s H) elt te)(cw:Tv J g te (JB own.length ix U) Q H2)(fin:∀s6 H5 ys,Inv X pins U (upd H5 D (.lst ys)) s6->J8 X pins (upd H5 D (.lst ys)) C->(∃m,s6.heap.Ns C m)->Q (.ref D) (upd H5 D (.lst ys))->Rs (.ok .next) s6)(I4:Inv (Va X (Vr X own ix) scope cl C (D::fp) s3 H2) [] (JB own.length ix U) H2 s5)(st4:tn 0 s5.heap)(lD:s5.heap.PlainList D (List.toArray [])):
  codeAny (model X.prog X.w) X.A (.compLoop (.ListComp elt [⟨tg,iter,[],0⟩] scope pos) 0 (.ref it) (.ref D) (compEnvC scope cl C X.env)) Rs s5:=by
 obtain⟨W,⟨m0,w0⟩,turn⟩:=cw;have T:=B.T;have ok':=B.ok;have nfp:=B.nfp
 let X':Cx:=Va X (Vr X own ix) scope cl C (D::fp) s3 H2
 have fp':∀{H':Hp}{pl:List (Addr×Obj)},(∀p∈pl,p.1=D)->(∀b∈fp,H' b=none)->∀b∈fp,J8 X' pl H' b:=fun{H' pl} hp hn b hb=>
  ⟨hn b hb,(ok'.exf b (ZM _ hb)).1,ok'.exfs b (ZM _ hb),.inl (ZM _ hb),(ok'.exf b (ZM _ hb)).2,fun p hp' z=>nfp b hb (z ▸ hp p (by
   have q:p∈([]:List (Addr×Obj))++ pl:=hp';simpa using q))⟩
 have dX:D≠X'.env.locals:=(ok'.exf D Za).1;have dF:D∉X'.fs:=ok'.exfs D Za;refine Ni (fun n s'=>∃i ys its H',Inv X' [] (JB own.length ix U) H' s'/\tn i s'.heap/\(∀b∈fp,H' b=none)/\H' D=none/\s'.heap.PlainList D (List.toArray its)/\Vals ys its/\W i n ys H') ?_ m0
  ⟨0,[],[],H2,I4,st4,fun b hb=>(B.f2 b hb).1,B.fD.1,lD,.nil,w0⟩
 rintro n s5 ⟨i,ys,its,H5,I5,st5,fr5,d5,⟨nn,l5⟩,v5,w5⟩;obtain⟨hz,hcase⟩:=turn i n ys H5 w5
 let oD:Obj:={cls:=.type "list",data:=.seq its.toArray nn}
 have onlyD:∀p∈ [((D,oD):Addr×Obj)],p.1=D:=fun p hp=>by
  have e:p=(D,oD):=by simpa using hp
  rw[e]
 have I5':Inv X' [(D,oD)] (JB own.length ix U) H5 s5:=I5.pins_of fun p hp=>by
  have e:p=(D,oD):=by simpa using hp
  subst e;exact⟨l5,d5,dX,dF,fun v z=>nomatch z⟩
 rcases hcase with⟨stop,qn⟩|⟨go,step⟩
 .refine thn (T.done X' rfl rfl rfl hc i _ s5 _ H5 _ I5' (fp' onlyD fr5) st5 stop) fun r s6 ⟨hr,I6⟩=>?_
  subst hr;obtain⟨z1,z2,z3,nD⟩:=B.stop I6 hz v5 rfl;exact fin s6 H5 ys z1 z2 z3 (qn D nD)
 .refine thn (T.item X' rfl rfl rfl hc i _ s5 _ H5 _ I5' (fp' onlyD fr5) st5 go) fun r s6 ⟨u,hr,h6⟩=>?_
  subst hr;refine thn h6 fun _ s7 ⟨x,H7,I7,r7,y7,st7,fr7⟩=>?_;have I7':=I7.pinned (fp' onlyD fr7) (T.obj _ _ st7);refine thn (hg cl C (D::fp) s3 H2 _ s7 _ H7 x u _ I7' r7 (hgk _ _ _ _ (step x H7 y7))) fun _ s8 ⟨σ8,H8,I8,q8,l8,k8⟩=>?_;refine thn (he cl C (D::fp) s3 H2 _ s8 σ8 H8 _ I8 q8) fun yv s9 ⟨y,H9,I9,r9,m',hm',w9⟩=>?_;obtain⟨gD,nD,_⟩:=I9.pin (D,oD) (by simp);have hlen:its.length=ys.length:=v5.length.symm;refine wpAny_list_append_plain (l:=D) (items:=its.toArray) ⟨nn,gD⟩ (fun h' hl' hs'=>?_) (by rw[ZO,hlen];exact Zh hz);have kp:∀b o,b≠D->s9.heap.get? b=some o->h'.get? b=some o:=fun b o hb q=>(hs'.2 b hb).trans q
  have I9':Inv X' (VZ fp s7.heap) σ8 H9 s9:=I9.pins_of fun p hp=>I9.pin p (by
   refine ZU _ (ZU _ hp))
  have pinNe:∀p∈X'.pn++ VZ fp s7.heap,p.1≠D:=fun p hp=>by
   have q:p∈([]:List (Addr×Obj))++ VZ fp s7.heap:=hp;exact nfp _ (WW (by simpa using q)).1
  have I10:Inv X' (VZ fp s7.heap) σ8 H9 {s9 with heap:=h',toks:=s9.toks}:=I9'.turned (it:=D) kp nD dX (.inl Za) (ok'.exf D Za).2 pinNe;refine⟨m',hm',i+1,ys++[y],its++[yv],H9,?_,?_,?_,nD,?_,v5.append (.cons r9 .nil),w9⟩
  .refine Inv.weak (I10.pins_of (pins':=[]) fun p hp=>nomatch hp) (by rw[l8]) fun j v hj=>?_
   by_cases hlt:j<own.length
   .unfold JB at hj
    rw[List.getElem?_append_left (by simpa using hlt),List.getElem?_replicate,Zp hlt]at hj;cases hj
   .have e:σ8[j]?=(JB own.length ix U)[j]?:=by
     have q:=congrArg (fun l:List (Option V)=>l[j-own.length]?) k8;simp only[List.getElem?_drop]at q
     rwa [Nat.add_sub_cancel' (Nat.le_of_not_lt hlt)]at q
    rw[e];exact hj
  .exact T.keep _ _ _ st7 fun b hb o e=>(I10.pin (b,o) (ZU _ (JO hb e))).1
  .intro b hb
   obtain⟨o,e,d⟩:=T.obj _ _ st7 b hb;exact(I10.pin (b,o) (ZU _ (JO hb e))).2.1
  .have e:(its++[yv]).toArray=its.toArray.push yv:=by simp
   rw[e];exact hl'
end
abbrev two(elt tg iter tg2 iter2:Expr)(scope:Scope)(pos:Pos):Expr:=.ListComp elt [⟨tg,iter,[],0⟩,⟨tg2,iter2,[],0⟩] scope pos
section
theorem Bf:compTurn (two elt tg iter tg2 iter2 scope pos) 0 it acc env=(standAt iter.pos >>=fun _=>pyNext it >>=fun r=>match r with
  |none=>pure (.done .next)
  |some v=>letOwnedTupleGo tg it v >>=fun _=>assign tg env v >>=fun _=>eval iter2 env >>=fun x=>standAt iter2.pos >>=fun _=>foldedSetIterable iter2 env x >>=fun x=>holding [x] (pyIter x) >>=fun j=>
    runOwn (.compStart (two elt tg iter tg2 iter2 scope pos) 1 j acc env) env >>=fun _=>again (.compLoop (two elt tg iter tg2 iter2 scope pos) 0 it acc env)):=by rfl
theorem Bw:compTurn (two elt tg iter tg2 iter2 scope pos) 1 it acc env=(standAt iter2.pos >>=fun _=>pyNext it >>=fun r=>match r with
  |none=>pure (.done .next)
  |some v=>letOwnedTupleGo tg2 it v >>=fun _=>assign tg2 env v >>=fun _=>(eval elt env >>=fun x=>call (.builtin "list.append") [acc,x] >>=fun _=>pure ()) >>=fun _=>
    again (.compLoop (two elt tg iter tg2 iter2 scope pos) 1 it acc env)):=by rfl
theorem Iw(I:Nat->Shared->Prop)(turn:∀n s,I n s->wpAny (model prog w) A (pyNext it) (fun r s1=>match r with
   |none=>R (.ok .next) s1
   |some v=>wpAny (model prog w) A (letOwnedTupleGo tg2 it v) (fun _ s2=>wpAny (model prog w) A (assign tg2 env v) (fun _ s3=>wpAny (model prog w) A (eval elt env) (fun x s4=>
     wpAny (model prog w) A (call (.builtin "list.append") [acc,x]) (fun _ s5=>∃m,m<n/\I m s5) (fun _ _=>False) s4) (fun _ _=>False) s3) (fun _ _=>False) s2) (fun _ _=>False) s1) (fun _ _=>False) s)(n:Nat)(h:I n s):codeAny (model prog w) A (.compLoop (two elt tg iter tg2 iter2 scope pos) 1 it acc env) R s:=by
 refine codeAny_loop rfl I (fun n s hI=>wpAny_noted (m:=compTurn (two elt tg iter tg2 iter2 scope pos) 1 it acc env) ?_) n h;rw[Bw];refine Zl (wpAny_standAt (Zl (Zn (turn n s hI) (fun r s1 h1=>?_) fun _ _ z=>z.elim)))
 cases r with
 |none=>exact Zm h1
 |some v=>
  exact Zl (Zn h1 (fun _ s2 h2=>Zl (Zn h2 (fun _ s3 h3=>Zl (Zl (Zn h3 (fun x s4 h4=>Zl (Zn h4
   (fun _ s5 h5=>Zm (Zm ⟨rfl,h5⟩)) fun _ _ z=>z.elim)) fun _ _ z=>z.elim))) fun _ _ z=>z.elim)) fun _ _ z=>z.elim)
theorem NW(h0:codeAny (model prog w) A (.compLoop (two elt tg iter tg2 iter2 scope pos) 1 it acc env) R s)(h:wpAny (model prog w) A (pyIter it) (fun j s'=>codeAny (model prog w) A (.compLoop (two elt tg iter tg2 iter2 scope pos) 1 j acc env) R s') (fun _ _=>False) s):
  codeAny (model prog w) A (.compStart (two elt tg iter tg2 iter2 scope pos) 1 it acc env) R s:=by
 refine codeAny_of_tree (wpAny_notedAt (m:=compStart (two elt tg iter tg2 iter2 scope pos) 1 it acc env) (pos:=theWindowsPlace) ?_);simp only[compStart];refine Zl (m:=ask) (wpAny_askSetting ?_)
 split
 .exact Zl (Zm (Zm ⟨rfl,h0⟩))
 .exact Zl (wpAny_rule (Zl (wpAny_standAt (Zl (Zn h (fun j s' h'=>Zm ⟨rfl,h'⟩) fun _ _ z=>z.elim)))))
theorem II(I:Nat->Shared->Prop)(turn:∀n s,I n s->wpAny (model prog w) A (pyNext it) (fun r s1=>match r with
   |none=>R (.ok .next) s1
   |some v=>wpAny (model prog w) A (letOwnedTupleGo tg it v) (fun _ s2=>wpAny (model prog w) A (assign tg env v) (fun _ s3=>wpAny (model prog w) A (eval iter2 env) (fun x s4=>
     wpAny (model prog w) A (pyIter x) (fun j s5=>codeAny (model prog w) (A.mark none) (.compStart (two elt tg iter tg2 iter2 scope pos) 1 j acc env) (fun r s6=>match r with|.ok _=>∃m,m<n/\I m s6|.error _=>False) s5) (fun _ _=>False) s4) (fun _ _=>False) s3) (fun _ _=>False) s2) (fun _ _=>False) s1) (fun _ _=>False) s)(hs:∀x,foldedSetIterable iter2 env x=pure x)(n:Nat)(h:I n s):codeAny (model prog w) A (.compLoop (two elt tg iter tg2 iter2 scope pos) 0 it acc env) R s:=by
 refine codeAny_loop rfl I (fun n s hI=>wpAny_noted (m:=compTurn (two elt tg iter tg2 iter2 scope pos) 0 it acc env) ?_) n h;rw[Bf];refine Zl (wpAny_standAt (Zl (Zn (turn n s hI) (fun r s1 h1=>?_) fun _ _ z=>z.elim)))
 cases r with
 |none=>exact Zm h1
 |some v=>
  refine Zl (Zn h1 (fun _ s2 h2=>Zl (Zn h2 (fun _ s3 h3=>Zl (Zn h3 (fun x s4 h4=>Zl (wpAny_standAt ?_)) fun _ _ z=>z.elim)) fun _ _ z=>z.elim)) fun _ _ z=>z.elim);rw[hs x];refine Zl (Zm (Zl (wpAny_holding (Zn h4 (fun j s5 h5=>Zl (wpAny_runOwn (codeAny_mono h5 fun r s6 h6=>?_))) fun _ _ z=>z.elim))))
  cases r with
  |error e=>exact h6.elim
  |ok f=>exact Zm ⟨rfl,h6⟩
end
def In2(wi2:TI)(te:TE)(W:Nat->Nat->List V->Hp->Prop)(i m:Nat)(ys:List V):St->Hp->Prop:=fun U H=>wi2 U H fun J2 H3=>∃W2:Nat->Nat->List V->Hp->Prop,(∃m2,W2 0 m2 ys H3)/\∀j m2 zs H4,W2 j m2 zs H4->
 zs.length<sizeLine/\((J2.stop j H4/\∃m',m'<m/\W (i+1) m' zs H4) \/
  (J2.go j H4/\∀y H5,J2.yld j H4 y H5->te (U.set 1 (some y)) H5 fun v H6=>∃m2',m2'<m2/\W2 (j+1) m2' (zs++[v]) H6))
def DH(J:It)(wi2:TI)(te:TE)(s0:St)(Q:VK)(H1:Hp):Prop:=∃W:Nat->Nat->List V->Hp->Prop,(∃m,W 0 m [] H1)/\∀i m ys H,W i m ys H->
 ys.length<sizeLine/\((J.stop i H/\∀p,H p=none->Q (.ref p) (upd H p (.lst ys))) \/
  (J.go i H/\∀x H',J.yld i H x H'->In2 wi2 te W i m ys (s0.set 0 (some x)) H'))
def FG(ix:List Nat)(wi wi2:TI)(te:TE):TE:=fun U H Q=>wi U H fun J H1=>DH J wi2 te (JB 2 ix U) Q H1
theorem O9(h:Vo i x U H Q):Vo i x U H fun σ2 H2=>Q σ2 H2/\σ2=U.set i (some x):=⟨h,rfl⟩
section
theorem CB.loop2(B:CB X [x1,x2] ix scope pins U (.Name x1 p1) cl D C fp it tn J H2 s3)(hc:X.calm=true)(hg:∀cl C fp s H,PG (Va X (Vr X [x1,x2] ix) scope cl C fp s H) (.Name x1 p1) (Vo 0))(hi2:∀cl C fp s H,PI (Va X (Vr X [x1,x2] ix) scope cl C fp s H) (.Name x2 p2) iter2 wi2)(hg2:∀cl C fp s H,PG (Va X (Vr X [x1,x2] ix) scope cl C fp s H) (.Name x2 p2) (Vo 1))(he:∀cl C fp s H,PE (Va X (Vr X [x1,x2] ix) scope cl C fp s H) elt te)(hs2:∀env x,foldedSetIterable iter2 env x=pure x)(cw:DH J wi2 te (JB 2 ix U) Q H2)(fin:∀s6 H5 ys,Inv X pins U (upd H5 D (.lst ys)) s6->J8 X pins (upd H5 D (.lst ys)) C->(∃m,s6.heap.Ns C m)->Q (.ref D) (upd H5 D (.lst ys))->Rs (.ok .next) s6)(I4:Inv (Va X (Vr X [x1,x2] ix) scope cl C (D::fp) s3 H2) [] (JB ([x1,x2]:List Str).length ix U) H2 s5)(st4:tn 0 s5.heap)(lD:s5.heap.PlainList D (List.toArray [])):
  codeAny (model X.prog X.w) X.A (.compLoop (two elt (.Name x1 p1) iter (.Name x2 p2) iter2 scope pos) 0 (.ref it) (.ref D) (compEnvC scope cl C X.env)) Rs s5:=by
 have hgk:GK ([x1,x2]:List Str).length (Vo 0):=Vu (i:=0) (by simp);obtain⟨W,⟨m0,w0⟩,turn⟩:=cw;have T:=B.T;have ok':=B.ok;have nfp:=B.nfp
 let X':Cx:=Va X (Vr X [x1,x2] ix) scope cl C (D::fp) s3 H2
 have fp':∀{H':Hp}{pl:List (Addr×Obj)},(∀p∈pl,p.1=D)->(∀b∈fp,H' b=none)->∀b∈fp,J8 X' pl H' b:=fun{H' pl} hp hn b hb=>
  ⟨hn b hb,(ok'.exf b (ZM _ hb)).1,ok'.exfs b (ZM _ hb),.inl (ZM _ hb),(ok'.exf b (ZM _ hb)).2,fun p hp' z=>nfp b hb (z ▸ hp p (by
   have q:p∈([]:List (Addr×Obj))++ pl:=hp';simpa using q))⟩
 have dX:D≠X'.env.locals:=(ok'.exf D Za).1;have dF:D∉X'.fs:=ok'.exfs D Za;refine II (fun n s'=>∃i ys its H',Inv X' [] (JB ([x1,x2]:List Str).length ix U) H' s'/\tn i s'.heap/\(∀b∈fp,H' b=none)/\H' D=none/\s'.heap.PlainList D (List.toArray its)/\Vals ys its/\W i n ys H') ?_ (hs2 _) m0
  ⟨0,[],[],H2,I4,st4,fun b hb=>(B.f2 b hb).1,B.fD.1,lD,.nil,w0⟩
 rintro n s5 ⟨i,ys,its,H5,I5,st5,fr5,d5,⟨nn,l5⟩,v5,w5⟩;obtain⟨hz,hcase⟩:=turn i n ys H5 w5
 let oD:Obj:={cls:=.type "list",data:=.seq its.toArray nn}
 have onlyD:∀p∈ [((D,oD):Addr×Obj)],p.1=D:=fun p hp=>by
  have e:p=(D,oD):=by simpa using hp
  rw[e]
 have I5':Inv X' [(D,oD)] (JB ([x1,x2]:List Str).length ix U) H5 s5:=I5.pins_of fun p hp=>by
  have e:p=(D,oD):=by simpa using hp
  subst e;exact⟨l5,d5,dX,dF,fun v z=>nomatch z⟩
 rcases hcase with⟨stop,qn⟩|⟨go,step⟩
 .refine thn (T.done X' rfl rfl rfl hc i _ s5 _ H5 _ I5' (fp' onlyD fr5) st5 stop) fun r s6 ⟨hr,I6⟩=>?_
  subst hr;obtain⟨z1,z2,z3,nD⟩:=B.stop I6 hz v5 rfl;exact fin s6 H5 ys z1 z2 z3 (qn D nD)
 .refine thn (T.item X' rfl rfl rfl hc i _ s5 _ H5 _ I5' (fp' onlyD fr5) st5 go) fun r s6 ⟨u,hr,h6⟩=>?_
  subst hr;refine thn h6 fun _ s7 ⟨x,H7,I7,r7,y7,st7,fr7⟩=>?_;have I7':=I7.pinned (fp' onlyD fr7) (T.obj _ _ st7);refine thn (hg cl C (D::fp) s3 H2 _ s7 _ H7 x u _ I7' r7 (hgk _ _ _ _ (O9 (Q:=In2 wi2 te W i n ys) (step x H7 y7)))) fun _ s8 ⟨σ8,H8,I8,q8,l8,k8⟩=>?_;have e8:σ8=(JB ([x1,x2]:List Str).length ix U).set 0 (some x):=by exact q8.2
  replace q8:=q8.1;refine thn (hi2 cl C (D::fp) s3 H2 _ s8 σ8 H8 _ I8 q8) fun v9 s9 h9=>thn h9 fun jv s10 h10=>?_;obtain⟨it2,fp2,tn2,J2,H10,ej,I10,T2,st10,f10,W2,⟨m20,w20⟩,turn2⟩:=h10;subst ej;rw[Around.mark_none];obtain⟨gD0,nD0,_⟩:=I10.pin (D,oD) (by simp);have n2D:∀b∈fp2,b≠D:=fun b hb z=>(f10 b hb).2.2.2.2.2 (D,oD) (by simp) z.symm
  have cut:∀{H9:Hp}{σ9:St}{s9:Shared}{more:List (Addr×Obj)},Inv X' (([(D,oD)]++ VZ fp s7.heap)++ more) σ9 H9 s9->Inv X' (VZ fp s7.heap) σ9 H9 s9:=fun{H9 σ9 s9 more} I9=>
   I9.pins_of fun p hp=>I9.pin p (ZU _ (List.mem_append_left _ (ZU _ hp)))
  have pinNe:∀p∈X'.pn++ VZ fp s7.heap,p.1≠D:=fun p hp=>by
   have q:p∈([]:List (Addr×Obj))++ VZ fp s7.heap:=hp;exact nfp _ (WW (by simpa using q)).1
  have fpP:∀{H9:Hp}{o9:Obj},(∀b∈fp2,H9 b=none)->∀b∈fp2,J8 X' ([(D,o9)]++ VZ fp s7.heap) H9 b:=fun{H9 o9} hn b hb=>by
   obtain⟨_,k1,k2,k3,k4,k5⟩:=f10 b hb;refine⟨hn b hb,k1,k2,k3,k4,fun p hp=>?_⟩
   have hp':p=(D,o9)\/p∈VZ fp s7.heap:=by
    have q:p∈([]:List (Addr×Obj))++ ([(D,o9)]++ VZ fp s7.heap):=hp;simpa using q
   rcases hp' with rfl|hp'
   .exact (n2D b hb).symm
   .exact k5 p (by
     show p∈([]:List (Addr×Obj))++ ([(D,oD)]++ VZ fp s7.heap);simp[hp'])
  let R2:Result->Shared->Prop:=fun r s6=>match r with
   |.ok _=>∃m,m<n/\∃i ys its H',Inv X' [] (JB ([x1,x2]:List Str).length ix U) H' s6/\tn i s6.heap/\(∀b∈fp,H' b=none)/\H' D=none/\s6.heap.PlainList D (List.toArray its)/\Vals ys its/\W i m ys H'
   |.error _=>False
  have inner:∀(sA:Shared),(Inv X' (VZ fp s7.heap) σ8 H10 sA/\tn2 0 sA.heap/\sA.heap.PlainList D (List.toArray its))->codeAny (model X.prog X.w) X.A (.compLoop (two elt (.Name x1 p1) iter (.Name x2 p2) iter2 scope pos) 1 (.ref it2) (.ref D) (compEnvC scope cl C X.env)) R2 sA:=fun sA hA=>by
   refine Iw (fun k s'=>∃j zs us H',Inv X' (VZ fp s7.heap) σ8 H' s'/\tn2 j s'.heap/\(∀b∈fp2,H' b=none)/\H' D=none/\s'.heap.PlainList D (List.toArray us)/\Vals zs us/\W2 j k zs H') ?_ m20
    ⟨0,ys,its,H10,hA.1,hA.2.1,fun b hb=>(f10 b hb).1,nD0,hA.2.2,v5,w20⟩
   rintro k sB ⟨j,zs,us,HB,IB,stB,frB,dB,⟨nB,lB⟩,vB,wB⟩;obtain⟨hzB,hcB⟩:=turn2 j k zs HB wB
   let oB:Obj:={cls:=.type "list",data:=.seq us.toArray nB}
   have IB':Inv X' ([(D,oB)]++ VZ fp s7.heap) σ8 HB sB:=IB.pins_of fun p hp=>by
    rcases ZX.mp hp with here|there
    .have e:p=(D,oB):=by simpa using here
     subst e;exact⟨lB,dB,dX,dF,fun v z=>nomatch z⟩
    .exact IB.pin p (ZU _ there)
   rcases hcB with⟨stop2,m',hm',wO⟩|⟨go2,step2⟩
   .refine thn (T2.done X' rfl rfl rfl hc j _ sB _ HB _ IB' (fpP frB) stB stop2) fun r sC ⟨hr,IC⟩=>?_
    subst hr
    obtain⟨gC,nC,_⟩:=IC.pin (D,oB) (by
     show(D,oB)∈([]:List (Addr×Obj))++ ([(D,oB)]++ VZ fp s7.heap);simp)
    have IC':Inv X' (VZ fp s7.heap) σ8 HB sC:=IC.pins_of fun p hp=>IC.pin p (ZU _ (ZU _ hp));refine⟨m',hm',i+1,zs,us,HB,?_,?_,?_,nC,⟨nB,gC⟩,vB,wO⟩
    .refine Inv.weak (IC'.pins_of (pins':=[]) fun p hp=>nomatch hp) (by rw[l8]) fun j v hj=>?_
     by_cases hlt:j<([x1,x2]:List Str).length
     .unfold JB at hj
      rw[List.getElem?_append_left (by simpa using hlt),List.getElem?_replicate,Zp hlt]at hj;cases hj
     .have e:σ8[j]?=(JB ([x1,x2]:List Str).length ix U)[j]?:=by
       have q:=congrArg (fun l:List (Option V)=>l[j-([x1,x2]:List Str).length]?) k8;simp only[List.getElem?_drop]at q
       rwa [Nat.add_sub_cancel' (Nat.le_of_not_lt hlt)]at q
      rw[e];exact hj
    .exact T.keep _ _ _ st7 fun b hb o e=>(IC'.pin (b,o) (ZU _ (JO hb e))).1
    .intro b hb
     obtain⟨o,e,d⟩:=T.obj _ _ st7 b hb;exact(IC'.pin (b,o) (ZU _ (JO hb e))).2.1
   .refine thn (T2.item X' rfl rfl rfl hc j _ sB _ HB _ IB' (fpP frB) stB go2) fun r sC ⟨u2,hr,hC6⟩=>?_
    subst hr;refine thn hC6 fun _ sD ⟨y2,HD,ID,rD,yD,stD,frD⟩=>?_;have ID':=ID.pinned (fpP frD) (T2.obj _ _ stD);refine thn (hg2 cl C (D::fp) s3 H2 _ sD _ HD y2 u2 _ ID' rD (O9 (Q:=fun U H=>te U H fun v H6=>∃m2',m2'<k/\W2 (j+1) m2' (zs++[v]) H6) (step2 y2 HD yD))) fun _ sE ⟨σE,HE,IE,qE⟩=>?_;have eE:σE=σ8.set 1 (some y2):=by exact qE.2
    replace qE:=qE.1;refine thn (he cl C (D::fp) s3 H2 _ sE σE HE _ IE qE) fun yv sF ⟨yy,HF,IF,rF,m2',hm2',wF⟩=>?_
    obtain⟨gD,nD,_⟩:=IF.pin (D,oB) (by
     show(D,oB)∈([]:List (Addr×Obj))++ (([(D,oB)]++ VZ fp s7.heap)++ VZ fp2 sD.heap);simp)
    have hlen:us.length=zs.length:=vB.length.symm;refine wpAny_list_append_plain (l:=D) (items:=us.toArray) ⟨nB,gD⟩ (fun h' hl' hs'=>?_) (by rw[ZO,hlen];exact Zh hzB);have kp:∀b o,b≠D->sF.heap.get? b=some o->h'.get? b=some o:=fun b o hb q=>(hs'.2 b hb).trans q;have IF':Inv X' (VZ fp s7.heap) σE HF sF:=IF.pins_of fun p hp=>IF.pin p (ZU _ (List.mem_append_left _ (ZU _ hp)));have IG:Inv X' (VZ fp s7.heap) σE HF {sF with heap:=h',toks:=sF.toks}:=IF'.turned (it:=D) kp nD dX (.inl Za) (ok'.exf D Za).2 pinNe
    have at2:∀b∈fp2,∀o,sD.heap.get? b=some o->sF.heap.get? b=some o/\HF b=none:=fun b hb o q=>by
     have z:=IF.pin (b,o) (ZU _ (ZU _ (JO hb q)));exact⟨z.1,z.2.1⟩
    refine⟨m2',hm2',j+1,zs++[yy],us++[yv],HF,?_,?_,?_,nD,?_,vB.append (.cons rF .nil),wF⟩
    .refine Inv.weak IG (by rw[eE,List.length_set]) fun q v hq=>?_
     rw[eE]
     have ne1:q≠1:=fun z=>by
      subst z;rw[e8]at hq;simp[JB,List.getElem?_append]at hq
     rw[List.getElem?_set_ne (Zs ne1)];exact hq
    .exact T2.keep _ _ _ stD fun b hb o q=>kp b o (n2D b hb) (at2 b hb o q).1
    .intro b hb
     obtain⟨o,q,_⟩:=T2.obj _ _ stD b hb;exact(at2 b hb o q).2
    .have e:(us++[yv]).toArray=us.toArray.push yv:=by simp
     rw[e];exact hl'
  have st0:Inv X' (VZ fp s7.heap) σ8 H10 s10/\tn2 0 s10.heap/\s10.heap.PlainList D (List.toArray its):=⟨I10.pins_of fun p hp=>I10.pin p (ZU _ (ZU _ hp)),st10,⟨nn,gD0⟩⟩;exact NW (inner s10 st0) (T2.self _ 0 _ _ _ st10 (inner s10 st0))
theorem V6(own:List Str)(ix:List Nat)(hi:PI X tg iter wi)(hgk:GK own.length g)(hg:∀cl C fp s H,PG (Va X (Vr X own ix) scope cl C fp s H) tg g)(he:∀cl C fp s H,PE (Va X (Vr X own ix) scope cl C fp s H) elt te)(hc:X.calm=true:=by rfl)(hkind:scope.kind=.function:=by rfl)(hok:Uj scope X.env.scope.names X.N ix=true:=by rfl)(hs:∀x,foldedSetIterable iter X.env x=pure x:=by intro _;rfl):
  PE X (.ListComp elt [⟨tg,iter,[],0⟩] scope pos) (Oq own.length ix wi g te):=by
 intro pins s U H Q I h;rw[eval_ListComp];exact X8 own ix hi hkind hok hs I h fun cl D C fp it tn J H2 s3 s5 B cw I4 st4 lD=>B.loop1 hc hgk hg he cw (fun s6 H5 ys z1 z2 z3 q=>KW z1 z2 z3 q) I4 st4 lD
theorem Dh(own:List Str)(ix:List Nat)(hN:X.N.Nodup)(hi0:X.N[i0]?=some x0)(hx0:Loc X.env.scope x0)(hi:PI X tg iter wi)(hgk:GK own.length g)(hg:∀cl C fp s H,PG (Va X (Vr X own ix) scope cl C fp s H) tg g)(he:∀cl C fp s H,PE (Va X (Vr X own ix) scope cl C fp s H) elt te)(hc:X.calm=true:=by rfl)(hkind:scope.kind=.function:=by rfl)(hok:Uj scope X.env.scope.names X.N ix=true:=by rfl)(hsw:swapsWith (.ListComp elt [⟨tg,iter,[],0⟩] scope pos) (some (.Name x0 py)) spos.line X.env=pure true:=by rfl)(hf:X.fn x0=true\/X.env.scope.names.lookup x0=some .local:=by first|exact .inl rfl|exact .inr rfl|assumption)(hs:∀x,foldedSetIterable iter X.env x=pure x:=by intro _;rfl):
  PS X (.Assign [.Name x0 py] (.ListComp elt [⟨tg,iter,[],0⟩] scope pos) spos) (EG (Oq own.length ix wi g te) (Vo i0)):=by
 intro pins s U H D0 I h;exact Dg hsw (X8 own ix hi hkind hok hs I h fun cl D C fp it tn J H2 s3 s5 B cw I4 st4 lD=>B.loop1 hc hgk hg he cw (fun s6 H5 ys z1 z2 z3 q=>KU hN hi0 hx0 hf z1 z2 z3 q) I4 st4 lD)
theorem Lh(ix:List Nat)(hi:PI X (.Name x1 p1) iter wi)(hg:∀cl C fp s H,PG (Va X (Vr X [x1,x2] ix) scope cl C fp s H) (.Name x1 p1) (Vo 0))(hi2:∀cl C fp s H,PI (Va X (Vr X [x1,x2] ix) scope cl C fp s H) (.Name x2 p2) iter2 wi2)(hg2:∀cl C fp s H,PG (Va X (Vr X [x1,x2] ix) scope cl C fp s H) (.Name x2 p2) (Vo 1))(he:∀cl C fp s H,PE (Va X (Vr X [x1,x2] ix) scope cl C fp s H) elt te)(hc:X.calm=true:=by rfl)(hkind:scope.kind=.function:=by rfl)(hok:Uj scope X.env.scope.names X.N ix=true:=by rfl)(hs:∀x,foldedSetIterable iter X.env x=pure x:=by intro _;rfl)(hs2:∀env x,foldedSetIterable iter2 env x=pure x:=by intro _ _;rfl):
  PE X (.ListComp elt [⟨.Name x1 p1,iter,[],0⟩,⟨.Name x2 p2,iter2,[],0⟩] scope pos) (FG ix wi wi2 te):=by
 intro pins s U H Q I h;rw[eval_ListComp];exact X8 [x1,x2] ix hi hkind hok hs I h fun cl D C fp it tn J H2 s3 s5 B cw I4 st4 lD=>B.loop2 hc hg hi2 hg2 he hs2 cw (fun s6 H5 ys z1 z2 z3 q=>KW z1 z2 z3 q) I4 st4 lD
theorem LV(ix:List Nat)(hN:X.N.Nodup)(hi0:X.N[i0]?=some x0)(hx0:Loc X.env.scope x0)(hi:PI X (.Name x1 p1) iter wi)(hg:∀cl C fp s H,PG (Va X (Vr X [x1,x2] ix) scope cl C fp s H) (.Name x1 p1) (Vo 0))(hi2:∀cl C fp s H,PI (Va X (Vr X [x1,x2] ix) scope cl C fp s H) (.Name x2 p2) iter2 wi2)(hg2:∀cl C fp s H,PG (Va X (Vr X [x1,x2] ix) scope cl C fp s H) (.Name x2 p2) (Vo 1))(he:∀cl C fp s H,PE (Va X (Vr X [x1,x2] ix) scope cl C fp s H) elt te)(hc:X.calm=true:=by rfl)(hkind:scope.kind=.function:=by rfl)(hok:Uj scope X.env.scope.names X.N ix=true:=by rfl)(hsw:swapsWith (.ListComp elt [⟨.Name x1 p1,iter,[],0⟩,⟨.Name x2 p2,iter2,[],0⟩] scope pos) (some (.Name x0 py)) spos.line X.env=pure true:=by rfl)(hf:X.fn x0=true\/X.env.scope.names.lookup x0=some .local:=by first|exact .inl rfl|exact .inr rfl|assumption)(hs:∀x,foldedSetIterable iter X.env x=pure x:=by intro _;rfl)(hs2:∀env x,foldedSetIterable iter2 env x=pure x:=by intro _ _;rfl):
  PS X (.Assign [.Name x0 py] (.ListComp elt [⟨.Name x1 p1,iter,[],0⟩,⟨.Name x2 p2,iter2,[],0⟩] scope pos) spos) (EG (FG ix wi wi2 te) (Vo i0)):=by
 intro pins s U H D0 I h;exact Dg hsw (X8 [x1,x2] ix hi hkind hok hs I h fun cl D C fp it tn J H2 s3 s5 B cw I4 st4 lD=>B.loop2 hc hg hi2 hg2 he hs2 cw (fun s6 H5 ys z1 z2 z3 q=>KU hN hi0 hx0 hf z1 z2 z3 q) I4 st4 lD)
end
theorem Tq(n:Nat)(Pv:Nat->List V->Hp->Prop)(h0:Pv 0 [] H)(hlen:∀i vs H,Pv i vs H->vs.length<sizeLine)(hgo:∀i vs H,i<n->Pv i vs H->J.go i H)(hstop:∀vs H,Pv n vs H->J.stop n H)(hs:∀i vs H x H' (R:List V->Hp->Prop),i<n->Pv i vs H->J.yld i H x H'->(∀zs H3,Pv (i+1) zs H3->R zs H3)->wi2 (s0.set 0 (some x)) H' fun J2 H3=>∃W2:Nat->Nat->List V->Hp->Prop,(∃m2,W2 0 m2 vs H3)/\∀j m2 zs H4,W2 j m2 zs H4->
   zs.length<sizeLine/\((J2.stop j H4/\R zs H4)\/(J2.go j H4/\∀y H5,J2.yld j H4 y H5->te ((s0.set 0 (some x)).set 1 (some y)) H5 fun v H6=>∃m2',m2'<m2/\W2 (j+1) m2' (zs++[v]) H6)))(hd:∀vs H p,Pv n vs H->H p=none->Q (.ref p) (upd H p (.lst vs))):DH J wi2 te s0 Q H:=by
 refine⟨fun i m vs H=>m=n-i/\i<=n/\Pv i vs H,⟨n,by simp,Zc _,h0⟩,fun i m vs H z=>?_⟩;obtain⟨rfl,hi,p⟩:=z;refine⟨hlen i vs H p,?_⟩;rcases Nat.lt_or_ge i n with hlt|hge
 .exact .inr ⟨hgo i vs H hlt p,fun x H' y=>hs i vs H x H' _ hlt p y fun zs H3 p3=>⟨n-(i+1),by omega,rfl,hlt,p3⟩⟩
 .have e:i=n:=by omega
  subst e;exact .inl ⟨hstop vs H p,fun b hb=>hd vs H b p hb⟩
theorem NX{J2:It}{te:TE}{s1:St}{R:List V->Hp->Prop}(n:Nat)(Pv:Nat->List V->Hp->Prop)(h0:Pv 0 ys H3)(hlen:∀j zs H,Pv j zs H->zs.length<sizeLine)(hgo:∀j zs H,j<n->Pv j zs H->J2.go j H)(hstop:∀zs H,Pv n zs H->J2.stop n H)(hs:∀j zs H y H' (T:V->Hp->Prop),j<n->Pv j zs H->J2.yld j H y H'->(∀v H6,Pv (j+1) (zs++[v]) H6->T v H6)->te (s1.set 1 (some y)) H' T)(hd:∀zs H,Pv n zs H->R zs H):
  ∃W2:Nat->Nat->List V->Hp->Prop,(∃m2,W2 0 m2 ys H3)/\∀j m2 zs H4,W2 j m2 zs H4->
   zs.length<sizeLine/\((J2.stop j H4/\R zs H4)\/(J2.go j H4/\∀y H5,J2.yld j H4 y H5->te (s1.set 1 (some y)) H5 fun v H6=>∃m2',m2'<m2/\W2 (j+1) m2' (zs++[v]) H6)):=by
 refine⟨fun j m zs H=>m=n-j/\j<=n/\Pv j zs H,⟨n,by simp,Zc _,h0⟩,fun j m zs H z=>?_⟩;obtain⟨rfl,hi,p⟩:=z;refine⟨hlen j zs H p,?_⟩;rcases Nat.lt_or_ge j n with hlt|hge
 .exact .inr ⟨hgo j zs H hlt p,fun y H5 yl=>hs j zs H y H5 _ hlt p yl fun v H6 p6=>⟨n-(j+1),by omega,rfl,hlt,p6⟩⟩
 .have e:j=n:=by omega
  subst e;exact .inl ⟨hstop zs H p,hd zs H p⟩
end L2
namespace L2
open PySem PySem.Spec PyProof.Rows
section
def Sh(K:W.Frag):List V->Hp->VK->Prop:=fun xs H Q=>∃x T t b,xs=[x,.ty T]/\Xp K H x t/\W.kitOne K t (.type T)=some b/\Q (.bl b) H
theorem Ko:Jb X (.builtin "isinstance") (Sh X.K):=by
 intro pins s U H xs us Q I r h;obtain⟨x,T,t,b,rfl,ty,e,q⟩:=h;obtain⟨u,w',rfl,ru,rw'⟩:=vals2 r;cases rw';exact Eg I ru ty e fun tk=>⟨.bl b,H,I.tok _,rfl,q⟩
theorem RD:∀{ys:List Str}{us:List Value},Vals (ys.map V.str) us->StrsAre us ys
 |[],_,r=>by cases r;exact .nil
 |y::ys,_,r=>by
  cases r with
  |cons h t=>
   obtain⟨tk,e⟩:=h;subst e;exact .cons _ _ (RD t)
def rJoin(K:W.Frag):V->List V->Hp->VK->Prop:=fun x vs H Q=>∃z p ys,x=.str z/\vs=[.ref p]/\SqL K H p (ys.map V.str)/\(ys.map (·.length)).sum+ys.length*z.length<=16777216/\Q (.str (Txt.join z ys)) H
theorem L8:MtR X "str.join" (rJoin X.K):=by
 intro pins s U H x vs v us Q I rx rv h;obtain⟨z,p,ys,rfl,rfl,hq,hz,q⟩:=h;obtain⟨t,rfl⟩:=rx;obtain⟨u,rfl,ru⟩:=vals1 rv;cases ru;obtain⟨its,r,pl,hl⟩:=I.list hq;exact join_list pl.isList (by simpa using RD r) hz fun t' k=>⟨.str _,H,I.tok _,⟨_,rfl⟩,q⟩
def QA:V->List V->Hp->VK->Prop:=fun x vs H Q=>∃z y i rest,x=.str z/\vs=[.str y]/\Builtin.Str.occurrences z y 0 z.length 1=i::rest/\Q (.int (i:Nat)) H
theorem Im:MtR X "str.index" QA:=by
 intro pins s U H x vs v us Q I rx rv h;obtain⟨z,y,i,rest,rfl,rfl,ho,q⟩:=h;obtain⟨t,rfl⟩:=rx;obtain⟨u,rfl,t',rfl⟩:=vals1 rv;exact SC.index ho ⟨.int _,H,I.tok _,⟨_,rfl⟩,q⟩
def Cg:V->Option Int->Option Int->Hp->VK->Prop:=fun x lo hi H Q=>∃z,x=.str z/\z.length<=sizeLine/\Q (.str (Txt.slice z lo hi)) H
theorem Gs:SlR X Cg:=by
 intro pins s U H x v vl vu lo hi sl Q I rx hs pl pu h;obtain⟨z,rfl,hz,q⟩:=h;obtain⟨t,rfl⟩:=rx;refine⟨"str",_,F.slot_str_getitem.lookup,typeIs_str _ _ _,?_⟩
 have fin:∀(l u:Option (Int×Tok)),l.map (·.1)=lo->u.map (·.1)=hi->s.heap.IsSlice sl l u none->wpAny (model X.prog X.w) X.A (getItem (.str z t) (.ref sl)) (EP X pins U Q) X.xe s:=fun l u el eu hsl=>by
  subst el;subst eu;exact wpAny_getItem_str_slice hsl rfl (post_val_or_str ⟨Zb (Txt.slice_le z (l.map (·.1)) (u.map (·.1))) hz,fun t' k=>⟨.str _,H,I.tok _,⟨_,rfl⟩,q⟩⟩)
 obtain⟨o,h1,h2,h3⟩:=hs
 cases pl with
 |none=>
  cases pu with
  |none=>exact fin none none rfl rfl ⟨o,h1,h2,h3⟩
  |int j tj=>exact fin none (some (j,tj)) rfl rfl ⟨o,h1,h2,h3⟩
 |int i ti=>
  cases pu with
  |none=>exact fin (some (i,ti)) none rfl rfl ⟨o,h1,h2,h3⟩
  |int j tj=>exact fin (some (i,ti)) (some (j,tj)) rfl rfl ⟨o,h1,h2,h3⟩
theorem Wp:∀{bs:List Bool}{us:List Value},Vals (bs.map V.bl) us->∀(i:Nat)(v:Value),us[i]?=some v->∃b,bs[i]?=some b/\v=.bool b
 |[],_,r,i,v,e=>by cases r;simp at e
 |b::bs,_,r,i,v,e=>by
  cases r with
  |cons h t=>
   cases i with
   |zero=>
    have e':some _=some v:=e;cases e';exact⟨b,rfl,h⟩
   |succ j=>exact Wp t j v e
theorem all_range:∀(bs:List Bool),((List.range bs.length).all fun i=>(bs[i]?).getD true)=bs.all id:=fun bs=>by
 have e:((List.range bs.length).map fun i=>(bs[i]?).getD true)=bs:=List.ext_getElem (by simp) fun i h1 h2=>by simp[h2]
 have z:=List.all_map (l:=List.range bs.length) (f:=fun i=>(bs[i]?).getD true) (p:=id);rw[e]at z;exact z.symm
theorem Tt(hc:X.calm=true):Jb X (.builtin "all") (fun xs H Q=>∃(p:Addr)(bs:List Bool),xs=[.ref p]/\SqL X.K H p (bs.map V.bl)/\Q (.bl (bs.all id)) H):=by
 intro pins s U H xs us Q I r h;obtain⟨p,bs,rfl,hq,q⟩:=h;obtain⟨u,rfl,ru⟩:=vals1 r;cases ru;obtain⟨its,r',pl,hz⟩:=I.list hq
 have hp:p<s.heap.objs.size:=by
  obtain⟨o,n,e,_⟩:=pl;exact ZP e
 have hlen:its.length=bs.length:=by
  have:=r'.length;rw[ZA]at this;exact this.symm
 refine call_all_walk (wpAny_pyIter_list pl.isList ?_);refine⟨s.heap.objs.size,_,_,its.toArray.size,_,_,fun i=>(bs[i]?).getD true,rfl,Walks.list (A:=X.A.in1) (I.ok.hd hc) _ p (Ze hp) its.toArray,?_,?_,?_⟩
 .exact ⟨⟨_,ZY _ rfl,rfl,rfl⟩,pl.isList.push _⟩
 .intro i v s' Q' E' hP hQ
  obtain⟨b,e,rfl⟩:=Wp r' i v (by simpa using hP);have hb:(bs[i]?).getD true=b:=by rw[e];rfl
  exact wpAny_truthy_bool (hb ▸ hQ)
 .intro h' tk hk
  rw[ZO,hlen,all_range];refine⟨.bl (bs.all id),H,I.kept fun b o e=>hk b o (fun hm=>?_) (ZE _ e),rfl,q⟩;have e':b=s.heap.objs.size:=by simpa using hm
  rw[e']at e;exact Nat.lt_irrefl _ (ZP e)
theorem Wr:∀{xs:List V}{us:List Value},xs.length=us.length->(∀(j:Nat)(x:V)(u:Value),xs[j]?=some x->us[j]?=some u->RelV x u)->Vals xs us
 |[],[],_,_=>.nil
 |[],_::_,h,_=>Zr h (by simp)
 |_::_,[],h,_=>Zr h (by simp)
 |x::xs,u::us,h,hr=>.cons (hr 0 x u rfl rfl) (Wr (by simpa using h) fun j a b e1 e2=>hr (j+1) a b e1 e2)
theorem U7(hc:X.calm=true):Jb X (.type "list") (fun xs H Q=>∃a kvs,xs=[.ref a]/\H a=some (.dK kvs)/\∀l,H l=none->Q (.ref l) (upd H l (.lst (kvs.map fun kv=>kV kv.1)))):=by
 intro pins s U H xs us Q I r h;obtain⟨a,kvs,rfl,ha,q⟩:=h;obtain⟨u,rfl,ru⟩:=vals1 r;cases ru;obtain⟨hz,lo,vs,rv,hd⟩:=Kh I.hok ha;obtain⟨ep,hat⟩:=hd.dictAt;have hlen:=rv.length;refine W.kdl_call (W.kdl_dict (knd:=Y9 X.prog X.w) (kvs:=vs) (ep:=ep) lo) (I.ok.hd hc) hat (by rw[<-hlen];exact hz) fun h' tk acc c hk hl hacc=>?_;refine⟨.ref s.heap.objs.size,_,I.laid (o:=.lst (kvs.map fun kv=>kV kv.1)) hk (ZG _) ⟨by rw[ZA];exact hz,acc.toList,c,?_,by rw[Array.toArray_toList];exact hl⟩,rfl,q _ (I.hok.fresh (ZG _))⟩;obtain⟨hn,hp⟩:=hacc;refine Wr (by simp[hn,hlen]) fun j x u e1 e2=>?_;obtain⟨k,y,hy,hk'⟩:=hp j u (by rw[<-Array.getElem?_toList];exact e2);rw[ZH]at e1
 cases hkv:kvs[j]? with
 |none=>rw[hkv]at e1;cases e1
 |some kv=>
  rw[hkv]at e1;cases e1;have hkeys:=rv.keys;have e3:(kvs.map (·.1))[j]?=(vs.map (·.1))[j]?:=by rw[hkeys]
  rw[ZH,ZH,hkv,hy]at e3;have e4:kv.1=k:=ZT e3;have hk2:JS kv.1 u=true:=by rw[e4];exact hk'
  rcases VU hk2 with⟨i,t,e5,e6⟩|⟨z,t,e5,e6⟩
  .show RelV (kV kv.1) u
   rw[e5,e6];exact⟨t,rfl⟩
  .show RelV (kV kv.1) u
   rw[e5,e6];exact⟨t,rfl⟩
end
end L2
namespace PySem.W
open PySem PySem.Spec PyProof.Rows
end PySem.W
namespace PySem
open Sem (wp)
section
variable{prog:Program}{w:World}{A:Around}{E:Value->Shared->Prop}{h:Heap}{g:Array GenState}{d:Drawn}{t:Nat}{os:OsState}
variable{nm q:Str}{C N:Addr}{bs bm bmB:List Value}{hdct:Bool}{sn:List Str}{sub:List Value}{ab:Bool}{col:Option Bool}{dd:Option Addr}{k0 k1 k2 k3 k5:Option Value}{B newId initId:String}
end
end PySem
namespace PySem.W
open PySem PySem.Spec PyProof.Rows PySem.Builtin PySem.Builtin.ObjectAttr
end PySem.W
namespace L2
open PySem PySem.Spec PyProof.Rows
end L2
namespace PySem.W
open PySem PySem.Spec PyProof.Rows
end PySem.W
namespace PySem
section
variable{M:Model}{A:Around}{E:Value->Shared->Prop}{env:Env}
variable{nm q:Str}{C N:Addr}{bs bm:List Value}{hdct:Bool}{sn:List Str}{sub:List Value}{ab:Bool}{col:Option Bool}{dd:Option Addr}{k0 k1 k2 k3 k5:Option Value}{newId:String}
end
end PySem
namespace L2
open PySem PySem.Spec PyProof.Rows
section
variable{prog:Program}{w:World}{A:Around}{E:Value->Shared->Prop}{s:Shared}
theorem RB{t sl:Addr}{items:Array Value}{vl vu:Value}{lo hi:Option Int}{Q:Value->Shared->Prop}(ht:IsTup s.heap t items)(hs:s.heap.IsSliceOf sl vl vu .none)(pl:IsPart vl lo)(pu:IsPart vu hi)(hw:HT.sIx items.size 0 lo=0/\HT.sIx items.size items.size hi=items.size)(h:Q (.ref t) s):wpAny (model prog w) A (getItem (.ref t) (.ref sl)) Q E s:=by
 obtain⟨os,hos,hcs,hds⟩:=id hs;have hTs:s.TypeIs (.ref sl) "slice":=⟨os,hos,hcs⟩;unfold getItem
 try with_reducible refine wpAny_holding ?_
 first|refine Zl (Zm ?_)|skip
 refine Zl (wpAny_sequenceKey ht.typeIs (by decide) ?_);refine Zl (wpAny_callSpecial?_slot (name:=Str.ofString "__getitem__") ht.typeIs PyProof.Rows.slot_tuple_getitem (wpAny_call_entry PyProof.Rows.slot_tuple_getitem ht.typeIs entry_tuple_getitem ?_ (args_tuple_getitem _ _)));show wpAny _ _ (Builtin.Tuple.tupleItemsOf (.ref t) >>=_) _ _ s;refine Zl (tupleItemsOf_ ht (Zl (wpAny_typeOf hTs ?_)));rw[Zp (by decide)];refine Zl (HT.sliceApplied_gen hs pl pu ?_)
 have yes:(((HT.sIx items.size 0 lo:Nat):Int)==0 && (1:Int)==1 && (HT.sIx items.size items.size hi-HT.sIx items.size 0 lo)==items.size)=true:=by
  rw[hw.1,hw.2];simp
 show wpAny _ _ (if(((HT.sIx items.size 0 lo:Nat):Int)==0 && (1:Int)==1 && (HT.sIx items.size items.size hi-HT.sIx items.size 0 lo)==items.size)=true then _ else _) _ _ s;rw[Zp yes];have hT:s.TypeIs (.ref t) "tuple":=ht.typeIs;unfold Builtin.Tuple.tupleIsExact
 first
 |exact Zl (Zl (wpAny_typeOf hT (Zm (Zl (wpAny_rule (Zm ⟨_,rfl,Zm h⟩))))))
 |exact Zl (Zl (wpAny_typeOf hT (Zm (Zl (wpAny_rule (Zl (Zm ⟨_,rfl,Zm h⟩)))))))
end
section
variable{X:Cx}
def Cj:V->Option Int->Option Int->Hp->VK->Prop:=fun x lo hi H Q=>∃a xs,x=.ref a/\H a=some (.tup xs)/\
 (HT.sIx xs.length 0 lo=0/\HT.sIx xs.length xs.length hi=xs.length->Q (.ref a) H)/\∀p,H p=none->Q (.ref p) (upd H p (.tup (UU xs lo hi)))
theorem LC:SlR X Cj:=by
 intro pins s U H x v vl vu lo hi sl Q I rx hs pl pu h;obtain⟨a,xs,rfl,hx,q1,q2⟩:=h
 by_cases hw:HT.sIx xs.length 0 lo=0/\HT.sIx xs.length xs.length hi=xs.length
 .cases rx
  obtain⟨its,r,ht,hz⟩:=I.tuple (Z2 hx);have hlen:its.toArray.size=xs.length:=by rw[ZO];exact r.length.symm
  exact⟨"tuple",_,PyProof.Rows.slot_tuple_getitem.lookup,ht.typeIs,RB ht hs pl pu (by rw[hlen];exact hw) ⟨.ref a,H,I,rfl,q1 hw⟩⟩
 .exact MF pins s U H _ v vl vu lo hi sl Q I rx hs pl pu ⟨a,xs,rfl,Z2 hx,hw,q2⟩
end
def SI(tp:Bool)(h:Heap)(i l:Addr)(k:Nat)(xs:Array Value):Prop:=match tp with
 |false=>h.IsListIter i l k/\h.IsList l xs
 |true=>h.IsTupleIter i l k/\h.IsTuple l xs
theorem SI.to(z:SI tp h i l k xs)(kp:∀b o,(b=i\/b=l)->h.get? b=some o->h'.get? b=some o):SI tp h' i l k xs:=by
 cases tp with
 |false=>exact⟨let⟨o,e,r⟩:=z.1;⟨o,kp _ _ (.inl rfl) e,r⟩,let⟨o,e,r⟩:=z.2;⟨o,kp _ _ (.inr rfl) e,r⟩⟩
 |true=>exact⟨let⟨o,e,r⟩:=z.1;⟨o,kp _ _ (.inl rfl) e,r⟩,let⟨o,e,r⟩:=z.2;⟨o,kp _ _ (.inr rfl) e,r⟩⟩
theorem SI.but(z:SI tp h i l k xs)(e:Heap.ExtBut b h h')(h1:i≠b)(h2:l≠b):SI tp h' i l k xs:=
 z.to fun c o hc q=>e c o (by rcases hc with hc|hc <;> rw[hc] <;> assumption) q
theorem DJ{a b:Sem α}{Q:α->Shared->Prop}(hc:c=false)(h:wpAny M A b Q E s):wpAny M A (if c=true then a else b) Q E s:=by
 subst hc
 rwa [Zq (by decide)]
section
theorem XB(z:SI tp s.heap i l k xs)(ne:l≠i)(hx:xs[k]?=some x)(hQ:∀g,SI tp g i l (k+1) xs->Heap.SameBut i s.heap g->Q x {s with heap:=g}):wpAny (model prog w) A (Builtin.SmallTypes.nextOf (.ref i)) Q E s:=by
 cases tp with
 |false=>exact wpAny_nextOf_list_item z.1 z.2 hx fun g a sb=>hQ g ⟨a,z.2.extBut sb.extBut ne⟩ sb
 |true=>
  obtain⟨z1,z2⟩:=z;obtain⟨ob,hob,cob,dob⟩:=id z1;obtain⟨ot,hot,_,nt,dt⟩:=id z2;have sn:=F.slot_tuple_iterator_next;simp only[Builtin.SmallTypes.nextOf];refine Zl (wpAny_callSpecial?_slot (name:=Str.ofString "__next__") z1.typeIs sn (wpAny_call_entry sn z1.typeIs F.entry_tuple_iterator_next ?_ (F.args_tuple_iterator_next_1 _)));refine Zl (m:=field (.ref i) 0) (Zo hob dob (x:=.ref l) rfl (DJ (c:=Value.ref l==.none) rfl ?_));refine Zl (m:=field (.ref i) 1) (Zo hob dob (x:=.int k 0) rfl (Zl (m:=seqItems? (.ref l)) (wpAny_seqItems hot dt ?_)));simp only[hx,Int.toNat_natCast];refine Zl (wpAny_setField hob dob (by simp) (Zm ⟨x,rfl,Zm (hQ _ ⟨?_,?_⟩ (Heap.SameBut.update ..))⟩))
  .refine ⟨_,Heap.get?_update_self _ hob (Obj.isFreed_of_fields (Obj.data_mapFields dob _)),(Obj.cls_mapFields ..).trans cob,?_⟩
   rw[Obj.data_mapFields dob];simp[rawInt]
  .exact z2.extBut (Heap.SameBut.update ..).extBut ne
theorem MI(hh:A.handled=none)(z:SI tp s.heap i l k xs)(hx:xs[k]?=none)(hE:∀g e,Heap.ExtBut i s.heap g->(∃o,g.get? e=some o/\o.cls=.type "StopIteration")->E (.ref e) {s with heap:=g}):wpAny (model prog w) A (Builtin.SmallTypes.nextOf (.ref i)) Q E s:=by
 cases tp with
 |false=>exact wpAny_nextOf_list_end hh z.1 z.2 hx hE
 |true=>
  obtain⟨z1,z2⟩:=z;obtain⟨ob,hob,cob,dob⟩:=id z1;obtain⟨ot,hot,_,nt,dt⟩:=id z2;have sn:=F.slot_tuple_iterator_next;simp only[Builtin.SmallTypes.nextOf];refine Zl (wpAny_callSpecial?_slot (name:=Str.ofString "__next__") z1.typeIs sn (wpAny_call_entry sn z1.typeIs F.entry_tuple_iterator_next ?_ (F.args_tuple_iterator_next_1 _)));refine Zl (m:=field (.ref i) 0) (Zo hob dob (x:=.ref l) rfl (DJ (c:=Value.ref l==.none) rfl ?_));refine Zl (m:=field (.ref i) 1) (Zo hob dob (x:=.int k 0) rfl (Zl (m:=seqItems? (.ref l)) (wpAny_seqItems hot dt ?_)));simp only[hx,Int.toNat_natCast];refine Zl (wpAny_rule (Zl (wpAny_setField hob dob (by simp) ?_)));refine Zl (m:=newExc (.type "StopIteration") []) ?_;simp only[newExc,newTuple];refine Zl (wpAny_newObj_type (Zl (m:=firstArgMember _ _) (wpAny_of_eq (a:=.none) (by simp only[firstArgMember];rfl) (wpAny_newObj_type ?_ (by size_fits)))) (by size_fits));have nh:A.in1.handled=none:=hh;simp only[raiseNew];refine Zl (wpAny_handled (?_));rw[nh];exact Zl (Zm (wpAny_throw (hE _ _ (((Heap.SameBut.update ..).extBut.push _).push _) ⟨_,ZY _ rfl,rfl⟩)))
structure ZS(h:Heap)(z TI TO:Addr)(f0:Value)(t1:Bool)(i1 l1:Addr)(xs:Array Value)(t2:Bool)(i2 l2:Addr)(ys:Array Value)(k:Nat):Prop where
 zip:IsZip h z TI TO f0
 its:IsPair h TI (.ref i1) (.ref i2)
 out:∃a b,IsPair h TO a b
 one:SI t1 h i1 l1 k xs
 two:SI t2 h i2 l2 k ys
theorem DI{z TI TO i1 i2 l1 l2:Addr}(D:ZipApart z TI TO i1 i2 l1 l2)(S:ZS s.heap z TI TO .none t1 i1 l1 xs t2 i2 l2 ys k)(hx:xs[k]?=some x)(hy:ys[k]?=some y)(hQ:∀g,ZS g z TI TO (rawInt s.heap.objs.size) t1 i1 l1 xs t2 i2 l2 ys (k+1)->IsPair g s.heap.objs.size x y->g.objs.size=s.heap.objs.size+1->
   (∀c o,c≠z->c≠TO->c≠i1->c≠i2->s.heap.get? c=some o->g.get? c=some o)->Q (some (.ref s.heap.objs.size)) {s with heap:=g}):wpAny (model prog w) A (pyNext (.ref z)) Q E s:=by
 have hT:s.TypeIs (.ref z) "zip":=⟨_,S.zip,rfl⟩;obtain⟨a,b,So⟩:=S.out;simp only[pyNext];refine Zl (wpAny_attempt (wpAny_callSpecial?_slot (name:=Str.ofString "__next__") hT F.slot_zip_next (wpAny_call_entry F.slot_zip_next hT F.entry_zip_next ?_ (F.args_zip_next_1 _))));refine Zl (m:=field (.ref z) 2) (Zo S.zip rfl (x:=.bool false) rfl (Zl (m:=field (.ref z) 3) (Zo S.zip rfl (x:=.ref TI) rfl (Zl (wpAny_seqItems S.its rfl ?_)))));refine Zl (m:=Builtin.SmallTypes.ownedTupleIsFree (.ref z)) (Zl (m:=field (.ref z) 0) (Zo S.zip rfl (x:=.none) rfl (Zm ?_)));simp only[if_true];refine Zl (wpAny_rule (Zl (Zo S.zip rfl (x:=.ref TO) rfl (Zl (wpAny_setField_rec S.zip (by simp) fun g1 z1 s1=>Zl ?_)))));replace z1:IsZip g1 z TI TO .ellipsis:=z1;simp only[List.forIn_cons,List.forIn_nil,List.zipIdx_cons,List.zipIdx_nil];refine Zl (Zl (wpAny_onRaise (?_:wpAny _ _ (Builtin.SmallTypes.nextOf (.ref i1) >>=_) _ _ _)));refine Zl (XB (S.one.but s1.extBut D.i1z D.l1z) D.l1i1 hx fun g2 a2 s2=>Zm ?_);have o2:IsPair g2 TO a b:=s2.extBut _ _ D.TOi1 (s1.extBut _ _ D.TOz So);refine Zl (wpAny_seqItems o2 rfl ?_);refine Zl (wpAny_updateSeq_pair o2 fun g3 o3 s3=>?_);replace o3:IsPair g3 TO x b:=o3;refine Zl (wpAny_letGo (Zm (Zl (Zl (wpAny_onRaise (?_:wpAny _ _ (Builtin.SmallTypes.nextOf (.ref i2) >>=_) _ _ _))))));have b3:SI t2 g3 i2 l2 k ys:=((S.two.but s1.extBut D.i2z D.l2z).but s2.extBut D.i12.symm D.l2i1).but s3.extBut D.TOi2.symm D.l2TO;refine Zl (XB b3 D.l2i2 hy fun g4 b4 s4=>Zm ?_);have o4:IsPair g4 TO x b:=s4.extBut _ _ D.TOi2 o3;refine Zl (wpAny_seqItems o4 rfl ?_);refine Zl (wpAny_updateSeq_pair o4 fun g5 o5 s5=>?_);replace o5:IsPair g5 TO x y:=o5;refine Zl (wpAny_letGo (Zm (Zm (Zl (wpAny_seqItems o5 rfl (Zl (wpAny_newTuple ?_)))))));have sz:g5.objs.size=s.heap.objs.size:=by rw[s5.1,s4.1,s3.1,s2.1,s1.1]
 have z5:IsZip g5 z TI TO .ellipsis:=s5.extBut _ _ D.TOz.symm (s4.extBut _ _ D.i2z.symm (s3.extBut _ _ D.TOz.symm (s2.extBut _ _ D.i1z.symm z1)))
 have k5:∀c o,c≠z->c≠TO->c≠i1->c≠i2->s.heap.get? c=some o->g5.get? c=some o:=fun c o c1 c2 c3 c4 e=>
  s5.extBut _ _ c2 (s4.extBut _ _ c4 (s3.extBut _ _ c2 (s2.extBut _ _ c3 (s1.extBut _ _ c1 e))))
 have a5:SI t1 g5 i1 l1 (k+1) xs:=((a2.but s3.extBut D.TOi1.symm D.l1TO).but s4.extBut D.i12 D.l1i2).but s5.extBut D.TOi1.symm D.l1TO;have b5:SI t2 g5 i2 l2 (k+1) ys:=b4.but s5.extBut D.TOi2.symm D.l2TO;have zlt:z<g5.objs.size:=ZP z5;show wpAny _ _ (Builtin.SmallTypes.ownedTupleHandOut (.ref z) (.ref g5.objs.size) >>=_) _ _ _;refine Zl ?_;simp only[Builtin.SmallTypes.ownedTupleHandOut];have z6:IsZip (g5.push {cls:=.type "tuple",data:=.seq #[x,y]}) z TI TO .ellipsis:=ZE _ z5;refine Zl (wpAny_setField_rec z6 (by simp) fun g7 z7 s7=>?_);replace z7:IsZip g7 z TI TO (rawInt g5.objs.size):=z7;refine wpAny_setField_rec z7 (by simp) fun g8 z8 s8=>?_;replace z8:IsZip g8 z TI TO (rawInt g5.objs.size):=z8;have up:∀c o,c≠z->g5.get? c=some o->g8.get? c=some o:=fun c o c1 e=>s8.extBut _ _ c1 (s7.extBut _ _ c1 (ZE _ e));have t8:IsPair g8 g5.objs.size x y:=s8.extBut _ _ (Nat.ne_of_gt zlt) (s7.extBut _ _ (Nat.ne_of_gt zlt) (ZY _ rfl));have sz8:g8.objs.size=g5.objs.size+1:=by rw[s8.1,s7.1,Heap.size_push]
 rw[sz]at z8 t8 sz8;refine Zm ⟨_,rfl,Zm ?_⟩;show Q (some (.ref g5.objs.size)) _;rw[sz];refine hQ g8 ⟨z8,up _ _ D.TIz (k5 _ _ D.TIz D.TITO D.TIi1 D.TIi2 S.its),⟨_,_,up _ _ D.TOz o5⟩,?_,?_⟩ t8 sz8 fun c o c1 c2 c3 c4 e=>up c o c1 (k5 c o c1 c2 c3 c4 e)
 .exact a5.to fun c o hc e=>up c o (hc.elim (fun q=>q ▸ D.i1z) fun q=>q ▸ D.l1z) e
 .exact b5.to fun c o hc e=>up c o (hc.elim (fun q=>q ▸ D.i2z) fun q=>q ▸ D.l2z) e
theorem Ex{z TI TO i1 i2 l1 l2:Addr}(hh:A.handled=none)(D:ZipApart z TI TO i1 i2 l1 l2)(S:ZS s.heap z TI TO .none t1 i1 l1 xs t2 i2 l2 ys k)(hend:xs[k]?=none\/ys[k]?=none)(hQ:∀g,(∀c o,c≠z->c≠TO->c≠i1->c≠i2->s.heap.get? c=some o->g.get? c=some o)->Q none {s with heap:=g}):wpAny (model prog w) A (pyNext (.ref z)) Q E s:=by
 have hT:s.TypeIs (.ref z) "zip":=⟨_,S.zip,rfl⟩;obtain⟨a,b,So⟩:=S.out;have stop:∀(g:Heap)(e:Addr),(∀c o,c≠z->c≠TO->c≠i1->c≠i2->s.heap.get? c=some o->g.get? c=some o)->(∃o,g.get? e=some o/\o.cls=.type "StopIteration")->
   wpAny (model prog w) A (do if(<-isInstance (.ref e) (.type "StopIteration"))then pure none else throw (.ref e):Sem (Option Value)) Q E {s with heap:=g}:=fun g e kp ⟨o,ho,hc⟩=>
  Zl (wpAny_isInstance (T:="StopIteration") (b:=true) ⟨o,ho,hc⟩ isSubtype_stop (Zm (hQ g kp)))
 simp only[pyNext];refine Zl (wpAny_attempt (wpAny_callSpecial?_slot (name:=Str.ofString "__next__") hT F.slot_zip_next (wpAny_call_entry F.slot_zip_next hT F.entry_zip_next ?_ (F.args_zip_next_1 _))));refine Zl (m:=field (.ref z) 2) (Zo S.zip rfl (x:=.bool false) rfl (Zl (m:=field (.ref z) 3) (Zo S.zip rfl (x:=.ref TI) rfl (Zl (wpAny_seqItems S.its rfl ?_)))));refine Zl (m:=Builtin.SmallTypes.ownedTupleIsFree (.ref z)) (Zl (m:=field (.ref z) 0) (Zo S.zip rfl (x:=.none) rfl (Zm ?_)));simp only[if_true];refine Zl (wpAny_rule (Zl (Zo S.zip rfl (x:=.ref TO) rfl (Zl (wpAny_setField_rec S.zip (by simp) fun g1 z1 s1=>Zl ?_)))));replace z1:IsZip g1 z TI TO .ellipsis:=z1;simp only[List.forIn_cons,List.forIn_nil,List.zipIdx_cons,List.zipIdx_nil];refine Zl (Zl (wpAny_onRaise (?_:wpAny _ _ (Builtin.SmallTypes.nextOf (.ref i1) >>=_) _ _ _)))
 cases hx:xs[k]? with
 |none=>
  refine Zl (MI hh (S.one.but s1.extBut D.i1z D.l1z) hx fun g2 e e2 he=>?_);obtain⟨oe,hoe,hce⟩:=he;have z2:IsZip g2 z TI TO .ellipsis:=e2 _ _ D.i1z.symm z1;have hez:e≠z:=fun q=>by subst q;rw[z2]at hoe;cases hoe;simp at hce
  refine wpAny_setField_rec z2 (by simp) fun g3 _ s3=>?_;exact stop g3 e (fun c o c1 _ c3 _ q=>s3.extBut _ _ c1 (e2 _ _ c3 (s1.extBut _ _ c1 q))) ⟨oe,s3.extBut _ _ hez hoe,hce⟩
 |some x=>
  have hy:ys[k]?=none:=by rcases hend with q|q;rw[hx]at q;cases q;exact q
  refine Zl (XB (S.one.but s1.extBut D.i1z D.l1z) D.l1i1 hx fun g2 a2 s2=>Zm ?_);have o2:IsPair g2 TO a b:=s2.extBut _ _ D.TOi1 (s1.extBut _ _ D.TOz So);refine Zl (wpAny_seqItems o2 rfl ?_);refine Zl (wpAny_updateSeq_pair o2 fun g3 o3 s3=>?_);refine Zl (wpAny_letGo (Zm (Zl (Zl (wpAny_onRaise (?_:wpAny _ _ (Builtin.SmallTypes.nextOf (.ref i2) >>=_) _ _ _))))));have b3:SI t2 g3 i2 l2 k ys:=((S.two.but s1.extBut D.i2z D.l2z).but s2.extBut D.i12.symm D.l2i1).but s3.extBut D.TOi2.symm D.l2TO;refine Zl (MI hh b3 hy fun g4 e e4 he=>?_);obtain⟨oe,hoe,hce⟩:=he;have z4:IsZip g4 z TI TO .ellipsis:=e4 _ _ D.i2z.symm (s3.extBut _ _ D.TOz.symm (s2.extBut _ _ D.i1z.symm z1));have hez:e≠z:=fun q=>by subst q;rw[z4]at hoe;cases hoe;simp at hce
  refine wpAny_setField_rec z4 (by simp) fun g5 _ s5=>?_;exact stop g5 e (fun c o c1 c2 c3 c4 q=>s5.extBut _ _ c1 (e4 _ _ c4 (s3.extBut _ _ c2 (s2.extBut _ _ c3 (s1.extBut _ _ c1 q))))) ⟨oe,s5.extBut _ _ hez hoe,hce⟩
def Wk(tp:Bool)(h:Heap)(l:Addr)(xs:Array Value):Prop:=match tp with
 |false=>h.IsList l xs
 |true=>h.IsTuple l xs
def JX(tp:Bool)(l:Addr):Obj:={cls:=.type (if tp then "tuple_iterator" else "list_iterator"),data:=.fields #[.ref l,.int 0 0]}
theorem W1(h:Wk tp s.heap l xs)(q:Q (.ref s.heap.objs.size) {s with heap:=s.heap.push (JX tp l)}):wpAny (model prog w) A (pyIter (.ref l)) Q E s:=by
 cases tp with
 |false=>exact wpAny_pyIter_list h q
 |true=>exact wpAny_pyIter_tuple h q
theorem Wk.push(z:Wk tp h l xs)(o:Obj):Wk tp (h.push o) l xs:=by
 cases tp with
 |false=>exact Heap.IsList.push z o
 |true=>exact Heap.IsTuple.push z o
end
abbrev zg1(h:Heap)(t1:Bool)(l1:Addr):Heap:=h.push (JX t1 l1)
abbrev zg2(h:Heap)(t1:Bool)(l1:Addr)(t2:Bool)(l2:Addr):Heap:=(zg1 h t1 l1).push (JX t2 l2)
abbrev zg3(h:Heap)(t1:Bool)(l1:Addr)(t2:Bool)(l2:Addr):Heap:=(zg2 h t1 l1 t2 l2).push {cls:=.type "tuple",data:=.seq #[.ref h.objs.size,.ref (zg1 h t1 l1).objs.size]}
abbrev zg4(h:Heap)(t1:Bool)(l1:Addr)(t2:Bool)(l2:Addr):Heap:=(zg3 h t1 l1 t2 l2).push {cls:=.type "tuple",data:=.seq #[.none,.none]}
abbrev zg5(h:Heap)(t1:Bool)(l1:Addr)(t2:Bool)(l2:Addr):Heap:=(zg4 h t1 l1 t2 l2).push {cls:=.type "zip",data:=.fields #[.none,.bool false,.bool false,.ref (zg2 h t1 l1 t2 l2).objs.size,.ref (zg3 h t1 l1 t2 l2).objs.size]}
theorem Nt(t1 t2:Bool)(l1 l2:Addr)(xs ys:Array Value):
  Meets (Builtin.«zip.__new__» ⟨[.type "zip",.ref l1,.ref l2],[]⟩) (fun _ R s=>Wk t1 s.heap l1 xs/\Wk t2 s.heap l2 ys/\
   R (.ok (.ret (.ref (zg4 s.heap t1 l1 t2 l2).objs.size))) {s with heap:=zg5 s.heap t1 l1 t2 l2}):=
 .of_wp fun prog w A R s h=>by
  obtain⟨hp,g,d,tk,os⟩:=s;obtain⟨h1,h2,h⟩:=h;have hsub:=sub_zip;have k1:Wk t1 (Shared.heap ⟨hp,g,d,tk,os⟩) l1 xs:=h1;have k2:Wk t2 (Shared.heap ⟨hp.push (JX t1 l1),g,d,tk,os⟩) l2 ys:=Wk.push h2 _
  wp_walk using W1 k1,W1 k2
  exact⟨_,rfl,h⟩
def SJ(tp:Bool)(h:Heap)(i l:Addr)(k:Nat):Prop:=match tp with
 |false=>h.IsListIter i l k
 |true=>h.IsTupleIter i l k
theorem SJ.si(z:SJ tp h i l k)(c:Wk tp h l xs):SI tp h i l k xs:=by
 cases tp <;> exact⟨z,c⟩
theorem SI.sj(z:SI tp h i l k xs):SJ tp h i l k:=by
 cases tp <;> exact z.1
theorem SJ.to(z:SJ tp h i l k)(kp:∀o,h.get? i=some o->h'.get? i=some o):SJ tp h' i l k:=by
 cases tp with
 |false=>exact let⟨o,e,r⟩:=z;⟨o,kp _ e,r⟩
 |true=>exact let⟨o,e,r⟩:=z;⟨o,kp _ e,r⟩
theorem SJ.obj(z:SJ tp h i l k):∃o,h.get? i=some o/\∀v,o.data≠.cell v:=by
 cases tp with
 |false=>obtain⟨o,e,_,d⟩:=z;exact⟨o,e,fun v q=>by rw[d]at q;cases q⟩
 |true=>obtain⟨o,e,_,d⟩:=z;exact⟨o,e,fun v q=>by rw[d]at q;cases q⟩
theorem SJ.new(tp:Bool)(h:Heap)(l:Addr):SJ tp (h.push (JX tp l)) h.objs.size l 0:=by
 cases tp <;> exact⟨_,ZY _ rfl,rfl,rfl⟩
structure ZR(h:Heap)(z TI TO:Addr)(t1:Bool)(i1 l1:Addr)(t2:Bool)(i2 l2:Addr)(k:Nat):Prop where
 zip:IsZip h z TI TO .none
 its:IsPair h TI (.ref i1) (.ref i2)
 out:∃a b,IsPair h TO a b
 one:SJ t1 h i1 l1 k
 two:SJ t2 h i2 l2 k
section
theorem Nl(h1:Wk t1 s.heap l1 xs)(h2:Wk t2 s.heap l2 ys)(h:∀g,ZR g (s.heap.objs.size+4) (s.heap.objs.size+2) (s.heap.objs.size+3) t1 s.heap.objs.size l1 t2 (s.heap.objs.size+1) l2 0->
   (∀c o,s.heap.get? c=some o->g.get? c=some o)->Q (.ref (s.heap.objs.size+4)) {s with heap:=g}):wpAny (model prog w) A (call (.type "zip") [.ref l1,.ref l2]) Q E s:=by
 refine callType_new F.called_zip (by decide) (F.typeCall_zip_2 _ _) (F.newCall_zip_2 _ _) (fun obj=>F.args_object_init_3 obj _ _) F.entry_zip_new (Nt t1 t2 l1 l2 xs ys) ⟨h1,h2,?_⟩;have e1:(zg1 s.heap t1 l1).objs.size=s.heap.objs.size+1:=Heap.size_push ..;have e2:(zg2 s.heap t1 l1 t2 l2).objs.size=s.heap.objs.size+2:=by rw[Heap.size_push,e1]
 have e3:(zg3 s.heap t1 l1 t2 l2).objs.size=s.heap.objs.size+3:=by rw[Heap.size_push,e2]
 have e4:(zg4 s.heap t1 l1 t2 l2).objs.size=s.heap.objs.size+4:=by rw[Heap.size_push,e3]
 have p5:(zg5 s.heap t1 l1 t2 l2).get? (zg4 s.heap t1 l1 t2 l2).objs.size=some _:=ZY _ rfl;have p4:(zg5 s.heap t1 l1 t2 l2).get? (zg3 s.heap t1 l1 t2 l2).objs.size=some _:=ZE _ (ZY _ rfl);have p3:(zg5 s.heap t1 l1 t2 l2).get? (zg2 s.heap t1 l1 t2 l2).objs.size=some _:=ZE _ (ZE _ (ZY _ rfl));have p2:SJ t2 (zg5 s.heap t1 l1 t2 l2) (zg1 s.heap t1 l1).objs.size l2 0:=(SJ.new t2 (zg1 s.heap t1 l1) l2).to fun o q=>ZE _ (ZE _ (ZE _ q));have p1:SJ t1 (zg5 s.heap t1 l1 t2 l2) s.heap.objs.size l1 0:=(SJ.new t1 s.heap l1).to fun o q=>ZE _ (ZE _ (ZE _ (ZE _ q)));show _/\_;rw[e2,e3,e4]at p5;rw[e1,e2]at p3;rw[e3]at p4;rw[e1]at p2;rw[e4]
 exact⟨⟨_,p5,rfl⟩,h _ ⟨p5,p3,⟨_,_,p4⟩,p1,p2⟩ fun c o q=>
  ZE _ (ZE _ (ZE _ (ZE _ (ZE _ q))))⟩
end
def Sq(K:W.Frag)(tp:Bool)(H:Hp)(l:Addr)(xs:List V):Prop:=match tp with
 |false=>SqL K H l xs
 |true=>SqT K H l xs
theorem Inv.sq(I:Inv X pins U H s)(h:Sq X.K tp H l xs):∃its:List Value,Vals xs its/\Wk tp s.heap l its.toArray:=by
 cases tp with
 |false=>
  obtain⟨its,r,p,_⟩:=I.list h;exact⟨its,r,p.isList⟩
 |true=>
  obtain⟨its,r,p,_⟩:=I.tuple h;exact⟨its,r,p⟩
theorem Inv.sq_inj(I:Inv X pins U H s)(h:Sq X.K tp H l xs)(h':Sq X.K tp H l ys):xs=ys:=by
 cases tp with
 |false=>exact I.list_inj h h'
 |true=>exact I.tuple_inj h h'
theorem Wk.lt(z:Wk tp h l xs):l<h.objs.size:=by
 cases tp with
 |false=>obtain⟨_,e,_⟩:=z;exact ZP e
 |true=>obtain⟨_,e,_⟩:=z;exact ZP e
def Itz(K:W.Frag)(t1:Bool)(l1:Addr)(t2:Bool)(l2:Addr):It:=
  ⟨fun i H=>∃xs ys x y,Sq K t1 H l1 xs/\Sq K t2 H l2 ys/\xs[i]?=some x/\ys[i]?=some y,
   fun i H v H'=>∃p x y,v=.ref p/\H p=none/\H'=upd H p (.tup [x,y])/\(∀xs,Sq K t1 H l1 xs->xs[i]?=some x)/\∀ys,Sq K t2 H l2 ys->ys[i]?=some y,
   fun i H=>∃xs ys,Sq K t1 H l1 xs/\Sq K t2 H l2 ys/\(xs.length<=i\/ys.length<=i)⟩
theorem Rf:bootBuiltins "zip"=some (.type "zip"):=by decide +kernel
theorem Inv.turnedL{ch:List Addr}(I:Inv X pins U H s)(k:∀b o,b∉ch->s.heap.get? b=some o->h'.get? b=some o)(f:∀b∈ch,J8 X pins H b):
  Inv X pins U H {s with heap:=h',toks:=t'}:=by
 have ne:∀b u,H b=some u->b∉ch:=fun b u e z=>by rw[(f b z).1]at e;cases e
 have nl:X.env.locals∉ch:=fun z=>(f _ z).2.1 rfl;refine I.step (g':=s.gens) (d':=s.drawn) (ch:=ch) (fun b hb=>⟨(f b hb).2.2.2.1,(f b hb).2.1,(f b hb).2.2.2.2.1,(f b hb).2.2.2.2.2⟩) (fun b o _ _ hc e _=>k b o hc e) (fun b o _ _ hc e _=>⟨o.slots,k b o hc e⟩) (fun _ _ _ _ n=>n)
  (fun b o hc e=>⟨o,k b o hc e⟩) (fun _ _ e=>e) (fun _ _ _ e=>e) (fun b ps e=>⟨#[],by rw[e];simp⟩) (fun m hm=>?_) (fun b u e=>?_) I.bare
 .obtain ⟨o,es,ep,ho,r⟩:=hm
  exact⟨o,es,ep,k _ o nl ho,r⟩
 .refine (I.hok b u e).stay (fun c v hc q=>k c v ?_ q) (fun _ q=>q) fun _ _ q=>q
  rcases hc with z|z
  .rw [z];exact ne b u e
  .exact ne c _ z
theorem AY{a b c d x:Addr}(h:x∈ [a,b,c,d]):x=a\/x=b\/x=c\/x=d:=by simpa using h
theorem FD{P:Program}{w:World}{K:W.Frag}{elts:List Expr}{x1}{pos:Pos}{z TI TO i1 i2 l1 l2:Addr}{t1 t2:Bool}(D:ZipApart z TI TO i1 i2 l1 l2):
  Turn P w K (.Tuple elts x1 pos) (Itz K t1 l1 t2 l2) [z,TO,i1,i2,TI] z (fun i h=>ZR h z TI TO t1 i1 l1 t2 i2 l2 i) where
 mem:=by simp
 obj:=fun i h st b hb=>by
  have q:b=z\/b=TO\/b=i1\/b=i2\/b=TI:=by simpa using hb
  rcases q with q|q|q|q|q <;> rw[q]
  .exact ⟨_,st.zip,fun v e=>nomatch e⟩
  .obtain ⟨a,b,e⟩:=st.out
   exact⟨_,e,fun v e=>nomatch e⟩
  .exact st.one.obj
  .exact st.two.obj
  .exact ⟨_,st.its,fun v e=>nomatch e⟩
 keep:=fun i h h' st k=>⟨k z (by simp) _ st.zip,k TI (by simp) _ st.its,let⟨a,b,e⟩:=st.out;⟨a,b,k TO (by simp) _ e⟩,st.one.to fun o e=>k i1 (by simp) o e,st.two.to fun o e=>k i2 (by simp) o e⟩
 item:=by
  intro X hP hw hK hc i pins s U H E I hf st hg;subst hP hw hK;obtain⟨xs,ys,x,y,q1,q2,hx,hy⟩:=hg;obtain⟨its1,r1,w1⟩:=I.sq q1;obtain⟨its2,r2,w2⟩:=I.sq q2;obtain⟨u1,hu1,ru1⟩:=r1.get hx;obtain⟨u2,hu2,ru2⟩:=r2.get hy;refine DI D ⟨st.zip,st.its,st.out,st.one.si w1,st.two.si w2⟩ (x:=u1) (y:=u2) (by simpa using hu1) (by simpa using hu2) fun g S' hp sz kp=>?_
  have f:∀b∈ [z,TO,i1,i2],J8 X pins H b:=fun b hb=>hf b (by
   rcases AY hb with q|q|q|q <;> rw[q] <;> simp)
  have kp':∀b o,b ∉ [z,TO,i1,i2]->s.heap.get? b=some o->g.get? b=some o:=fun b o hb e=>kp b o (fun q=>hb (by simp[q])) (fun q=>hb (by simp[q])) (fun q=>hb (by simp[q])) (fun q=>hb (by simp[q])) e;have I1:Inv X pins U H {s with heap:=g}:=I.turnedL (t':=s.toks) kp' f;have hn:H s.heap.objs.size=none:=I.hok.fresh (ZG _);have zlt:z<s.heap.objs.size:=ZP st.zip;refine⟨_,rfl,?_⟩;refine wpAny_letOwnedTupleGo_zip (s:={s with heap:=g}) S'.zip fun g2 z2 s2=>?_
  have I2:Inv X pins U H {s with heap:=g2}:=I1.turnedL (s:={s with heap:=g}) (t':=s.toks) (ch:=[z]) (fun b o hb e=>s2.extBut b o (fun q=>hb (by simp[q])) e) fun b hb=>by
   have q:b=z:=by simpa using hb
   rw[q];exact f z (by simp)
  have pg2:IsPair g2 s.heap.objs.size u1 u2:=s2.extBut _ _ (Nat.ne_of_gt zlt) hp;have I3:Inv X pins U (upd H s.heap.objs.size (.tup [x,y])) {s with heap:=g2}:=I2.retrack hn (I.fpOk (ZG _) hn) ⟨sl 2,[u1,u2],.cons ru1 (.cons ru2 .nil),⟨_,pg2,rfl,rfl,_,rfl⟩⟩
  have ltf:∀b∈ [z,TO,i1,i2,TI],b<s.heap.objs.size:=fun b hb=>by
   have q:b=z\/b=TO\/b=i1\/b=i2\/b=TI:=by simpa using hb
   rcases q with q|q|q|q|q <;> rw[q]
   .exact zlt
   .obtain ⟨a,b,e⟩:=st.out
    exact ZP e
   .obtain ⟨o,e,_⟩:=st.one.obj
    exact ZP e
   .obtain ⟨o,e,_⟩:=st.two.obj
    exact ZP e
   .exact ZP st.its
  refine⟨.ref s.heap.objs.size,_,I3,rfl,⟨_,x,y,rfl,hn,rfl,fun zs h=>by rw[I.sq_inj h q1];exact hx,fun zs h=>by rw[I.sq_inj h q2];exact hy⟩,?_,fun b hb=>?_⟩
  .refine ⟨z2,s2.extBut _ _ D.TIz S'.its,let⟨a,b,e⟩:=S'.out;⟨a,b,s2.extBut _ _ D.TOz e⟩,S'.one.sj.to fun o e=>s2.extBut _ _ D.i1z e,S'.two.sj.to fun o e=>s2.extBut _ _ D.i2z e⟩
  .rw [Yg (Ze (ltf b hb))]
   exact(hf b hb).1
 done:=by
  intro X hP hw hK hc i pins s U H E I hf st hg;subst hP hw hK;obtain⟨xs,ys,q1,q2,hend⟩:=hg;obtain⟨its1,r1,w1⟩:=I.sq q1;obtain⟨its2,r2,w2⟩:=I.sq q2;have e1:=r1.length;have e2:=r2.length;refine Ex (I.ok.hd hc) D ⟨st.zip,st.its,st.out,st.one.si w1,st.two.si w2⟩ ?_ fun g kp=>⟨rfl,?_⟩
  .rcases hend with q|q
   .exact .inl (by simp;omega)
   .exact .inr (by simp;omega)
  .refine I.turnedL (t':=s.toks) (ch:=[z,TO,i1,i2]) (fun b o hb e=>kp b o (fun q=>hb (by simp[q])) (fun q=>hb (by simp[q])) (fun q=>hb (by simp[q])) (fun q=>hb (by simp[q])) e) fun b hb=>hf b (by
    rcases AY hb with q|q|q|q <;> rw[q] <;> simp)
 self:=fun _ _ _ _ _ st h=>wpAny_pyIter_zip st.zip h
theorem zap(n l1 l2:Nat)(h1:l1<n)(h2:l2<n):ZipApart (n+4) (n+2) (n+3) n (n+1) l1 l2:=by
 constructor <;> (intro q;have q':(_:Nat)=_:=q;omega)
def Cv(K:W.Frag)(ta:TA):TI:=fun U H R=>ta U H fun vs H1=>∃a b t1 t2 xs ys,vs=[.ref a,.ref b]/\Sq K t1 H1 a xs/\Sq K t2 H1 b ys/\R (Itz K t1 a t2 b) H1
theorem QE(hg:Gl X "zip")(hm:X.mg "zip"=none)(ha:PA X [a,b] ta)(hs:starEach [a,b] X.env=[(false,eval a X.env),(false,eval b X.env)]:=by rfl)(hs2:starEach [b] X.env=[(false,eval b X.env)]:=by rfl):PI X (.Tuple elts x1 tpos) (.Call (.Name "zip" p) [a,b] [] pos) (Cv X.K ta):=by
 intro pins s U H R I h;refine Call_ (U3 I hg hm Rf (PyProof.Rows.callWith_type1 (thn (ha pos pins s U H _ I h) fun us s1 ⟨vs,H1,I1,r1,q1⟩=>?_) (by rw[hs,hs2]) (by rw[hs2];rfl)));obtain⟨l1,l2,t1,t2,xs,ys,e,q1,q2,q⟩:=q1;subst e;obtain⟨u,w',rfl,ru,rw'⟩:=vals2 r1;cases ru;cases rw';obtain⟨its1,rr1,w1⟩:=I1.sq q1;obtain⟨its2,rr2,w2⟩:=I1.sq q2;have n1:=w1.lt;have n2:=w2.lt;refine Nl w1 w2 fun g S kp=>?_;refine wpAny_pyIter_zip (s:={s1 with heap:=g}) S.zip ?_;have D:=zap _ _ _ n1 n2;have I2:Inv X pins U H1 {s1 with heap:=g}:=I1.kept (t':=s1.toks) kp;refine⟨_,[s1.heap.objs.size+4,s1.heap.objs.size+3,s1.heap.objs.size,s1.heap.objs.size+1,s1.heap.objs.size+2],_,_,H1,rfl,I2,FD D,S,fun b hb=>?_,q⟩
 have hb':s1.heap.objs.size<=b:=by
  have z:b=s1.heap.objs.size+4\/b=s1.heap.objs.size+3\/b=s1.heap.objs.size\/b=s1.heap.objs.size+1\/b=s1.heap.objs.size+2:=by simpa using hb
  rcases z with z|z|z|z|z <;> rw[z] <;> first|exact ZG _|exact Nat.le_add_right _ _
 exact I1.fpOk hb' (I1.hok.fresh hb')
inductive Dat where
 |non|bl (b:Bool)|int (i:Int)|str (x:Str)|tup (ds:List Dat)|lst (ds:List Dat)
mutual
def Has(H:Hp):V->Dat->Prop
 |v,.non=>v=.non
 |v,.bl b=>v=.bl b
 |v,.int i=>v=.int i
 |v,.str x=>v=.str x
 |v,.tup ds=>∃a xs,v=.ref a/\H a=some (.tup xs)/\HasL H xs ds
 |v,.lst ds=>∃a xs,v=.ref a/\H a=some (.lst xs)/\HasL H xs ds
def HasL(H:Hp):List V->List Dat->Prop
 |[],[]=>True
 |x::xs,d::ds=>Has H x d/\HasL H xs ds
 |_::_,[]=>False
 |[],_::_=>False
end
mutual
theorem Has.mono{H H':Hp}(e:Same H H'):∀(d:Dat){v:V},Has H v d->Has H' v d
 |.non,_,h=>by unfold Has at h |-;exact h
 |.bl _,_,h=>by unfold Has at h |-;exact h
 |.int _,_,h=>by unfold Has at h |-;exact h
 |.str _,_,h=>by unfold Has at h |-;exact h
 |.tup ds,_,h=>by
  unfold Has at h |-;obtain⟨a,xs,h1,h2,h3⟩:=h;exact⟨a,xs,h1,e _ _ h2,HasL.mono e ds h3⟩
 |.lst ds,_,h=>by
  unfold Has at h |-;obtain⟨a,xs,h1,h2,h3⟩:=h;exact⟨a,xs,h1,e _ _ h2,HasL.mono e ds h3⟩
theorem HasL.mono{H H':Hp}(e:Same H H'):∀(ds:List Dat){xs:List V},HasL H xs ds->HasL H' xs ds
 |[],[],h=>by unfold HasL;trivial
 |[],_::_,h=>by unfold HasL at h;exact h.elim
 |_::_,[],h=>by unfold HasL at h;exact h.elim
 |d::ds,x::xs,h=>by
  unfold HasL at h |-;exact⟨Has.mono e d h.1,HasL.mono e ds h.2⟩
end
theorem HasL.length:∀{ds:List Dat}{xs:List V},HasL H xs ds->xs.length=ds.length
 |[],[],h=>rfl
 |[],_::_,h=>by unfold HasL at h;exact h.elim
 |_::_,[],h=>by unfold HasL at h;exact h.elim
 |d::ds,x::xs,h=>by
  unfold HasL at h;rw[Zf,Zf,HasL.length h.2]
theorem HasL.get:∀{ds:List Dat}{xs:List V}{i:Nat}{x:V},HasL H xs ds->xs[i]?=some x->∃d,ds[i]?=some d/\Has H x d
 |[],[],i,x,h,e=>by simp at e
 |[],_::_,_,_,h,_=>by unfold HasL at h;exact h.elim
 |_::_,[],_,_,h,_=>by unfold HasL at h;exact h.elim
 |d::ds,y::xs,0,x,h,e=>by
  unfold HasL at h;have e':some y=some x:=e;cases e';exact⟨d,rfl,h.1⟩
 |d::ds,y::xs,i+1,x,h,e=>by
  unfold HasL at h;exact HasL.get (i:=i) h.2 e
theorem HasL.append:∀{ds es:List Dat}{xs ys:List V},HasL H xs ds->HasL H ys es->HasL H (xs++ ys) (ds++ es)
 |[],_,[],_,_,h=>h
 |[],_,_::_,_,h,_=>by unfold HasL at h;exact h.elim
 |_::_,_,[],_,h,_=>by unfold HasL at h;exact h.elim
 |d::ds,es,x::xs,ys,h,h'=>by
  unfold HasL at h;show HasL H (x::(xs++ ys)) (d::(ds++ es));unfold HasL;exact⟨h.1,HasL.append h.2 h'⟩
abbrev Z7:=@HasL.append
theorem HasL.one(h:Has H x d):HasL H [x] [d]:=by
 unfold HasL;exact⟨h,by unfold HasL;trivial⟩
abbrev Z5:=@HasL.one
theorem HasL.nil:HasL H [] []:=by unfold HasL;trivial
abbrev Z6:=@HasL.nil
theorem HasL.cons(h:Has H x d)(t:HasL H xs ds):HasL H (x::xs) (d::ds):=by
 unfold HasL;exact⟨h,t⟩
abbrev Z4:=@HasL.cons
mutual
theorem Has.inj{H:Hp}:∀(d d':Dat){v:V},Has H v d->Has H v d'->d=d'
 |.non,d',_,h,h'=>by
  unfold Has at h;subst h;cases d' <;> unfold Has at h' <;> first|(obtain⟨_,_,q,_⟩:=h';cases q;done)|rfl|(cases h';done)
 |.bl _,d',_,h,h'=>by
  unfold Has at h;subst h;cases d' <;> unfold Has at h' <;> first|(obtain⟨_,_,q,_⟩:=h';cases q;done)|(cases h';done)|(cases h';rfl)
 |.int _,d',_,h,h'=>by
  unfold Has at h;subst h;cases d' <;> unfold Has at h' <;> first|(obtain⟨_,_,q,_⟩:=h';cases q;done)|(cases h';done)|(cases h';rfl)
 |.str _,d',_,h,h'=>by
  unfold Has at h;subst h;cases d' <;> unfold Has at h' <;> first|(obtain⟨_,_,q,_⟩:=h';cases q;done)|(cases h';done)|(cases h';rfl)
 |.tup ds,d',_,h,h'=>by
  unfold Has at h;obtain⟨a,xs,h1,h2,h3⟩:=h;subst h1
  cases d' with
  |tup es=>
   unfold Has at h';obtain⟨b,ys,e1,e2,e3⟩:=h';cases e1;rw[h2]at e2;cases e2;rw[HasL.inj ds es h3 e3]
  |lst es=>
   unfold Has at h';obtain⟨b,ys,e1,e2,e3⟩:=h';cases e1;rw[h2]at e2;cases e2
  |_=>unfold Has at h';cases h'
 |.lst ds,d',_,h,h'=>by
  unfold Has at h;obtain⟨a,xs,h1,h2,h3⟩:=h;subst h1
  cases d' with
  |lst es=>
   unfold Has at h';obtain⟨b,ys,e1,e2,e3⟩:=h';cases e1;rw[h2]at e2;cases e2;rw[HasL.inj ds es h3 e3]
  |tup es=>
   unfold Has at h';obtain⟨b,ys,e1,e2,e3⟩:=h';cases e1;rw[h2]at e2;cases e2
  |_=>unfold Has at h';cases h'
theorem HasL.inj{H:Hp}:∀(ds es:List Dat){xs:List V},HasL H xs ds->HasL H xs es->ds=es
 |[],[],_,_,_=>rfl
 |[],_::_,xs,h,h'=>by
  cases xs <;> unfold HasL at h h'
  .exact h'.elim
  .exact h.elim
 |_::_,[],xs,h,h'=>by
  cases xs <;> unfold HasL at h h'
  .exact h.elim
  .exact h'.elim
 |d::ds,e::es,xs,h,h'=>by
  cases xs with
  |nil=>unfold HasL at h;exact h.elim
  |cons x xs=>
   unfold HasL at h h';rw[Has.inj d e h.1 h'.1,HasL.inj ds es h.2 h'.2]
end
theorem NY{K:W.Frag}:∀{d:Dat},Has H v d->Xp K H v (.type (match d with|.non=>"NoneType"|.bl _=>"bool"|.int _=>"int"|.str _=>"str"|.tup _=>"tuple"|.lst _=>"list"))
 |.non,h=>by unfold Has at h;subst h;exact .non
 |.bl _,h=>by unfold Has at h;subst h;exact .bl _
 |.int _,h=>by unfold Has at h;subst h;exact .int _
 |.str _,h=>by unfold Has at h;subst h;exact .str _
 |.tup _,h=>by unfold Has at h;obtain⟨a,xs,rfl,e,_⟩:=h;exact .tup e
 |.lst _,h=>by unfold Has at h;obtain⟨a,xs,rfl,e,_⟩:=h;exact .lst e
end L2
namespace L2
open PySem
theorem Dt{K:PySem.W.Frag}{a:Addr}{xs:List V}{g:TG}{tb:TS}{D:Ends}{U:St}{H:Hp}(Pv:Nat->St->Hp->Prop)(h0:Pv 0 U H)(hl:∀i U H,i<=xs.length->Pv i U H->SqL K H a xs)(hs:∀(B:St->Hp->Prop)(R:VK) i x U H,xs[i]?=some x->Pv i U H->g x U H fun σ2 H2=>tb {nx:=Pv (i+1),rt:=R,bk:=B,ct:=Pv (i+1)} σ2 H2)(hd:∀U H,Pv xs.length U H->D.nx U H):
  ∃W:Nat->Nat->St->Hp->Prop,(∃m,W 0 m U H)/\∀i m U H,W i m U H->
   ((Itl K a).stop i H/\D.nx U H)\/((Itl K a).go i H/\∃N:St->Hp->Prop,(∀U' H',N U' H'->∃m',m'<m/\W (i+1) m' U' H')/\∀x H',(Itl K a).yld i H x H'->g x U H' fun σ2 H2=>tb {D with nx:=N,ct:=N,bk:=D.nx} σ2 H2):=
 Td Pv h0 hl (fun i x U H hx p=>hs _ _ i x U H hx p) hd
theorem Tg{K:PySem.W.Frag}{a:Addr}{xs:List V}{g:TG}{tb:TS}{D:Ends}{U:St}{H:Hp}(Pv:Nat->St->Hp->Prop)(h0:Pv 0 U H)(hl:∀i U H,i<=xs.length->Pv i U H->SqT K H a xs)(hs:∀(B:St->Hp->Prop)(R:VK) i x U H,xs[i]?=some x->Pv i U H->g x U H fun σ2 H2=>tb {nx:=Pv (i+1),rt:=R,bk:=B,ct:=Pv (i+1)} σ2 H2)(hd:∀U H,Pv xs.length U H->D.nx U H):
  ∃W:Nat->Nat->St->Hp->Prop,(∃m,W 0 m U H)/\∀i m U H,W i m U H->
   ((Itt K a).stop i H/\D.nx U H)\/((Itt K a).go i H/\∃N:St->Hp->Prop,(∀U' H',N U' H'->∃m',m'<m/\W (i+1) m' U' H')/\∀x H',(Itt K a).yld i H x H'->g x U H' fun σ2 H2=>tb {D with nx:=N,ct:=N,bk:=D.nx} σ2 H2):=
 Mp Pv h0 hl (fun i x U H hx p=>hs _ _ i x U H hx p) hd
theorem KS{lo:Int}{n:Nat}{g:TG}{tb:TS}{D:Ends}{U:St}{H:Hp}(Pv:Nat->St->Hp->Prop)(h0:Pv 0 U H)(hs:∀(B:St->Hp->Prop)(R:VK) i U H,i<n->Pv i U H->g (.int (lo+i)) U H fun σ2 H2=>tb {nx:=Pv (i+1),rt:=R,bk:=B,ct:=Pv (i+1)} σ2 H2)(hd:∀U H,Pv n U H->D.nx U H):
  ∃W:Nat->Nat->St->Hp->Prop,(∃m,W 0 m U H)/\∀i m U H,W i m U H->
   ((Itr lo n).stop i H/\D.nx U H)\/((Itr lo n).go i H/\∃N:St->Hp->Prop,(∀U' H',N U' H'->∃m',m'<m/\W (i+1) m' U' H')/\∀x H',(Itr lo n).yld i H x H'->g x U H' fun σ2 H2=>tb {D with nx:=N,ct:=N,bk:=D.nx} σ2 H2):=
 XR Pv h0 (fun i U H hi p=>hs _ _ i U H hi p) hd
theorem Yf.none{P:Program}{w:World}{K:W.Frag}{mg:Str->Option Value}{base:Heap}{CX:CXT}{k:Nat}{f:Addr}{fd:FuncData}{ps:List Str}{sp:Sp}(h:∀vs H Q E,sp vs H Q E->False):Yf P w K mg base CX k f fd ps sp:=
 ⟨fun vs H Q E q=>(h _ _ _ _ q).elim,fun A outer s H args us vs Q E _ _ _ _ q=>(h _ _ _ _ q).elim⟩
theorem Y2{N P:List Str}{sc:Scope}(h:sc.kind=.function/\sc.isCoroutine=false/\sc.isGenerator=false/\N.Nodup/\N.take P.length=P/\(∀x∈P,sc.names.lookup x=some .local\/sc.names.lookup x=some .cell)/\∀y∈sc.names,y.2≠.free:=by decide +kernel):Yi N P sc:=
 ⟨h.1,h.2.1,h.2.2.1,h.2.2.2.1,h.2.2.2.2.1,h.2.2.2.2.2.1,h.2.2.2.2.2.2⟩
end L2
namespace K4
open PySem L2
def top(i:Nat):Stmt:=PySem.Challenge.pw_wantway_k44_given_worths.main.body.getD i (.Pass ⟨0,0,0,0⟩)
abbrev BE:Stmt:=top 2
abbrev Gw:Stmt:=top 3
abbrev sKP:Stmt:=top 5
abbrev Fj:Stmt:=top 6
abbrev BN:Stmt:=top 7
abbrev BM:Stmt:=top 8
abbrev Fk:Stmt:=top 9
abbrev MR:Stmt:=top 10
abbrev BL:Stmt:=top 11
abbrev Gy:Stmt:=top 12
abbrev Fm:Stmt:=top 13
abbrev Fl:Stmt:=top 14
abbrev MT:Stmt:=top 26
abbrev BO:Stmt:=top 27
abbrev N9:Stmt:=top 28
abbrev MQ:Stmt:=top 30
abbrev UM:Stmt:=top 36
abbrev Fn:Stmt:=inClass UM 0
abbrev BK:Stmt:=inClass UM 1
abbrev Fi:Stmt:=inClass UM 2
abbrev BF:Stmt:=inClass UM 3
abbrev BG:Stmt:=inClass UM 4
abbrev WM:Stmt:=inClass UM 5
abbrev Gv:Stmt:=inClass UM 7
abbrev MS:Stmt:=inClass UM 9
abbrev Gx:Stmt:=inClass UM 10
abbrev Xu:Stmt:=inClass UM 11
abbrev XX:Stmt:=top 42
abbrev BU:Stmt:=inClass XX 0
abbrev BQ:Stmt:=inClass XX 1
abbrev BV:Stmt:=inClass XX 2
abbrev MX:Stmt:=inClass XX 3
abbrev MV:Stmt:=inClass XX 4
abbrev MU:Stmt:=inClass XX 5
abbrev BR:Stmt:=inClass XX 6
abbrev BS:Stmt:=inClass XX 7
abbrev BW:Stmt:=inClass XX 8
abbrev BP:Stmt:=inClass XX 10
abbrev WP:Stmt:=top 43
abbrev Ua:Stmt:=top 44
abbrev BX:Stmt:=top 45
abbrev WO:Stmt:=top 46
abbrev Xc:Stmt:=top 47
abbrev WN:Stmt:=top 48
abbrev Mw:Stmt:=top 50
abbrev Wl:Stmt:=top 51
abbrev Xo:Stmt:=top 54
abbrev Nm:Stmt:=top 60
abbrev KP:Stmt:=inClass Mw 0
abbrev Xk:Stmt:=inClass Mw 7
abbrev Xl:Stmt:=inClass Mw 8
abbrev Id:Stmt:=inClass Wl 0
abbrev Bn:Stmt:=inClass Wl 1
abbrev Ie:Stmt:=inClass Wl 3
abbrev WY:Stmt:=inClass Wl 4
abbrev Xg:Stmt:=inClass Wl 5
abbrev WX:Stmt:=inClass Wl 6
abbrev Kk:Stmt:=inClass Xo 0
abbrev Tl:Stmt:=inClass Xo 1
abbrev X7:Stmt:=inClass Xo 2
abbrev Xn:Stmt:=inClass Xo 3
abbrev Wh:Stmt:=inClass Xo 4
abbrev Ms:Stmt:=inClass Xo 6
abbrev Tn:Stmt:=inClass Xo 8
abbrev E7:Stmt:=inClass Nm 0
abbrev Gg:Stmt:=inClass Nm 1
abbrev E8:Stmt:=inClass Nm 2
abbrev E6:Stmt:=inClass Nm 3
abbrev PZ:Stmt:=inClass Nm 4
abbrev BH:Stmt:=top 52
abbrev Xd:Stmt:=top 55
abbrev MY:Stmt:=top 58
abbrev MN:Stmt:=top 59
abbrev BJ:Stmt:=top 62
abbrev MP:Stmt:=top 63
abbrev Fh:Stmt:=top 64
abbrev N8:Stmt:=top 65
abbrev BC:Stmt:=top 66
abbrev Ga:Stmt:=top 67
abbrev XH:Stmt:=top 68
abbrev Mg:Stmt:=top 69
abbrev Uh:Stmt:=top 70
abbrev Qf:Stmt:=top 71
abbrev Iq:Stmt:=top 72
abbrev Xh:Stmt:=top 73
abbrev Bs:Stmt:=top 74
theorem FV:Yi ["stream","many","number"] ["stream","many"] (Yd Fh):=Y2
end K4
namespace L2
open PySem PySem.Spec PyProof.Rows
theorem TQ(K:W.Frag)(T:String):W.kitOne K (.type T) (.type T)=some true:=by
 unfold W.kitOne;rw[Zp (by simp)]
theorem Ct{K:W.Frag}:∀{a b:String},(a,b)∈ [("NoneType","bool"),("NoneType","str"),("NoneType","int"),("NoneType","tuple"),("NoneType","list"),("int","bool"),("int","str"),("int","tuple"),("int","list"),("str","bool"),("str","int"),("str","tuple"),("str","list"),("bool","str"),("bool","tuple"),("bool","list"),("tuple","bool"),("tuple","str"),("tuple","int"),("tuple","list"),("list","bool"),("list","str"),("list","int"),("list","tuple")]->W.kitOne K (.type a) (.type b)=some false:=by
 intro a b h;simp only[Zd,Prod.mk.injEq,List.not_mem_nil,or_false]at h;rcases h with⟨rfl,rfl⟩|⟨rfl,rfl⟩|⟨rfl,rfl⟩|⟨rfl,rfl⟩|⟨rfl,rfl⟩|⟨rfl,rfl⟩|⟨rfl,rfl⟩|⟨rfl,rfl⟩|⟨rfl,rfl⟩|⟨rfl,rfl⟩|⟨rfl,rfl⟩|⟨rfl,rfl⟩|⟨rfl,rfl⟩|⟨rfl,rfl⟩|⟨rfl,rfl⟩|⟨rfl,rfl⟩|⟨rfl,rfl⟩|⟨rfl,rfl⟩|⟨rfl,rfl⟩|⟨rfl,rfl⟩|⟨rfl,rfl⟩|⟨rfl,rfl⟩|⟨rfl,rfl⟩|⟨rfl,rfl⟩ <;> kernel_rfl
theorem VN:bootBuiltins "tuple"=some (.type "tuple"):=by decide +kernel
theorem JC:bootBuiltins "list"=some (.type "list"):=by decide +kernel
theorem Wm:bootBuiltins "str"=some (.type "str"):=by decide +kernel
theorem Wn:bootBuiltins "int"=some (.type "int"):=by decide +kernel
theorem B8:bootBuiltins "bool"=some (.type "bool"):=by decide +kernel
theorem Uk:bootBuiltins "dict"=some (.type "dict"):=by decide +kernel
theorem Rg:bootBuiltins "isinstance"=some (.builtin "isinstance"):=by decide +kernel
theorem Wo:bootBuiltins "all"=some (.builtin "all"):=by decide +kernel
theorem Eu:bootBuiltins "max"=some (.builtin "max"):=by decide +kernel
theorem Uc(hg:Gl X "isinstance")(hm:X.mg "isinstance"=none)(hg':Gl X x)(hm':X.mg x=none)(hv:bootBuiltins x=some (.type T))(he:PE X e te)(hn:x≠"__name__":=by decide)(hdb:(x==("__debug__":Str))=false:=by decide)(hs:starEach [e,.Name x p'] X.env=(false,eval e X.env)::starEach [.Name x p'] X.env:=by rfl):
  PE X (.Call (.Name "isinstance" p) [e,.Name x p'] [] pos) (tCB (Sh X.K) (JT te (JT (tC (.ty T)) Rx))):=
 Y7 Ko hg hm Rg (pa2 he (MZ hg' hm' hv rfl hn hdb) hs) (he:=hs)
def tyD:Dat->String
 |.non=>"NoneType"|.bl _=>"bool"|.int _=>"int"|.str _=>"str"|.tup _=>"tuple"|.lst _=>"list"
theorem Jo{K:W.Frag}(h:Has H v d):Xp K H v (.type (tyD d)):=by
 have q:=NY (K:=K) h;cases d <;> exact q
def isD(T:String)(d:Dat):Bool:=decide (tyD d=T) || (T=="int" && decide (tyD d="bool"))
theorem Jn(K:W.Frag)(d:Dat)(hT:T∈ ["bool","str","int","tuple","list"]):W.kitOne K (.type (tyD d)) (.type T)=some (isD T d):=by
 simp only[Zd,List.not_mem_nil,or_false]at hT;rcases hT with rfl|rfl|rfl|rfl|rfl <;> cases d <;> kernel_rfl
end L2
namespace L2
open PySem
mutual
def Dat.dep:Dat->Nat
 |.tup ds=>1+Dat.deps ds
 |.lst ds=>1+Dat.deps ds
 |_=>0
def Dat.deps:List Dat->Nat
 |[]=>0
 |d::ds=>max d.dep (Dat.deps ds)
end
theorem Dat.deps_get:∀{ds:List Dat}{i:Nat}{d:Dat},ds[i]?=some d->d.dep<=Dat.deps ds
 |[],i,d,e=>by simp at e
 |a::ds,0,d,e=>by
  have e':some a=some d:=e;cases e';unfold Dat.deps;exact Nat.le_max_left _ _
 |a::ds,i+1,d,e=>by
  have q:=Dat.deps_get (ds:=ds) (i:=i) e;unfold Dat.deps;exact Zb q (Nat.le_max_right _ _)
theorem VE{c A B:Prop}[Decidable c](hc:c)(h:A):if c then A else B:=by
 rw[Zp hc];exact h
theorem Yy{c A B:Prop}[Decidable c](hc:¬c)(h:B):if c then A else B:=by
 rw[Zq hc];exact h
theorem V0(n:Nat)(hn:n<sizeLine)(Pv:Nat->List V->Hp->Prop)(h0:Pv 0 [] H)(hlen:∀i vs H,Pv i vs H->vs.length=i)(hgo:∀i vs H,i<n->Pv i vs H->J.go i H)(hstop:∀vs H,Pv n vs H->J.stop n H)(hs:∀i vs H x H' (R:V->Hp->Prop),i<n->Pv i vs H->J.yld i H x H'->(∀v H3,Pv (i+1) (vs++[v]) H3->R v H3)->g x s0 H' fun s2 H2=>te s2 H2 R)(hd:∀vs H p,Pv n vs H->H p=none->Q (.ref p) (upd H p (.lst vs))):
  Tv J g te s0 Q H:=by
 refine⟨fun i m vs H=>m=n-i/\i<=n/\Pv i vs H,⟨n,by simp,Zc _,h0⟩,?_⟩;rintro i m vs H ⟨rfl,hi,p⟩;have hl:=hlen i vs H p;refine⟨by omega,?_⟩
 by_cases hlt:i<n
 .exact .inr ⟨hgo i vs H hlt p,fun x H' y=>hs i vs H x H' _ hlt p y fun v H3 p3=>⟨n-(i+1),by omega,rfl,hlt,p3⟩⟩
 .have e:i=n:=by omega
  subst e;exact .inl ⟨hstop vs H p,fun a ha=>hd vs H a p ha⟩
theorem Yo(h:H p=none)(o:HO):Same H (upd H p o):=fun b u q=>by rw[Yg (Yc q h)];exact q
@[elab_as_elim] theorem up_in {motive:Hp->Prop}(h:H l=none) (o:HO) (k:∀H',Same H H'->H' l=some o->motive H'):motive (upd H l o):=k _ (Yo h o) Ye
theorem G5{α:Type}(f:Nat->α)(i:Nat):(List.range i).map f++[f i]=(List.range (i+1)).map f:=by
 rw[List.range_succ,ZK];rfl
structure Blt(mg:Str->Option Value):Prop where
 len:mg "len"=none
 isi:mg "isinstance"=none
 bool:mg "bool"=none
 str:mg "str"=none
 int:mg "int"=none
 tuple:mg "tuple"=none
 list:mg "list"=none
 dict:mg "dict"=none
 all:mg "all"=none
 zip:mg "zip"=none
 max:mg "max"=none
 range:mg "range"=none
 sorted:mg "sorted"=none
end L2
namespace K4
open PySem L2
section
theorem TY:GK 2 (Nd K 2 (JY (Vo 0) (JY (Vo 1) Tc))):=
 B0 (XQ (Vu (i:=0) (by decide)) (XQ (Vu (i:=1) (by decide)) B1 (fun _ _ _ _ _ h z=>h _ _ z) (fun x _ _ _ _ h z=>by
  match x,z with
  |[],z=>exact h _ _ z)) (fun _ _ _ _ _ h z=>h _ _ z) (fun x _ _ _ _ h z=>by
  match x,z with
  |[v],z=>exact h _ _ z))
end
end K4
namespace L2
open PySem
inductive W where
 |non|tag (x:Str)|pair (a b:W)
def W.dat:W->Dat
 |.non=>.non
 |.tag x=>.str x
 |.pair a b=>.tup [a.dat,b.dat]
def W.part:W->List Int->W
 |w,[]=>w
 |.pair a b,i::r=>if i=0 then a.part r else b.part r
 |.non,_::_=>.non
 |.tag _,_::_=>.non
theorem J1(h:Has H v (W.pair a b).dat):∃p x y,v=.ref p/\H p=some (.tup [x,y])/\Has H x a.dat/\Has H y b.dat:=by
 unfold W.dat Has at h;obtain⟨p,xs,rfl,hp,hl⟩:=h
 match xs,hl with
 |[x,y],hl=>
  unfold HasL at hl;obtain⟨h1,h2⟩:=hl;unfold HasL at h2;exact⟨p,x,y,rfl,hp,h1,h2.1⟩
 |[],hl=>unfold HasL at hl;exact hl.elim
 |[x],hl=>unfold HasL at hl;obtain⟨_,h2⟩:=hl;unfold HasL at h2;exact h2.elim
 |_::_::_::_,hl=>
  unfold HasL at hl;obtain⟨_,h2⟩:=hl;unfold HasL at h2;obtain⟨_,h3⟩:=h2;unfold HasL at h3;exact h3.elim
theorem XM:Has H .non W.non.dat:=by unfold W.dat Has;rfl
def Way(ws:List Int):Prop:=∀i∈ws,i=0\/i=1
theorem Ra{ws:List Int}(h:(ws.map V.int)[i]?=some x):∃n r,x=.int n/\ws.drop i=n::r/\ws.drop (i+1)=r/\n∈ws:=by
 rw[ZH]at h
 cases e:ws[i]? with
 |none=>rw[e]at h;cases h
 |some n=>
  rw[e]at h;cases h;obtain⟨hi,q⟩:=ZF.mp e;exact⟨n,ws.drop (i+1),rfl,by rw[List.drop_eq_getElem_cons hi,q],rfl,ZJ e⟩
theorem Ma{a b:V}(h:n=0\/n=1):atI [a,b] n=some (if n=0 then a else b):=by
 rcases h with rfl|rfl <;> rfl
def JG(ws:List Int):Dat:=.tup (ws.map Dat.int)
def W.dep:W->Nat
 |.non=>0
 |.tag _=>0
 |.pair a b=>1+max a.dep b.dep
theorem NZ:∀{ws:List Int}{xs:List V},HasL H xs (ws.map Dat.int)->xs=ws.map V.int
 |[],[],_=>rfl
 |[],_::_,h=>by unfold HasL at h;exact h.elim
 |_::_,[],h=>by rw[ZV]at h;unfold HasL at h;exact h.elim
 |n::ws,x::xs,h=>by
  rw[ZV]at h;unfold HasL at h;obtain⟨h1,h2⟩:=h;unfold Has at h1;rw[h1,NZ h2];rfl
theorem TV:∀(ws:List Int),HasL H (ws.map V.int) (ws.map Dat.int)
 |[]=>Z6
 |n::ws=>Z4 (by unfold Has;rfl) (TV ws)
theorem Jq(h:Has H v (JG ws)):∃a,v=.ref a/\H a=some (.tup (ws.map V.int)):=by
 unfold JG Has at h;obtain⟨a,xs,rfl,ha,hl⟩:=h;rw[NZ hl]at ha;exact⟨a,rfl,ha⟩
theorem U8(h:H a=some (.tup (ws.map V.int))):Has H (.ref a) (JG ws):=by
 unfold JG Has;exact⟨a,_,rfl,h,TV ws⟩
theorem OH(h:Has H v (.lst ds)):∃a xs,v=.ref a/\H a=some (.lst xs)/\HasL H xs ds:=by unfold Has at h;exact h
theorem OB(h:H a=some (.lst xs))(t:HasL H xs ds):Has H (.ref a) (.lst ds):=by unfold Has;exact⟨a,xs,rfl,h,t⟩
def Vp(H:Hp)(p:Addr):Prop:=∃(a:Int)(b:Bool)(c d:Int),H p=some (.lst [.int a,.bl b,.int c,.int d])
def But(p:Addr)(H H':Hp):Prop:=∀b,b≠p->H' b=H b
theorem But.trans(a:But p H H1)(b:But p H1 H2):But p H H2:=fun c h=>(b c h).trans (a c h)
theorem But.upd{p:Addr}{H:Hp}(o:HO):But p H (upd H p o):=fun _ h=>Yg h
end L2
namespace K4
open PySem L2
theorem MM:Yi ["cell","k","number"] ["cell","k"] (Yd BJ):=Y2
theorem FX:Yi ["cell"] ["cell"] (Yd MP):=Y2
section
variable{K:W.Frag}
def DV:Sp:=fun vs H Q _=>∃(c k:Int),vs=[.int c,.int k]/\∀r:Int,0<=r->r<2147483563->Q (.int r) H
theorem IP(F:Fun K "_law_mixed" "_law_mixed" BJ f fd):Yf P w K mg base CX0 (n+1) f fd ["cell","k"] DV:=by
 refine F.oq MM fun cdv A outer s H vs Q E hr h=>?_;obtain⟨c,k,rfl,q⟩:=h;refine⟨_,YY (Yu 2 MM.nd (VB Jy (VB V9 (VB V9 (VB UJ (VB Jy (pv 0) Ya) Ya) (VB UJ Ya (pv 1))) Ya) Ya))
  (YY (Yu 2 MM.nd (VB Jy (VB V9 (VB V9 (VB UJ (pv 2) (pv 2)) (VB UJ Ya (pv 1))) Ya) Ya))
  (YZ (Yh (VB Jy (VB UJ (pv 2) (VB V9 (pv 2) Ya)) Ya)))),?_⟩
 show let a:=_;let b:=Yk _ a;Yk _ b _ _ _
 intros
 have m1:=Int.emod_nonneg c (show(2147483647:Int)≠0 by decide);have m2:=Int.emod_lt_of_pos c (show(0:Int)<2147483647 by decide);refine⟨(by show(0:Int)<_;decide),.inl ⟨by omega,by omega⟩,.inl ⟨by decide,by decide⟩,(by show(0:Int)<_;decide),?_⟩;generalize hx:(c % 2147483647*48271+69621*k+7919) % 2147483629=x;have x1:0<=x:=by rw[<-hx];exact Int.emod_nonneg _ (by decide)
 have x2:x<2147483629:=by rw[<-hx];exact Int.emod_lt_of_pos _ (by decide)
 refine⟨.inl ⟨by omega,by omega⟩,.inl ⟨by decide,by decide⟩,(by show(0:Int)<_;decide),?_⟩;generalize hy:(x*x+31*k+5) % 2147483587=y;have y1:0<=y:=by rw[<-hy];exact Int.emod_nonneg _ (by decide)
 have y2:y<2147483587:=by rw[<-hy];exact Int.emod_lt_of_pos _ (by decide)
 refine⟨.inl ⟨by omega,by omega⟩,(by show(0:Int)<_;decide),?_⟩;exact q _ (Int.emod_nonneg _ (by decide)) (Int.emod_lt_of_pos _ (by decide))
def ND:Sp:=fun vs H Q _=>∃(c:Int),vs=[.int c]/\∀p H',H p=none->But p H H'->Vp H' p->Q (.ref p) H'
theorem EX(F:Fun K "_law_stream" "_law_stream" MP f fd):Yf P w K mg base CX0 (n+1) f fd ["cell"] ND:=by
 refine F.oq FX fun cdv A outer s H vs Q E hr h=>?_;obtain⟨c,rfl,q⟩:=h;refine⟨_,YZ (Yh (Vg (pa4 (pv 0) (Sl (V7 O0 (pv 0) (VB IJ Ya Ya) (Yv _)) (Xe (V7 Uz (pv 0) (NL Gh (VB IJ Ya Ya)) (Yv _)))) Ya (VB Jy (pv 0) Ya)))),?_⟩;have cp:A5 10 18:=⟨by decide,by decide,by decide⟩;refine⟨cp,_,rfl,?_⟩;refine Bv (fun _=>?_) (fun _=>?_)
 .refine ⟨(by show(0:Int)<_;decide),sl 4,fun p hp=>?_⟩
  exact q p _ hp (But.upd _) ⟨_,_,_,_,Ye⟩
 .refine ⟨cp,_,rfl,?_⟩
  refine⟨(by show(0:Int)<_;decide),sl 4,fun p hp=>?_⟩;exact q p _ hp (But.upd _) ⟨_,_,_,_,Ye⟩
def WD:Sp:=fun vs H Q _=>∃(p:Addr)(many:Int),vs=[.ref p,.int many]/\Vp H p/\0<many/\many<1073741824/\∀(r:Int)(H':Hp),0<=r->r<many->But p H H'->Vp H' p->Q (.int r) H'
theorem Lp(F:Fun K "_law_take" "_law_take" Fh f fd)(G:Yf P w K mg base CX0 n g gd ["cell","k"] DV)(bG:Binds K gd ["cell","k"] [])(kG:W.keepIn K (.ref g)=true)(mG:mg "_law_mixed"=some (.ref g)):
  Yf P w K mg base CX0 (n+1) f fd ["stream","many"] WD:=by
 refine F.oq FV fun cdv A outer s H vs Q E hr h=>?_;obtain⟨p,many,rfl,⟨a,b,c,d,hp⟩,m0,m1,q⟩:=h;refine⟨_,YY (Y0 (Ve (Yj VA (pv 0) Ya))
   (YY (Yu 2 FV.nd (VB Jy (Yj VA (pv 0) Ya) (pv 1)))
   (YY (UI (VB Dk (Yj VA (pv 0) Ya) (pv 1)) (TF (pv 0) Ya set_list))
   (YY (UI (WR (V7 Up (Yj VA (pv 0) Ya) Ya (Yv _)) (Xe (V7 Up (Yj VA (pv 0) Ya) (NL Gh Ya) (Yv _)))) (TF (pv 0) Ya set_list))
   (YZ (Yh (pv 2)))))) Yl)
  (YY (UI (VB V9 (Yj VA (pv 0) Ya) Ya) (TF (pv 0) Ya set_list))
  (YZ (Yh (VB Jy (VB Dk (Jg G hr rfl mG kG bG .nil Y4 (pa2 (Yj VA (pv 0) Ya) (Yj VA (pv 0) Ya))) Ya) (pv 1))))),?_⟩
 show let a:=_;let b:=Yk _ a;let c:=_;let d:=Yk _ c;let e:=Yk _ d;let f:=Yk _ e;Yk (VC _ f _) b _ _ _
 intros
 refine⟨_,_,Z3 hp,rfl,_,rfl,?_⟩;refine Bv (fun hb=>?_) (fun hb=>?_)
 .refine ⟨_,_,Z3 hp,rfl,m0,?_⟩
  refine⟨_,_,Z3 hp,rfl,⟨m0,m1⟩,p,_,0,0,rfl,rfl,hp,rfl,?_⟩;have h1:upd H p (.lst [.int (a / many),.bl b,.int c,.int d]) p=some (.lst [.int (a / many),.bl b,.int c,.int d]):=Ye;refine⟨_,_,Z3 h1,rfl,rfl,_,rfl,?_⟩;have r0:=Int.emod_nonneg a (show many≠0 by omega);have r1:=Int.emod_lt_of_pos a m0;refine Bv (fun _=>?_) (fun _=>?_)
  .refine ⟨_,_,Z3 h1,rfl,_,rfl,rfl,p,_,1,1,rfl,rfl,h1,rfl,?_⟩
   exact q _ _ r0 r1 ((But.upd _).trans (But.upd _)) ⟨_,_,_,_,Ye⟩
  .refine ⟨p,_,1,1,rfl,rfl,h1,rfl,?_⟩
   exact q _ _ r0 r1 ((But.upd _).trans (But.upd _)) ⟨_,_,_,_,Ye⟩
 .refine ⟨_,_,Z3 hp,rfl,p,_,2,2,rfl,rfl,hp,rfl,?_⟩
  have h1:upd H p (.lst [.int a,.bl b,.int (c+1),.int d]) p=some (.lst [.int a,.bl b,.int (c+1),.int d]):=Ye;refine⟨_,_,Z3 h1,rfl,_,_,Z3 h1,rfl,_,_,rfl,fun r r0 r1=>?_⟩;refine⟨⟨by decide,by decide⟩,m0,?_⟩;exact q _ _ (Int.emod_nonneg _ (by omega)) (Int.emod_lt_of_pos _ m0) (But.upd _) ⟨_,_,_,_,Ye⟩
end
end K4
namespace L2
open PySem
def alpha(o:Nat):Str:=⟨((List.range 26).map (o + ·)).toArray⟩
def one(c:Nat):Str:=⟨#[c]⟩
def txt(cs:List Nat):Str:=⟨cs.toArray⟩
theorem Wq(o:Nat):(alpha o).length=26:=by show((List.range 26).map (o + ·)).toArray.size=26;simp
theorem Np(o:Nat)(j:Int)(h0:0<=j)(h1:j<26):atI (alpha o).cps.toList j=some (o+j.toNat):=by
 obtain⟨n,rfl⟩:∃n:Nat,j=n:=⟨j.toNat,by omega⟩;refine Y5 ?_;show(((List.range 26).map (o + ·)).toArray.toList)[n]?=_;rw[List.toList_toArray,ZH,List.getElem?_range (by omega)]
 rfl
theorem Ic(ho:o=97\/o=65)(h:o<=c/\c<o+26):∃i rest,Builtin.Str.occurrences (alpha o) (one c) 0 (alpha o).length 1=i::rest:=by
 have all:∀j<26,(Builtin.Str.occurrences (alpha 97) (one (97+j)) 0 26 1).isEmpty=false/\(Builtin.Str.occurrences (alpha 65) (one (65+j)) 0 26 1).isEmpty=false:=by decide +kernel
 rw[Wq]
 have key:(Builtin.Str.occurrences (alpha o) (one c) 0 26 1).isEmpty=false:=by
  have a:=all (c-o) (by omega);rcases ho with rfl|rfl
  .have e:97+(c-97)=c:=by omega
   rw[e]at a;exact a.1
  .have e:65+(c-65)=c:=by omega
   rw[e]at a;exact a.2
 cases q:Builtin.Str.occurrences (alpha o) (one c) 0 26 1 with
 |nil=>rw[q]at key;cases key
 |cons i r=>exact⟨i,r,rfl⟩
theorem Dw{cs:List Nat}(h:cs.length=8):∃a b c d e f g i,cs=[a,b,c,d,e,f,g,i]:=by
 match cs,h with
 |[a,b,c,d,e,f,g,i],_=>exact⟨a,b,c,d,e,f,g,i,rfl⟩
theorem Ac(h:cs.length=8):Txt.join (Str.ofString "") (cs.map one)=txt cs:=by
 obtain⟨a,b,c,d,e,f,g,i,rfl⟩:=Dw h
 rfl
theorem Mt(h:cs.length=8)(j:Nat)(hj:j<=8):Txt.slice (txt cs) none (some (j:Int))=txt (cs.take j):=by
 obtain⟨a,b,c,d,e,f,g,i,rfl⟩:=Dw h
 match j,hj with
 |0,_|1,_|2,_|3,_|4,_|5,_|6,_|7,_|8,_=>rfl
theorem Km(h:cs.length=8)(j:Nat)(hj:j<=8):Txt.slice (txt cs) (some (j:Int)) none=txt (cs.drop j):=by
 obtain⟨a,b,c,d,e,f,g,i,rfl⟩:=Dw h
 match j,hj with
 |0,_|1,_|2,_|3,_|4,_|5,_|6,_|7,_|8,_=>
  unfold Txt.slice;rw[show(txt [a,b,c,d,e,f,g,i]).length=8 from rfl]
  first
   |(rw[Zp (by decide +kernel)];rfl)
   |(rw[Zq (by decide +kernel)];rfl)
theorem Ru(a b:List Nat):txt a++ txt b=txt (a++ b):=by
 show(⟨a.toArray++ b.toArray⟩:Str)=⟨(a++ b).toArray⟩;simp
theorem K2(h:txt a=txt b):a=b:=by
 have q:a.toArray=b.toArray:=congrArg Str.cps h;simpa using q
theorem Rt(a:List Nat):(txt a).length=a.length:=by show a.toArray.size=a.length;simp
def wd(o:Nat)(cs:List Nat)(at' way i k:Nat):List Nat:=
 if way=0 then cs.take at'++[o+(i+5*k) % 26]++ cs.drop (at'+1)
 else if way=1 then[o+(i+5*k) % 26]++ cs.take ((3*k+at') % 8)
 else if way=2 then cs.take (k % 8+1)
 else cs.take (8-k % 8)
theorem K9(hkl:k<l)(h:l<24):(i+5*k) % 26≠(i+5*l) % 26:=fun e=>by
 have q:=Nat.sub_mod_eq_zero_of_mod_eq e.symm;have f:∀d:Fin 24,d.val≠0->5*d.val % 26≠0:=by decide
 refine f ⟨l-k,by omega⟩ (by show l-k≠0;omega) ?_;show 5*(l-k) % 26=0;rw[Nat.mul_sub,<-Nat.add_sub_add_left i (5*l) (5*k)];exact q
theorem SF(h8:cs.length=8)(ha:at'<8)(hm:way<2/\l<24\/l<8)(hkl:k<l):wd o cs at' way i k≠wd o cs at' way i l:=by
 intro e;have d:=K9 (i:=i) hkl (hm.elim (·.2) fun z=>Nat.lt_trans z (by decide));unfold wd at e
 by_cases w0:way=0
 .rw [Zp w0,Zp w0]at e
  have lt:(cs.take at').length=at':=by rw[ZN,h8];exact Nat.min_eq_left (Zh ha)
  have q:=congrArg (fun x:List Nat=>x[at']?) e
  have g:∀x:Nat,(cs.take at'++[x]++ cs.drop (at'+1))[at']?=some x:=fun x=>by
   rw[List.append_assoc,List.getElem?_append_right (Nat.le_of_eq lt),lt];simp
  exact d (Nat.add_left_cancel (ZT ((g _).symm.trans (q.trans (g _)))))
 rw[Zq w0,Zq w0]at e
 by_cases w1:way=1
 .rw [Zp w1,Zp w1]at e
  exact d (Nat.add_left_cancel (List.cons.inj e).1)
 rw[Zq w1,Zq w1]at e;have l8:l<8:=hm.elim (fun z=>by omega) id;have k8:=Nat.lt_trans hkl l8;rw[Nat.mod_eq_of_lt l8,Nat.mod_eq_of_lt k8]at e
 have q:∀{a b:Nat},cs.take a=cs.take b->a<=8->b<=8->a=b:=fun z ha hb=>by
  have:=congrArg List.length z;rw[ZN,ZN,h8,Nat.min_eq_left ha,Nat.min_eq_left hb]at this;exact this
 by_cases w2:way=2
 .rw [Zp w2,Zp w2]at e
  exact Zr (Nat.succ.inj (q e k8 l8)) (Ze hkl)
 rw[Zq w2,Zq w2]at e;have:=q e (Nat.sub_le _ _) (Nat.sub_le _ _);omega
theorem PX(h8:cs.length=8)(ha:at'<8):1<=(wd o cs at' way i k).length/\(wd o cs at' way i k).length<=8:=by
 have t:∀{n:Nat},n<=8->(cs.take n).length=n:=fun h=>by rw[ZN,h8];exact Nat.min_eq_left h
 unfold wd
 split
 .rw [ZL,ZL,t (Zh ha),List.length_drop,h8,List.length_singleton];omega
 split
 .rw [ZL,t (Zh (Nat.mod_lt _ (by decide))),List.length_singleton]
  have:=Nat.mod_lt (3*k+at') (show 8 > 0 by decide);omega
 have k8:=Nat.mod_lt k (show 8 > 0 by decide)
 split
 .rw [t k8];exact⟨Nat.succ_pos _,k8⟩
 .rw [t (Nat.sub_le _ _)];exact⟨Nat.sub_pos_of_lt k8,Nat.sub_le _ _⟩
theorem SG(hc:∀c∈cs,o<=c/\c<o+26):∀c∈wd o cs at' way i k,o<=c/\c<o+26:=by
 have z:o<=o+(i+5*k) % 26/\o+(i+5*k) % 26<o+26:=by omega
 intro c h;unfold wd at h
 split at h
 .simp only[ZX,ZQ]at h
  rcases h with(h|h)|h
  .exact hc c (Zk h)
  .rw [h];exact z
  .exact hc c (List.mem_of_mem_drop h)
 split at h
 .simp only[ZX,ZQ]at h
  rcases h with h|h
  .rw [h];exact z
  .exact hc c (Zk h)
 split at h
 .exact hc c (Zk h)
 .exact hc c (Zk h)
structure Wds(o:Nat)(ys:List Str):Prop where
 nd:ys.Nodup
 len:∀y∈ys,1<=y.length/\y.length<=8
 abc:∀y∈ys,∀c∈y.cps.toList,o<=c/\c<o+26
theorem PV(h8:cs.length=8)(ha:at'<8)(hm:way<2/\m<=24\/m<=8)(hc:∀c∈cs,o<=c/\c<o+26):Wds o ((List.range m).map fun k=>txt (wd o cs at' way i k)):=by
 refine⟨?_,fun y hy=>?_,fun y hy c hc'=>?_⟩
 .show List.Pairwise _ _
  rw[List.pairwise_map];refine List.Pairwise.imp_of_mem ?_ (List.pairwise_lt_range (n:=m));intro a b ha' hb hab e;exact SF (i:=i) h8 ha (by have:=List.mem_range.mp hb;omega) hab (K2 e)
 .obtain ⟨k,_,rfl⟩:=ZW.mp hy
  rw[Rt];exact PX h8 ha
 .obtain ⟨k,_,rfl⟩:=ZW.mp hy
  exact SG hc c (by simpa[txt]using hc')
def SameB(p:Addr)(H H':Hp):Prop:=∀b o,b≠p->H b=some o->H' b=some o
theorem SameB.refl(p:Addr)(H:Hp):SameB p H H:=fun _ _ _ h=>h
theorem SameB.trans(a:SameB p H H1)(b:SameB p H1 H2):SameB p H H2:=fun c o n h=>b c o n (a c o n h)
theorem But.sb(a:But p H H'):SameB p H H':=fun b o n h=>(a b n).trans h
theorem Same.sb(a:Same H H'):SameB p H H':=fun b o _ h=>a b o h
theorem SameB.free(a:SameB p H H')(n:r≠p)(h:H' r=none):H r=none:=by
 cases e:H r with
 |none=>rfl
 |some o=>rw[a r o n e]at h;cases h
theorem SameB.put(a:SameB p H H')(h:H r=none):SameB p H (upd H' r o):=fun b u n e=>by
 rw[Yg (Yc e h)];exact a b u n e
theorem Vp.ne(s:Vp H p)(h:H r=none):r≠p:=fun e=>by
 obtain⟨a,b,c,d,q⟩:=s;rw[<-e,h]at q;cases q
theorem Vp.keep(s:Vp H p)(e:H' p=H p):Vp H' p:=by
 obtain⟨a,b,c,d,q⟩:=s;exact⟨a,b,c,d,e.trans q⟩
theorem NC(a b:Str):(a++ b).length=a.length+b.length:=by
 show(a.cps++ b.cps).size=a.cps.size+b.cps.size;simp
theorem Qy(h:cs.length=8)(lo hi:Option Int):(Txt.slice (txt cs) lo hi).length<=8:=by
 have q:=Txt.slice_le (txt cs) lo hi;rw[Rt,h]at q;exact q
theorem Sj{at' way i k:Nat}(h:way<4):atI [V.str (txt (cs.take at'++[o+(i+5*k) % 26]++ cs.drop (at'+1))),V.str (txt ([o+(i+5*k) % 26]++ cs.take ((3*k+at') % 8))),V.str (txt (cs.take (k % 8+1))),V.str (txt (cs.take (8-k % 8)))] (way:Int)=some (V.str (txt (wd o cs at' way i k))):=by
 match way,h with
 |0,_|1,_|2,_|3,_=>rfl
end L2
namespace K4
open PySem L2
theorem UB:Yi ["stream","many","letters","ways","k","base","at","way","words","sign","some"] ["stream","many","letters","ways"] (Yd N8):=Y2
theorem Qe:List.Nodup [("k":Str),"letters","stream"]:=by decide +kernel
section
def W5:Sp:=fun vs H Q _=>∃(p:Addr)(many:Nat)(o:Nat)(ways:Nat),vs=[.ref p,.int many,.str (alpha o),.int ways]/\Vp H p/\(o=97\/o=65)/\0<ways/\(ways<=2/\many<=24\/ways<=4/\many<=8)/\
 ∀(r:Addr)(ys:List Str)(H':Hp),SameB p H H'->Vp H' p->H r=none->r≠p->H' r=some (.lst (ys.map V.str))->ys.length=many->Wds o ys->Q (.ref r) H'
theorem IK(B:Blt mg)(F:Fun K "_law_words" "_law_words" N8 f fd)(G:Yf P w K mg base CX0 n g gd ["stream","many"] WD)(bG:Binds K gd ["stream","many"] [])(kG:W.keepIn K (.ref g)=true)(mG:mg "_law_take"=some (.ref g)):
  Yf P w K mg base CX0 (n+1) f fd ["stream","many","letters","ways"] W5:=by
 refine F.oq UB fun cdv A outer s H vs Q E hr h=>?_;obtain⟨p,many,o,ways,rfl,hs,ho,hw,hm,q⟩:=h;refine⟨_,YY (Yu 5 UB.nd (XU PySem.F.plainAttrs_str PySem.F.slot_str_join PySem.F.type_str_join L8 Yw (pa1 (V6 ["k"] [2,0] (Jd rfl B.range (pa1 Ya)) (Vu (i:=0) (by decide))
   (fun cl C fp s H=>Yp 0 Qe rfl (Or.inl rfl) (Or.inr rfl)) (fun cl C fp s H=>Yj (r:=Sg) Bu (pv 1) (Jg G hr rfl mG kG bG .nil Y4 (pa2 (pv 2) Ya)) (fun _ _=>rfl))))))
  (YY (Yu 6 UB.nd (Jg G hr rfl mG kG bG .nil Y4 (pa2 (pv 0) Ya)))
  (YY (Yu 7 UB.nd (Jg G hr rfl mG kG bG .nil Y4 (pa2 (pv 0) (pv 3))))
  (YY (Yu 8 UB.nd (Vg Vj))
  (YY (V1 Zv rfl (Jd rfl B.range (pa1 (pv 1))) (Yp 4 UB.nd)
   (YY (Yu 9 UB.nd (Yj Bu (pv 2) (VB Jy (VB V9 (XU PySem.F.plainAttrs_str PySem.F.slot_str_index PySem.F.type_str_index Im (pv 2) (pa1 (Yj Bu (pv 5) (pv 6) (fun _ _=>rfl)))) (VB UJ Ya (pv 4))) Ya) (fun _ _=>rfl)))
   (YY (Yu 10 UB.nd (Vg (pa4 (VB Xf (VB Xf (V3 Gs (pv 5) JK (JJ (pv 6))) (pv 9)) (V3 Gs (pv 5) (JJ (VB V9 (pv 6) Ya)) JK)) (VB Xf (pv 9) (V3 Gs (pv 5) JK (JJ (VB Jy (VB V9 (VB UJ Ya (pv 4)) (pv 6)) Ya)))) (V3 Gs (pv 5) JK (JJ (VB V9 (VB Jy (pv 4) Ya) Ya))) (V3 Gs (pv 5) JK (JJ (VB QJ Ya (VB Jy (pv 4) Ya)))))))
   (YZ (Vm (XU Zz Z0 Z1 Je (pv 8) (pa1 (Yj VA (pv 10) (pv 7) (fun _ _=>rfl)))))))))
  (YZ (Yh (pv 8))))))),?_⟩
 show let a:=_;let b:=_;let c:=Yk _ b;let d:=Yk _ c;let e:=Yk (UH _ _ d) a;let f:=Yk _ e;let g:=Yk _ f;let h:=Yk _ g;Yk _ h _ _ _
 intros
 have em:((many:Nat):Int).toNat=many:=Int.toNat_natCast _;refine⟨rfl,8,rfl,by decide,by decide,?_⟩;refine V0 8 (Yq (by decide)) (fun i vs H'=>SameB p H H'/\Vp H' p/\∃cs:List Nat,vs=cs.map (fun c=>V.str (one c))/\cs.length=i/\∀c∈cs,o<=c/\c<o+26) ⟨SameB.refl _ _,hs,[],rfl,rfl,fun c h=>nomatch h⟩
  (fun i vs H' z=>by obtain⟨_,_,cs,e,l,_⟩:=z;rw[e,ZA,l]) (fun i vs H' hi z=>hi) (fun vs H' z=>ZG _) ?_ ?_
 .intro i vs H' x H'' R hi z yl hR
  obtain⟨rfl,rfl⟩:=yl;obtain⟨z1,z2,cs,rfl,zl,zc⟩:=z;refine⟨p,26,rfl,z2,by decide,by decide,fun r H3 r0 r1 b s3=>?_⟩;refine⟨alpha o,r,o+r.toNat,rfl,rfl,by rw[Wq];decide,Np o r r0 r1,hR _ _ ⟨z1.trans b.sb,s3,cs++[o+r.toNat],by rw[ZK];rfl,by rw[ZL,zl];rfl,fun c hc=>?_⟩⟩;rcases ZX.mp hc with h|h
  .exact zc c h
  .rw [ZQ.mp h];omega
 intro vs H1 pl z hpl;obtain⟨z1,z2,cs,rfl,z8,zc⟩:=z;have npl:pl≠p:=z2.ne hpl;have e1:cs.map (fun c=>V.str (one c))=(cs.map one).map V.str:=by rw[List.map_map];rfl
 refine⟨_,pl,cs.map one,rfl,rfl,Z3 (by rw[Ye,e1]),?_,?_⟩
 .obtain ⟨a,b,c,d,e,f,g,i,rfl⟩:=Dw z8
  show(8:Nat)+8*0<=16777216
  decide
 rw[Ac z8];have s1:Vp (upd H1 pl (.lst (cs.map fun c=>V.str (one c)))) p:=z2.keep (Yg (Zs npl));have b1:SameB p H (upd H1 pl (.lst (cs.map fun c=>V.str (one c)))):=z1.trans (Yo hpl _).sb;generalize upd H1 pl (.lst (cs.map fun c=>V.str (one c)))=H2 at s1 b1;refine⟨p,8,rfl,s1,by decide,by decide,fun at' H3 a0 a1 b3 s3=>?_⟩;refine⟨p,ways,rfl,s3,by omega,by omega,fun way H4 w0 w1 b4 s4=>?_⟩;refine⟨sl 0,fun wl hwl=>?_⟩;have b5:SameB p H H4:=(b1.trans b3.sb).trans b4.sb;have nwl:wl≠p:=s4.ne hwl;have fwl:H wl=none:=b5.free nwl hwl;obtain⟨at1,rfl⟩:∃n:Nat,at'=n:=⟨at'.toNat,by omega⟩;obtain⟨way1,rfl⟩:∃n:Nat,way=n:=⟨way.toNat,by omega⟩;have hat:at1<8:=by omega
 obtain⟨c0,hc0⟩:∃c0,cs[at1]?=some c0:=⟨cs[at1],ZD (by omega)⟩;obtain⟨i0,rest,hocc⟩:=Ic ho (zc c0 (ZJ hc0));refine⟨many,rfl,by omega,by omega,?_⟩
 let I:Nat->St->Hp->Prop:=fun i U H'=>SameB p H H'/\Vp H' p/\H' wl=some (.lst (((List.range i).map fun k=>txt (wd o cs at1 way1 i0 k)).map V.str))/\
  ∃z1 z2 z3,U=[some (.ref p),some (.int many),some (.str (alpha o)),some (.int ways),z1,some (.str (txt cs)),some (.int at1),some (.int way1),some (.ref wl),z2,z3]
 refine KS (n:=((many:Nat):Int).toNat) I ?_ ?_ ?_
 .exact ⟨b5.put fwl,s4.keep (Yg (Zs nwl)),Ye,_,_,_,rfl⟩
 .rintro BB RR i U H' hi ⟨y1,y2,y3,z1,z2,z3,rfl⟩
  rw[em]at hi;have tl:(txt cs).length<=sizeLine:=by rw[Rt,z8];decide
  have e0:((i0:Int)+5*(0+(i:Int))) % 26=(((i0+5*i) % 26:Nat):Int):=by rw[show(i0:Int)+5*(0+(i:Int))=((i0+5*i:Nat):Int) by omega];rfl
  have hidx:(0:Int)<=((i0:Int)+5*(0+(i:Int))) % 26/\((i0:Int)+5*(0+(i:Int))) % 26<26:=by rw[e0];exact⟨Int.natCast_nonneg _,Int.ofNat_lt.mpr (Nat.mod_lt _ (by decide))⟩
  have e26:(((i0:Int)+5*(0+(i:Int))) % 26).toNat=(i0+5*i) % 26:=by rw[e0];rfl
  refine⟨rfl,txt cs,at1,c0,rfl,rfl,tl,Y5 (by simpa[txt]using hc0),_,_,i0,rest,rfl,rfl,hocc,.inl ⟨by decide,by decide⟩,(by show(0:Int)<_;decide),?_⟩;refine⟨alpha o,_,_,rfl,rfl,by rw[Wq];decide,Np o _ hidx.1 hidx.2,?_⟩;rw[e26];have sg:(⟨#[o+(i0+5*i) % 26]⟩:Str)=txt [o+(i0+5*i) % 26]:=rfl;rw[sg]
  have eA:Txt.slice (txt cs) none (some (at1:Int))++ txt [o+(i0+5*i) % 26]++ Txt.slice (txt cs) (some ((at1:Int)+1)) none=txt (cs.take at1++[o+(i0+5*i) % 26]++ cs.drop (at1+1)):=by
   have z:((at1:Int)+1)=((at1+1:Nat):Int):=by omega
   rw[z,Mt z8 at1 (by omega),Km z8 (at1+1) (by omega),Ru,Ru]
  have eB:txt [o+(i0+5*i) % 26]++ Txt.slice (txt cs) none (some ((3*(0+(i:Int))+(at1:Int)) % 8))=txt ([o+(i0+5*i) % 26]++ cs.take ((3*i+at1) % 8)):=by
   have z:(3*(0+(i:Int))+(at1:Int)) % 8=(((3*i+at1) % 8:Nat):Int):=by rw[show 3*(0+(i:Int))+(at1:Int)=((3*i+at1:Nat):Int) by omega];rfl
   rw[z,Mt z8 _ (Zh (Nat.mod_lt _ (by decide))),Ru]
  have eC:Txt.slice (txt cs) none (some ((0+(i:Int)) % 8+1))=txt (cs.take (i % 8+1)):=by
   have z:(0+(i:Int)) % 8+1=((i % 8+1:Nat):Int):=by rw[Int.zero_add];rfl
   rw[z,Mt z8 _ (by omega)]
  have eD:Txt.slice (txt cs) none (some (8-(0+(i:Int)) % 8))=txt (cs.take (8-i % 8)):=by
   have z:8-(0+(i:Int)) % 8=((8-i % 8:Nat):Int):=by omega
   rw[z,Mt z8 _ (by omega)]
  have small:∀m:Nat,m<=100->m<=sizeLine:=fun m h=>Zh (Yq (by omega));have k1:∀lo hi,(Txt.slice (txt cs) lo hi).length<=8:=fun lo hi=>Qy z8 lo hi;have x1:(txt [o+(i0+5*i) % 26]).length=1:=rfl;refine⟨_,rfl,txt cs,rfl,tl,_,_,rfl,rfl,small _ (by have:=k1 none (some (at1:Int));omega),_,rfl,txt cs,rfl,tl,_,_,rfl,rfl,small _ (by have:=k1 none (some (at1:Int));have:=k1 (some ((at1:Int)+1)) none;rw[NC];omega),?_⟩;refine⟨.inl ⟨by decide,by decide⟩,(by show(0:Int)<_;decide),_,rfl,txt cs,rfl,tl,_,_,rfl,rfl,small _ (by have:=k1 none (some ((3*(0+(i:Int))+(at1:Int)) % 8));omega),?_⟩;refine⟨(by show(0:Int)<_;decide),_,rfl,txt cs,rfl,tl,?_⟩;refine⟨(by show(0:Int)<_;decide),_,rfl,txt cs,rfl,tl,sl 4,fun t ht=>?_⟩;rw[eA,eB,eC,eD];have nt:t≠p:=y2.ne ht;have ntw:wl≠t:=Yc y3 ht;refine⟨.inl ⟨rfl,_,Z3 ((Yg ntw).trans y3)⟩,_,_,Z3 Ye,Sj (by omega),wl,_,_,rfl,rfl,(Yg ntw).trans y3,?_,?_⟩
  .rw [ZA,ZA,List.length_range]
   exact Yq (by omega)
  .have ft:H t=none:=y1.free nt ht
   refine⟨(y1.put ft).put fwl,y2.keep ((Yg (Zs nwl)).trans (Yg (Zs nt))),?_,_,_,_,rfl⟩;rw[Ye,<-G5,ZK]
   rfl
 .rintro U H' ⟨y1,y2,y3,z1,z2,z3,rfl⟩
  rw[em]at y3;refine q wl _ H' y1 y2 fwl nwl y3 (by simp) (PV z8 hat ?_ zc);omega
end
end K4
namespace L2
open PySem PySem.Spec PyProof.Rows SeqAt
mutual
def Dat.pq:Dat->Dat->Bool
 |.non,.non=>true
 |.bl a,.bl b=>a==b
 |.bl a,.int b=>(if a then 1 else 0)==b
 |.int a,.bl b=>a==(if b then 1 else 0)
 |.int a,.int b=>a==b
 |.str a,.str b=>a==b
 |.tup a,.tup b=>Dat.pqs a b
 |.lst a,.lst b=>Dat.pqs a b
 |_,_=>false
def Dat.pqs:List Dat->List Dat->Bool
 |[],[]=>true
 |a::as,b::bs=>Dat.pq a b && Dat.pqs as bs
 |_,_=>false
end
mutual
theorem Dat.pq_self:∀a:Dat,a.pq a=true
 |.non=>by unfold Dat.pq;rfl
 |.bl b=>by unfold Dat.pq;exact beq_self_eq_true b
 |.int i=>by unfold Dat.pq;exact beq_self_eq_true i
 |.str x=>by unfold Dat.pq;exact beq_self_eq_true x
 |.tup ds=>by unfold Dat.pq;exact Dat.pqs_self ds
 |.lst ds=>by unfold Dat.pq;exact Dat.pqs_self ds
theorem Dat.pqs_self:∀a:List Dat,Dat.pqs a a=true
 |[]=>by unfold Dat.pqs;rfl
 |a::as=>by unfold Dat.pqs;rw[Dat.pq_self a,Dat.pqs_self as];rfl
end
theorem GL:∀(as bs:List Dat),((List.range (min as.length bs.length)).all (fun i=>((as[i]?).getD .non).pq ((bs[i]?).getD .non)) && as.length==bs.length)=Dat.pqs as bs
 |[],[]=>by unfold Dat.pqs;rfl
 |[],_::_=>by unfold Dat.pqs;simp
 |_::_,[]=>by unfold Dat.pqs;simp
 |a::as,b::bs=>by
  have ih:=GL as bs;have e:min (a::as).length (b::bs).length=min as.length bs.length+1:=by simp only[Zf];omega
  rw[e,List.range_succ_eq_map,List.all_cons,List.all_map];unfold Dat.pqs;rw[<-ih];have e2:((a::as).length==(b::bs).length)=(as.length==bs.length):=by simp
  rw[e2,Bool.and_assoc]
  rfl
theorem LX(h:as.length=bs.length):(List.range as.length).all (fun i=>((as[i]?).getD .non).pq ((bs[i]?).getD .non))=Dat.pqs as bs:=by
 rw[<-GL as bs,h];simp
theorem QC(h:as.length≠bs.length):Dat.pqs as bs=false:=by
 rw[<-GL as bs];simp[h]
theorem UZ{s:Shared}(ok:HOk P w H s.heap)(h:H a=some (.tup xs)):∃its:List Value,Vals xs its/\s.heap.IsTuple a its.toArray:=by
 obtain⟨_,its,r,p⟩:=(show VT P w H s.heap a (.tup xs)from ok a _ h);exact⟨its,r,p.is⟩
theorem Ug{s:Shared}(ok:HOk P w H s.heap)(h:H a=some (.lst xs)):∃its:List Value,Vals xs its/\s.heap.IsList a its.toArray:=by
 obtain⟨_,its,n,r,p⟩:=(show VT P w H s.heap a (.lst xs)from ok a _ h);exact⟨its,r,_,p,rfl,n,rfl⟩
structure Cmp(A:Around)(s:Shared)(u v:Value)(b:Bool):Prop where
 eq:EqAt A s u v b
 rc:RcAt A s u v b
 ne:RcNeAt A s u v (!b)
theorem D4{A:Around}{ds es:List Dat}{xs ys:List V}{its its2:List Value}(ih:∀(d1 d2:Dat){x y:V}{u v:Value},d1.dep<=m->Has H x d1->Has H y d2->RelV x u->RelV y v->EqAt A s u v (d1.pq d2))(dd:Dat.deps ds<=m)(hxs:HasL H xs ds)(hys:HasL H ys es)(r:Vals xs its)(r2:Vals ys its2):∀j (h1:j<its.toArray.size) (h2:j<its2.toArray.size),EqAt A s its.toArray[j] its2.toArray[j] ((fun i=>((ds[i]?).getD .non).pq ((es[i]?).getD .non)) j):=by
 intro j h1 h2;have l3:=r.length;have l4:=r2.length;rw[ZO]at h1 h2;have j1:j<xs.length:=by omega
 have j2:j<ys.length:=by omega
 obtain⟨d,hd,hh⟩:=hxs.get (ZD j1);obtain⟨d',hd',hh'⟩:=hys.get (ZD j2);obtain⟨u1,hu1,ru1⟩:=r.get (ZD j1);obtain⟨u2,hu2,ru2⟩:=r2.get (ZD j2);have i1:its.toArray[j]=u1:=by have z:=(ZF.mp hu1).2;simpa using z
 have i2:its2.toArray[j]=u2:=by have z:=(ZF.mp hu2).2;simpa using z
 dsimp only;rw[i1,i2,hd,hd'];have c1:=Dat.deps_get hd;exact ih d d' (by omega) hh hh' ru1 ru2
theorem Nj(ok:HOk P w H s.heap)(n:Nat)(ih:∀m,n=m+1->∀(d1 d2:Dat)(A:Around){x y:V}{u v:Value},d1.dep<=m->Has H x d1->Has H y d2->RelV x u->RelV y v->Vs (m+1) A->Cmp A s u v (d1.pq d2))(d1 d2:Dat)(A:Around){x y:V}{u v:Value}(hn:d1.dep<=n)(hx:Has H x d1)(hy:Has H y d2)(ru:RelV x u)(rv:RelV y v)(hr:Vs (n+1) A):Cmp A s u v (d1.pq d2):=by
 have hu:=hr.units0
 cases d1 with
 |non=>
  unfold Has at hx;subst hx;cases ru
  cases d2 with
  |non=>unfold Has at hy;subst hy;cases rv;unfold Dat.pq;exact⟨.same _,.none_none,.none_none⟩
  |bl b=>unfold Has at hy;subst hy;cases rv;unfold Dat.pq;exact⟨.none_bool _,.none_bool _,.none_bool _⟩
  |int b=>unfold Has at hy;subst hy;obtain⟨t',rfl⟩:=rv;unfold Dat.pq;exact⟨.none_int _ _,.none_int _ _,.none_int _ _⟩
  |str b=>unfold Has at hy;subst hy;obtain⟨t',rfl⟩:=rv;unfold Dat.pq;exact⟨.none_str _ _,.none_str _ _,.none_str _ _⟩
  |tup es=>unfold Has at hy;obtain⟨p,ys,rfl,hp,_⟩:=hy;cases rv;obtain⟨its,r,pt⟩:=UZ ok hp;unfold Dat.pq;exact⟨.none_tuple pt hu,.none_tuple pt hu,.none_tuple pt hu⟩
  |lst es=>unfold Has at hy;obtain⟨p,ys,rfl,hp,_⟩:=hy;cases rv;obtain⟨its,r,pt⟩:=Ug ok hp;unfold Dat.pq;exact⟨.none_list pt hu,.none_list pt hu,.none_list pt hu⟩
 |bl a=>
  unfold Has at hx;subst hx;cases ru
  cases d2 with
  |non=>unfold Has at hy;subst hy;cases rv;unfold Dat.pq;exact⟨.bool_none _,.bool_none _,.bool_none _⟩
  |bl b=>unfold Has at hy;subst hy;cases rv;unfold Dat.pq;exact⟨.bool_bool _ _,.bool_bool _ _,.bool_bool _ _⟩
  |int b=>unfold Has at hy;subst hy;obtain⟨t',rfl⟩:=rv;unfold Dat.pq;exact⟨.bool_int _ _ _,.bool_int _ _ _,.bool_int _ _ _⟩
  |str b=>unfold Has at hy;subst hy;obtain⟨t',rfl⟩:=rv;unfold Dat.pq;exact⟨.bool_str _ _ _,.bool_str _ _ _,.bool_str _ _ _⟩
  |tup es=>unfold Has at hy;obtain⟨p,ys,rfl,hp,_⟩:=hy;cases rv;obtain⟨its,r,pt⟩:=UZ ok hp;unfold Dat.pq;exact⟨.bool_tuple _ pt hu,.bool_tuple _ pt hu,.bool_tuple _ pt hu⟩
  |lst es=>unfold Has at hy;obtain⟨p,ys,rfl,hp,_⟩:=hy;cases rv;obtain⟨its,r,pt⟩:=Ug ok hp;unfold Dat.pq;exact⟨.bool_list _ pt hu,.bool_list _ pt hu,.bool_list _ pt hu⟩
 |int a=>
  unfold Has at hx;subst hx;obtain⟨t,rfl⟩:=ru
  cases d2 with
  |non=>unfold Has at hy;subst hy;cases rv;unfold Dat.pq;exact⟨.int_none _ _,.int_none _ _,.int_none _ _⟩
  |bl b=>unfold Has at hy;subst hy;cases rv;unfold Dat.pq;exact⟨.int_bool _ _ _,.int_bool _ _ _,.int_bool _ _ _⟩
  |int b=>unfold Has at hy;subst hy;obtain⟨t',rfl⟩:=rv;unfold Dat.pq;exact⟨.int_int _ _ _ _,.int_int _ _ _ _,.int_int _ _ _ _⟩
  |str b=>unfold Has at hy;subst hy;obtain⟨t',rfl⟩:=rv;unfold Dat.pq;exact⟨.int_str _ _ _ _,.int_str _ _ _ _,.int_str _ _ _ _⟩
  |tup es=>unfold Has at hy;obtain⟨p,ys,rfl,hp,_⟩:=hy;cases rv;obtain⟨its,r,pt⟩:=UZ ok hp;unfold Dat.pq;exact⟨.int_tuple _ _ pt hu,.int_tuple _ _ pt hu,.int_tuple _ _ pt hu⟩
  |lst es=>unfold Has at hy;obtain⟨p,ys,rfl,hp,_⟩:=hy;cases rv;obtain⟨its,r,pt⟩:=Ug ok hp;unfold Dat.pq;exact⟨.int_list _ _ pt hu,.int_list _ _ pt hu,.int_list _ _ pt hu⟩
 |str a=>
  unfold Has at hx;subst hx;obtain⟨t,rfl⟩:=ru
  cases d2 with
  |non=>unfold Has at hy;subst hy;cases rv;unfold Dat.pq;exact⟨.str_none _ _,.str_none _ _,.str_none _ _⟩
  |bl b=>unfold Has at hy;subst hy;cases rv;unfold Dat.pq;exact⟨.str_bool _ _ _,.str_bool _ _ _,.str_bool _ _ _⟩
  |int b=>unfold Has at hy;subst hy;obtain⟨t',rfl⟩:=rv;unfold Dat.pq;exact⟨.str_int _ _ _ _,.str_int _ _ _ _,.str_int _ _ _ _⟩
  |str b=>unfold Has at hy;subst hy;obtain⟨t',rfl⟩:=rv;unfold Dat.pq;exact⟨.str_str _ _ _ _,.str_str _ _ _ _,.str_str _ _ _ _⟩
  |tup es=>unfold Has at hy;obtain⟨p,ys,rfl,hp,_⟩:=hy;cases rv;obtain⟨its,r,pt⟩:=UZ ok hp;unfold Dat.pq;exact⟨.str_tuple _ _ pt hu,.str_tuple _ _ pt hu,.str_tuple _ _ pt hu⟩
  |lst es=>unfold Has at hy;obtain⟨p,ys,rfl,hp,_⟩:=hy;cases rv;obtain⟨its,r,pt⟩:=Ug ok hp;unfold Dat.pq;exact⟨.str_list _ _ pt hu,.str_list _ _ pt hu,.str_list _ _ pt hu⟩
 |tup ds=>
  unfold Has at hx;obtain⟨p,xs,rfl,hp,hxs⟩:=hx;cases ru;obtain⟨its,r,pt⟩:=UZ ok hp
  cases d2 with
  |non=>unfold Has at hy;subst hy;cases rv;unfold Dat.pq;exact⟨.tuple_none pt hu,.tuple_none pt hu,.tuple_none pt hu⟩
  |bl b=>unfold Has at hy;subst hy;cases rv;unfold Dat.pq;exact⟨.tuple_bool _ pt hu,.tuple_bool _ pt hu,.tuple_bool _ pt hu⟩
  |int b=>unfold Has at hy;subst hy;obtain⟨t',rfl⟩:=rv;unfold Dat.pq;exact⟨.tuple_int _ _ pt hu,.tuple_int _ _ pt hu,.tuple_int _ _ pt hu⟩
  |str b=>unfold Has at hy;subst hy;obtain⟨t',rfl⟩:=rv;unfold Dat.pq;exact⟨.tuple_str _ _ pt hu,.tuple_str _ _ pt hu,.tuple_str _ _ pt hu⟩
  |lst es=>unfold Has at hy;obtain⟨q,ys,rfl,hq,_⟩:=hy;cases rv;obtain⟨its2,r2,pt2⟩:=Ug ok hq;unfold Dat.pq;exact⟨.tuple_list pt pt2 hu,.tuple_list pt pt2 hu,.tuple_list pt pt2 hu⟩
  |tup es=>
   unfold Has at hy;obtain⟨p2,ys,rfl,hp2,hys⟩:=hy;cases rv;obtain⟨its2,r2,pt2⟩:=UZ ok hp2;have l1:=hxs.length;have l2:=hys.length;have l3:=r.length;have l4:=r2.length;have dd:Dat.deps ds+1<=n:=by unfold Dat.dep at hn;omega
   obtain⟨m,rfl⟩:∃m,n=m+1:=⟨n-1,by omega⟩;have it:=D4 (A:=A.in1) (fun d1 d2 {x y u v} z hx hy ru rv=>(ih m rfl d1 d2 A.in1 z hx hy ru rv hr.in1).eq) (show Dat.deps ds<=m by omega) hxs hys r r2;have k1:its.toArray.size=ds.length:=by rw[ZO];omega
   have k2:its2.toArray.size=es.length:=by rw[ZO];omega
   have q:=RcAt.tuples (A:=A) pt pt2 hu it;have qn:=RcNeAt.tuples (A:=A) pt pt2 hu it;rw[k1,k2,GL]at q qn;have e0:(Dat.tup ds).pq (Dat.tup es)=Dat.pqs ds es:=by conv=>lhs;unfold Dat.pq
   rw[e0];refine⟨?_,q,qn⟩
   by_cases e:p=p2
   .subst e
    rw[hp]at hp2;cases hp2;rw[HasL.inj ds es hxs hys,Dat.pqs_self];exact EqAt.same _
   .exact EqAt.of_refs e q
 |lst ds=>
  unfold Has at hx;obtain⟨p,xs,rfl,hp,hxs⟩:=hx;cases ru;obtain⟨its,r,pt⟩:=Ug ok hp
  cases d2 with
  |non=>unfold Has at hy;subst hy;cases rv;unfold Dat.pq;exact⟨.list_none pt hu,.list_none pt hu,.list_none pt hu⟩
  |bl b=>unfold Has at hy;subst hy;cases rv;unfold Dat.pq;exact⟨.list_bool _ pt hu,.list_bool _ pt hu,.list_bool _ pt hu⟩
  |int b=>unfold Has at hy;subst hy;obtain⟨t',rfl⟩:=rv;unfold Dat.pq;exact⟨.list_int _ _ pt hu,.list_int _ _ pt hu,.list_int _ _ pt hu⟩
  |str b=>unfold Has at hy;subst hy;obtain⟨t',rfl⟩:=rv;unfold Dat.pq;exact⟨.list_str _ _ pt hu,.list_str _ _ pt hu,.list_str _ _ pt hu⟩
  |tup es=>unfold Has at hy;obtain⟨q,ys,rfl,hq,_⟩:=hy;cases rv;obtain⟨its2,r2,pt2⟩:=UZ ok hq;unfold Dat.pq;exact⟨.list_tuple pt pt2 hu,.list_tuple pt pt2 hu,.list_tuple pt pt2 hu⟩
  |lst es=>
   unfold Has at hy;obtain⟨p2,ys,rfl,hp2,hys⟩:=hy;cases rv;obtain⟨its2,r2,pt2⟩:=Ug ok hp2;have l1:=hxs.length;have l2:=hys.length;have l3:=r.length;have l4:=r2.length;have dd:Dat.deps ds+1<=n:=by unfold Dat.dep at hn;omega
   obtain⟨m,rfl⟩:∃m,n=m+1:=⟨n-1,by omega⟩;have it:=D4 (A:=A.in1) (fun d1 d2 {x y u v} z hx hy ru rv=>(ih m rfl d1 d2 A.in1 z hx hy ru rv hr.in1).eq) (show Dat.deps ds<=m by omega) hxs hys r r2;have k1:its.toArray.size=ds.length:=by rw[ZO];omega
   have k2:its2.toArray.size=es.length:=by rw[ZO];omega
   have e0:(Dat.lst ds).pq (Dat.lst es)=Dat.pqs ds es:=by conv=>lhs;unfold Dat.pq
   rw[e0]
   have qq:RcAt A s (.ref p) (.ref p2) (Dat.pqs ds es)/\RcNeAt A s (.ref p) (.ref p2) (!Dat.pqs ds es):=by
    by_cases e:ds.length=es.length
    .have q:=RcAt.lists (A:=A) pt pt2 (by omega) hu it
     have qn:=RcNeAt.lists (A:=A) pt pt2 (by omega) hu it;rw[k1,LX e]at q qn;exact⟨q,qn⟩
    .have z:(its.toArray.size !=its2.toArray.size)=true:=by rw[k1,k2];simp[e]
     rw[QC e];exact⟨RcAt.lists_lengths (A:=A) pt pt2 z hu,RcNeAt.lists_lengths (A:=A) pt pt2 z hu⟩
   refine⟨?_,qq.1,qq.2⟩
   by_cases e:p=p2
   .subst e
    rw[hp]at hp2;cases hp2;rw[HasL.inj ds es hxs hys,Dat.pqs_self];exact EqAt.same _
   .exact EqAt.of_refs e qq.1
theorem Mu(ok:HOk P w H s.heap):∀(n:Nat)(d1 d2:Dat)(A:Around){x y:V}{u v:Value},d1.dep<=n->Has H x d1->Has H y d2->RelV x u->RelV y v->Vs (n+1) A->Cmp A s u v (d1.pq d2)
 |0,d1,d2,A,_,_,_,_,hn,hx,hy,ru,rv,hr=>Nj ok 0 (fun _ e=>nomatch e) d1 d2 A hn hx hy ru rv hr
 |n+1,d1,d2,A,_,_,_,_,hn,hx,hy,ru,rv,hr=>Nj ok (n+1) (fun _ e d1 d2 A {_ _ _ _}=>by cases e;exact Mu ok n d1 d2 A) d1 d2 A hn hx hy ru rv hr
section
def Cp(k:Nat):R2:=fun x y H Q=>∃d e,Has H x d/\Has H y e/\d.dep<=k/\Q (.bl (d.pq e)) H
def Co(k:Nat):R2:=fun x y H Q=>∃d e,Has H x d/\Has H y e/\d.dep<=k/\Q (.bl (!d.pq e)) H
theorem QL(hr:Vs (k+1) X.A):OpR X (compareOp .Eq) (Cp k):=by
 intro pins s U H x y v u Q I rx ry h;obtain⟨d,e,hd,he,hk,q⟩:=h;exact(Mu I.hok k d e X.A hk hd he rx ry hr).rc _ _ _ _ ⟨.bl _,H,I,rfl,q⟩
theorem Bi(hr:Vs (k+1) X.A):OpR X (compareOp .NotEq) (Co k):=by
 intro pins s U H x y v u Q I rx ry h;obtain⟨d,e,hd,he,hk,q⟩:=h;exact(Mu I.hok k d e X.A hk hd he rx ry hr).ne _ _ _ _ ⟨.bl _,H,I,rfl,q⟩
end
end L2
namespace L2
open PySem PySem.Spec PyProof.Rows
mutual
def Dat.st:Dat->Bool
 |.str _=>true
 |.tup ds=>Dat.sts ds
 |_=>false
def Dat.sts:List Dat->Bool
 |[]=>true
 |d::ds=>d.st && Dat.sts ds
end
end L2
namespace L2
open PySem
inductive Shp where
 |tags (ts:List Str)
 |pair (a b:Str)
def Shp.dat:Shp->Dat
 |.tags ts=>.tup [.str "tags",.tup (ts.map Dat.str)]
 |.pair a b=>.tup [.str "pair",.str a,.str b]
theorem M9:∀ts:List Str,Dat.sts (ts.map Dat.str)=true
 |[]=>by unfold Dat.sts;rfl
 |t::ts=>by rw[ZV];unfold Dat.sts;rw[M9 ts];unfold Dat.st;rfl
theorem Shp.st:∀s:Shp,s.dat.st=true
 |.tags ts=>by simp[Shp.dat,Dat.st,Dat.sts,M9]
 |.pair a b=>by simp[Shp.dat,Dat.st,Dat.sts]
theorem M6(s:Vp H p)(h:H a=some (.tup xs)):a≠p:=fun e=>by
 obtain⟨_,_,_,_,q⟩:=s;rw[<-e,h]at q;cases q
end L2
namespace K4
open PySem L2
theorem LF:Yi ["stream","many"] ["stream","many"] (Yd BC):=Y2
theorem RK:(Str.ofString "abcdefghijklmnopqrstuvwxyz")=alpha 97:=by decide +kernel
theorem RW:(Str.ofString "ABCDEFGHIJKLMNOPQRSTUVWXYZ")=alpha 65:=by decide +kernel
section
variable{K:W.Frag}
def W8:Sp:=fun vs H Q _=>∃(p:Addr)(many:Nat),vs=[.ref p,.int many]/\Vp H p/\many<=8/\
 ∀(r:Addr)(ys:List Str)(H':Hp),SameB p H H'->Vp H' p->H r=none->r≠p->H' r=some (.lst (ys.map V.str))->ys.length=many->Wds 97 ys->Q (.ref r) H'
theorem IM(F:Fun K "_law_small" "_law_small" BC f fd)(G:Yf P w K mg base CX0 n g gd ["stream","many","letters","ways"] W5)(bG:Binds K gd ["stream","many","letters","ways"] [])(kG:W.keepIn K (.ref g)=true)(mG:mg "_law_words"=some (.ref g)):
  Yf P w K mg base CX0 (n+1) f fd ["stream","many"] W8:=by
 refine F.oq LF fun cdv A outer s H vs Q E hr h=>?_;obtain⟨p,many,rfl,hs,hm,q⟩:=h;refine⟨_,YZ (Yh (Jg G hr rfl mG kG bG .nil Y4 (pa4 (pv 0) (pv 1) Yw Ya))),?_⟩;refine⟨p,many,97,4,?_,hs,.inl rfl,by decide,.inr ⟨by decide,hm⟩,q⟩;rw[<-RK];rfl
end
end K4
namespace L2
open PySem
def TK(H H':Hp):Prop:=∀b xs,H b=some (.tup xs)->H' b=some (.tup xs)
theorem WB(h:H a=some u)(hu:∀xs,u≠.tup xs):TK H (upd H a o):=fun b xs e=>by
 rw[Yg (JR e h fun z=>hu xs z.symm)];exact e
mutual
theorem Xj{H H':Hp}(b:TK H H'):∀(d:Dat){v:V},d.st=true->Has H v d->Has H' v d
 |.str _,_,_,h=>by unfold Has at h |-;exact h
 |.tup ds,_,t,h=>by
  unfold Has at h |-;obtain⟨a,xs,h1,h2,h3⟩:=h;unfold Dat.st at t;exact⟨a,xs,h1,b _ _ h2,XN b ds t h3⟩
 |.non,_,t,_=>by unfold Dat.st at t;cases t
 |.bl _,_,t,_=>by unfold Dat.st at t;cases t
 |.int _,_,t,_=>by unfold Dat.st at t;cases t
 |.lst _,_,t,_=>by unfold Dat.st at t;cases t
theorem XN{H H':Hp}(b:TK H H'):∀(ds:List Dat){xs:List V},Dat.sts ds=true->HasL H xs ds->HasL H' xs ds
 |[],[],_,h=>Z6
 |[],_::_,_,h=>by unfold HasL at h;exact h.elim
 |_::_,[],_,h=>by unfold HasL at h;exact h.elim
 |d::ds,x::xs,t,h=>by
  unfold HasL at h;unfold Dat.sts at t;have t':=Bool.and_eq_true_iff.mp t;exact Z4 (Xj b d t'.1 h.1) (XN b ds t'.2 h.2)
end
def JW(k:Str×Shp):Dat:=.tup [.str k.1,k.2.dat]
theorem RQ:∀ks:List (Str×Shp),Dat.sts (ks.map JW)=true
 |[]=>by unfold Dat.sts;rfl
 |k::ks=>by
  rw[ZV];unfold Dat.sts;rw[RQ ks];have e:=Shp.st k.2;simp[JW,Dat.st,Dat.sts,e]
def KK1(top:Nat)(c d:Str->Nat)(ahead:List Str)(y:Str):Shp->Prop
 |.tags ts=>1<=ts.length/\ts.length<=4/\c y=1+ts.length/\d y=0/\ts.Nodup
 |.pair a b=>a∈ahead/\b∈ahead/\c y=1+c a*c b/\c y<=top/\d y=1+max (d a) (d b)/\d y<=2
def KK(top:Nat)(c d:Str->Nat)(ks:List (Str×Shp)):Prop:=∀(i:Nat)(y:Str)(s:Shp),ks[i]?=some (y,s)->KK1 top c d ((ks.take i).map (·.1)) y s
structure KG(ks:List (Str×Shp)):Prop where
 nm:Wds 97 (ks.map (·.1))
 tg:∃tgs,Wds 65 tgs/\∀(i':Nat)(y:Str)(ts:List Str),ks[i']?=some (y,.tags ts)->∃r,r<4/\ts=(tgs.drop (4*i')).take (1+r)
 pr:∀(i1 i2:Nat)(y1 y2 a b:Str),ks[i1]?=some (y1,.pair a b)->ks[i2]?=some (y2,.pair a b)->i1=i2
theorem KG.tags(g:KG ks)(h:(y,Shp.tags ts)∈ks):Wds 65 ts:=by
 obtain⟨tgs,w,q⟩:=g.tg;obtain⟨i,hi,e⟩:=List.mem_iff_getElem.mp h;obtain⟨r,_,rfl⟩:=q i y ts (by rw[ZD hi,e]);have sub:∀z,z∈(tgs.drop (4*i)).take (1+r)->z∈tgs:=fun z hz=>List.mem_of_mem_drop (Zk hz);exact⟨w.nd.sublist ((List.take_sublist _ _).trans (List.drop_sublist _ _)),fun z hz=>w.len z (sub z hz),fun z hz=>w.abc z (sub z hz)⟩
theorem take_snoc{α:Type}{l:List α}{a:α}(h:l[i]?=some a):l.take (i+1)=l.take i++[a]:=by
 have hi:=(ZF.mp h).1;rw[List.take_succ_eq_append_getElem hi,(ZF.mp h).2]
theorem PL(h:u D (U.set k (some v)) H):Yk (EG (tC v) (Vo k)) u D U H:=h
theorem To(xs:List V)(k:Nat)(h:k<=xs.length):UU xs none (some (k:Int))=xs.take k:=by
 unfold UU;rw[HT.sIx_none,HT.sIx_nat,List.drop_zero,Nat.sub_zero,Nat.min_eq_left h]
theorem TX(h:Has H x (JW (y,s))):∃a v,x=.ref a/\H a=some (.tup [.str y,v])/\Has H v s.dat:=by
 unfold JW Has at h;obtain⟨a,xs,rfl,ha,hl⟩:=h
 match xs,hl with
 |[u,v],hl=>
  unfold HasL at hl;obtain⟨h1,h2⟩:=hl;unfold HasL at h2;unfold Has at h1;subst h1;exact⟨a,v,rfl,ha,h2.1⟩
 |[],hl=>unfold HasL at hl;exact hl.elim
 |[x],hl=>unfold HasL at hl;obtain⟨_,h2⟩:=hl;unfold HasL at h2;exact h2.elim
 |_::_::_::_,hl=>unfold HasL at hl;obtain⟨_,h2⟩:=hl;unfold HasL at h2;obtain⟨_,h3⟩:=h2;unfold HasL at h3;exact h3.elim
theorem XC(Cond:St->Hp->Prop)(key:∀s1 H1,Cond s1 H1->u D s1 H1)(main:∀N:St->Hp->Prop,(∀s1 H1,Cond s1 H1->N s1 H1)->t {D with nx:=N} U H):Yk t u D U H:=main _ key
end L2
namespace K4
open PySem L2
end K4
namespace L2
open PySem
def VR(ks:List (Str×Shp))(y:Str):Option Shp:=(ks.find? fun k=>decide (k.1=y)).map (·.2)
def Ys(ks:List (Str×Shp)):Nat->Str->List W
 |0,_=>[]
 |n+1,y=>match VR ks y with
  |none=>[]
  |some (.tags ts)=>.non::ts.map W.tag
  |some (.pair a b)=>.non::(Ys ks n a).flatMap fun u=>(Ys ks n b).map fun v=>.pair u v
theorem Xs(h:VR ks y=some s):(y,s)∈ks:=by
 unfold VR at h
 cases e:ks.find? fun k=>decide (k.1=y)with
 |none=>rw[e]at h;cases h
 |some k=>
  rw[e]at h;have h':k.2=s:=ZT h;have q:=List.find?_some e;have m:=List.mem_of_find?_eq_some e;have z:k.1=y:=Zt q;rw[<-h',<-z];exact m
theorem Vl(h:y∈ks.map (·.1)):∃s,VR ks y=some s:=by
 obtain⟨k,hk,rfl⟩:=ZW.mp h;unfold VR
 cases e:ks.find? fun z=>decide (z.1=k.1)with
 |none=>
  have q:=List.find?_eq_none.mp e k hk;simp at q
 |some z=>exact⟨z.2,rfl⟩
theorem KK.at(h:KK top c d ks)(e:VR ks y=some s):KK1 top c d (ks.map (·.1)) y s:=by
 obtain⟨i,hi,ei⟩:=List.mem_iff_getElem.mp (Xs e);have q:=h i y s (by rw[ZD hi,ei])
 have sub:∀z,z∈(ks.take i).map (·.1)->z∈ks.map (·.1):=fun z hz=>by
  obtain⟨k,hk,rfl⟩:=ZW.mp hz;exact ZW.mpr ⟨k,Zk hk,rfl⟩
 cases s with
 |tags ts=>exact q
 |pair a b=>exact⟨sub a q.1,sub b q.2.1,q.2.2⟩
theorem Tf{α:Type}(f:α->List W)(k:Nat):∀(l:List α),(∀a∈l,(f a).length=k)->(l.flatMap f).length=l.length*k
 |[],_=>by simp
 |a::l,h=>by
  rw[List.flatMap_cons,ZL,h a (by simp),Tf f k l fun b hb=>h b (by simp[hb]),Zf,Nat.succ_mul,Nat.add_comm]
theorem V4(h:KK top c d ks):∀(n:Nat)(y:Str),y∈ks.map (·.1)->d y<n->(Ys ks n y).length=c y/\0<c y/\∀u∈Ys ks n y,u.dep<=d y
 |0,y,_,hd=>Zr hd (Zw _)
 |n+1,y,hy,hd=>by
  obtain⟨s,hs⟩:=Vl hy;have k1:=h.at hs;unfold Ys;rw[hs]
  cases s with
  |tags ts=>
   obtain⟨h1,h2,h3,h4,_⟩:=k1;refine⟨?_,by omega,fun u hu=>?_⟩
   .show (W.non::ts.map W.tag).length=c y
    rw[Zf,ZA];omega
   .have hu':u=.non\/u∈ts.map W.tag:=Zd.mp hu
    rcases hu' with rfl|hu'
    .exact Zc _
    .obtain ⟨x,_,rfl⟩:=ZW.mp hu'
     exact Zc _
  |pair a b=>
   obtain⟨h1,h2,h3,h4,h5,h6⟩:=k1;have m1:=Nat.le_max_left (d a) (d b);have m2:=Nat.le_max_right (d a) (d b);obtain⟨la,pa,da⟩:=V4 h n a h1 (by omega);obtain⟨lb,pb,db⟩:=V4 h n b h2 (by omega);refine⟨?_,by omega,fun u hu=>?_⟩
   .show (W.non::(Ys ks n a).flatMap fun u=>(Ys ks n b).map fun v=>.pair u v).length=c y
    rw[Zf,Tf _ (c b) _ (fun a _=>by rw[ZA,lb]),la];omega
   .have hu':u=.non\/u∈(Ys ks n a).flatMap fun u=>(Ys ks n b).map fun v=>.pair u v:=Zd.mp hu
    rcases hu' with rfl|hu'
    .exact Zc _
    .obtain ⟨x,hx,hu2⟩:=List.mem_flatMap.mp hu'
     obtain⟨z,hz,rfl⟩:=ZW.mp hu2;have q1:=da x hx;have q2:=db z hz;show 1+max x.dep z.dep<=d y;have:=Nat.max_le.mpr ⟨Zb q1 m1,Zb q2 m2⟩;omega
def UN(H:Hp)(a:Addr)(ks:List (Str×Shp)):Prop:=∃kvs,Rd H a (.dK kvs)/\kvs.map (·.1)=ks.map (fun k=>Sum.inr k.1)/\∀y s,VR ks y=some s->∃v,VF kvs (Sum.inr y)=some v/\Has H v s.dat
theorem JP(h:KK top c d ks):∀(n m:Nat)(y:Str),y∈ks.map (·.1)->d y<n->d y<m->Ys ks n y=Ys ks m y
 |0,_,_,_,h1,_=>Zr h1 (Zw _)
 |_+1,0,_,_,_,h2=>Zr h2 (Zw _)
 |n+1,m+1,y,hy,h1,h2=>by
  obtain⟨s,hs⟩:=Vl hy;have k1:=h.at hs;unfold Ys;rw[hs]
  cases s with
  |tags ts=>rfl
  |pair a b=>
   obtain⟨q1,q2,q3,q4,q5,q6⟩:=k1;have m1:=Nat.le_max_left (d a) (d b);have m2:=Nat.le_max_right (d a) (d b);show(W.non::_)=(W.non::_);rw[JP h n m a q1 (by omega) (by omega),JP h n m b q2 (by omega) (by omega)]
theorem WC:∀{ts:List Str}{zs:List V},HasL H zs (ts.map Dat.str)->zs=ts.map V.str
 |[],[],_=>rfl
 |[],_::_,h=>by rw[List.map_nil]at h;unfold HasL at h;exact h.elim
 |_::_,[],h=>by rw[ZV]at h;unfold HasL at h;exact h.elim
 |t::ts,z::zs,h=>by
  rw[ZV]at h;unfold HasL at h;obtain⟨g1,g2⟩:=h;unfold Has at g1;rw[g1,WC g2];rfl
def wOf(ks:List (Str×Shp))(n:Nat):Shp->List W
 |.tags ts=>.non::ts.map W.tag
 |.pair a b=>.non::(Ys ks n a).flatMap fun u=>(Ys ks n b).map fun v=>.pair u v
theorem UO(h:VR ks y=some s):Ys ks (n+1) y=wOf ks n s:=by
 conv=>lhs;unfold Ys
 rw[h];cases s <;> rfl
theorem RX{α:Type}(f:α->List W){l:List α}{a:α}(h:l[i]?=some a):(l.take (i+1)).flatMap f=(l.take i).flatMap f++ f a:=by
 rw[take_snoc h,List.flatMap_append];simp
theorem U5(h:Has H v (Shp.tags ts).dat):∃p l,v=.ref p/\H p=some (.tup [.str "tags",.ref l])/\H l=some (.tup (ts.map V.str)):=by
 unfold Shp.dat Has at h;obtain⟨p,xs,rfl,hp,hl⟩:=h
 match xs,hl with
 |[u,v],hl=>
  unfold HasL at hl;obtain⟨h1,h2⟩:=hl;unfold HasL at h2;unfold Has at h1;subst h1;have h3:=h2.1;unfold Has at h3;obtain⟨l,zs,rfl,hz,hzl⟩:=h3;have e:zs=ts.map V.str:=WC hzl;rw[e]at hz;exact⟨p,l,rfl,hp,hz⟩
 |[],hl=>unfold HasL at hl;exact hl.elim
 |[x],hl=>unfold HasL at hl;obtain⟨_,h2⟩:=hl;unfold HasL at h2;exact h2.elim
 |_::_::_::_,hl=>unfold HasL at hl;obtain⟨_,h2⟩:=hl;unfold HasL at h2;obtain⟨_,h3⟩:=h2;unfold HasL at h3;exact h3.elim
theorem J0(h:Has H v (Shp.pair a b).dat):∃p,v=.ref p/\H p=some (.tup [.str "pair",.str a,.str b]):=by
 unfold Shp.dat Has at h;obtain⟨p,xs,rfl,hp,hl⟩:=h
 match xs,hl with
 |[u,v,w],hl=>
  unfold HasL at hl;obtain⟨h1,h2⟩:=hl;unfold HasL at h2;obtain⟨h2,h3⟩:=h2;unfold HasL at h3;have h3:=h3.1;unfold Has at h1 h2 h3;subst h1 h2 h3;exact⟨p,rfl,hp⟩
 |[],hl=>unfold HasL at hl;exact hl.elim
 |[x],hl=>unfold HasL at hl;obtain⟨_,h2⟩:=hl;unfold HasL at h2;exact h2.elim
 |[x,y],hl=>unfold HasL at hl;obtain⟨_,h2⟩:=hl;unfold HasL at h2;obtain⟨_,h3⟩:=h2;unfold HasL at h3;exact h3.elim
 |_::_::_::_::_,hl=>unfold HasL at hl;obtain⟨_,h2⟩:=hl;unfold HasL at h2;obtain⟨_,h3⟩:=h2;unfold HasL at h3;obtain⟨_,h4⟩:=h3;unfold HasL at h4;exact h4.elim
theorem Rd.mono(r:Rd H a u)(e:Same H H'):Rd H' a u:=by
 rcases r with r|⟨o,r⟩
 .exact .inl (e _ _ r)
 .exact .inr ⟨o,e _ _ r⟩
theorem UN.mono(s:UN H a ks)(e:Same H H'):UN H' a ks:=by
 obtain⟨kvs,h1,h2,h3⟩:=s;exact⟨kvs,h1.mono e,h2,fun y s hs=>let⟨v,g1,g2⟩:=h3 y s hs;⟨v,g1,g2.mono e⟩⟩
theorem Gj:∀ts:List Str,HasL H (ts.map V.str) ((ts.map W.tag).map W.dat)
 |[]=>Z6
 |t::ts=>Z4 (by show Has H (.str t) (W.dat (.tag t));unfold W.dat Has;rfl) (Gj ts)
end L2
namespace L2
open PySem PySem.Spec PyProof.Rows
section
def Ux(K:W.Frag):R2:=fun x y H Q=>∃a b ys,x=.ref a/\y=.ref b/\SqT K H a []/\SqT K H b ys/\Q (.ref b) H
theorem Lk:OpR X (binaryOp .Add) (Ux X.K):=by
 intro pins s U H x y v u Q I rx ry h;obtain⟨a,b,ys,rfl,rfl,ha,hb,q⟩:=h;cases rx;cases ry;obtain⟨its,r1,p1,_⟩:=I.tuple ha;obtain⟨its2,r2,p2,_⟩:=I.tuple hb;cases r1;obtain⟨⟨k1,dd,data,sl⟩,ho,hc,n,hd⟩:=id p1;obtain⟨⟨k2,dd2,data2,sl2⟩,ho2,hc2,n2,hd2⟩:=id p2;simp only at hc hd hc2 hd2;subst hc hd hc2 hd2;exact concat_meets ⟨_,ho,rfl⟩ ⟨_,ho2,rfl⟩ noFill_tuple_add seq_tuple_add PySem.F.slot_tuple_add PySem.F.entry_tuple_add (PySem.F.args_tuple_add_2 _ _)
  (tuple_addW0 a b _ its2.toArray n n2 dd dd2 sl sl2 rfl) ⟨ho,ho2,.ref b,H,I,rfl,q⟩
theorem Ue:OpR X (binaryOp .Add) (fun x y H Q=>Ux X.K x y H Q\/Uw X.K x y H Q):=Lk.or Md
end
theorem Ja:plainId "dict.update.loop"=true:=by decide +kernel
theorem X6:entryFor table "dict.update.loop"=some Builtin.«dict.update.loop»:=entryFor_of_fast (by kernel_rfl)
theorem OX:typeLookup (.type "list") (Str.ofString "keys")=pure none:=am_miss_of_fast (by decide +kernel)
section
theorem OY(pl:PlainL s.heap a its)(hA:A.handled=none)(h:∀h' tk,(∀b o,s.heap.get? b=some o->h'.get? b=some o)->Q none {s with heap:=h',toks:=tk}):
  wpAny (model prog w) A (getAttr? (.ref a) (Str.ofString "keys")) Q E s:=by
 obtain⟨⟨c,dct,dat,sl⟩,k,hx,hc,hd,hdat⟩:=pl;simp only at hc hdat hd;subst hc hdat hd;obtain⟨h0,gs,dr,tk,os⟩:=s;have sl':=F.slot_list_getattribute;have lk':=sl'.lookup;have bd':=sl'.bind (.ref a);have no':=am_list_getattr_none;have ae':=sub_AttributeError;have hT:∀n,(Shared.mk h0 gs dr n os).TypeIs (.ref a) "list":=fun n=>⟨_,hx,rfl⟩;simp only[getAttr?,getAttrBy?,getAttrBy]
 repeat (any_goals (first|assumption|exact hT _|((with_reducible show wpAny _ _ (call (Value.builtin "list.__getattribute__") _ _) _ _ _);refine call_meets F.slot_list_getattribute (hT _) am_entry_list_getattribute (F.args_list_getattribute_2 _ _) (meets_getattribute_miss_list a its k sl (Str.ofString "keys") _ OX (by decide +kernel) (by size_fits)) ⟨hx,hA,fun h' tk' e hx'=>?_⟩)|wp_step))
 have there:=hx'.there;obtain⟨_,_,he⟩:=there;refine(?_:wpAny _ _ (getattributeRaised _ _ _ _ _ _ _) _ _ _);simp only[getattributeRaised]
 repeat any_goals first|assumption|wp_step
 exact h _ _ hx'.keeps
end
def zC{prog:Program}{w:World}(h₀:Heap)(vs:List (Key×Value))(i:Nat)(v:Value):Prop:=
 ∃a k ku vu,v=.ref a/\vs[i]?=some (k,vu)/\h₀.IsTuple a #[ku,vu]/\(Y9 prog w).is k ku=true
theorem Rb(vs:List (Key×Value))(hn:(vs.map (·.1)).Nodup)(e:vs[i]?=some (k,u)):stored (vs.take i) k u=vs.take (i+1):=by
 obtain⟨hi,e'⟩:=ZF.mp e
 have hno:(vs.take i).any (fun kv=>decide (kv.1=k))=false:=by
  rw[Bool.eq_false_iff];intro hany;obtain⟨kv,hm,hk⟩:=List.any_eq_true.mp hany;have hk':kv.1=k:=Zt hk;obtain⟨j,hj,ej⟩:=List.mem_iff_getElem.mp hm;rw[ZN]at hj;rw[List.getElem_take]at ej;have hj':j<(vs.map (·.1)).length:=by rw[ZA];omega
  have hi':i<(vs.map (·.1)).length:=by rw[ZA];omega
  have q:(vs.map (·.1))[j]=(vs.map (·.1))[i]:=by
   rw[List.getElem_map,List.getElem_map,ej,e',hk']
  exact List.pairwise_iff_getElem.mp hn j i hj' hi' (by omega) q
 unfold stored;rw[hno,List.take_add_one,e]
 rfl
section
variable{St:Nat->Heap->Prop}
theorem Dx(W:Walks prog w A.in1 I fp wr n P St)(hlen:vs.length=n)(hsz:vs.length<=sizeLine)(hn:(vs.map (·.1)).Nodup)(hP:∀i v,P i v->zC (prog:=prog) (w:=w) h₀ vs i v)(d:Addr)(hdf:d∉fp)(hw:∀b o,h₀.get? b=some o->b∉wr/\b≠d)(res:Value):
  ∀(k i:Nat)(s:Shared)(j:Int)(t:Tok),n-i=k->i<=n->St i s.heap->s.heap.DictOf (Y9 prog w) d (vs.take i)->(∀b o,h₀.get? b=some o->s.heap.get? b=some o)->
  (∀h' tk,h'.DictOf (Y9 prog w) d vs->(∀b o,b∉wr->b≠d->s.heap.get? b=some o->h'.get? b=some o)->R (.ok (.ret res)) {s with heap:=h',toks:=tk})->
  codeAny (model prog w) A (.builtin "dict.update.loop" ⟨[.ref d,.ref I,.int j t,res],[]⟩) R s:=by
 have hdw:d∉wr:=fun h=>hdf (W.sub _ h);intro k
 induction k with
 |zero=>
  intro i s j t hk hi hst hd h0 hR;have hin:i=n:=by omega
  subst hin;refine codeAny_builtin X6 ?_;rw[Around.under_plainId Ja _];refine Zl (m:=pyNext (.ref I)) (W.done s _ _ hst fun h' tk hk'=>Zl (Zm (Zm ?_)));refine hR h' tk ?_ fun b o hb _ e=>hk' b o hb e;rw[<-hlen,List.take_length]at hd;obtain⟨o,es,ep,ho,rest⟩:=hd;exact⟨o,es,ep,hk' d o hdw ho,rest⟩
 |succ k ih=>
  intro i s j t hk hi hst hd h0 hR;have hlt:i<n:=by omega
  refine codeAny_builtin X6 ?_;rw[Around.under_plainId Ja _];refine Zl (m:=pyNext (.ref I)) (W.item i s _ _ hlt hst fun v h' tk hPv hst' hk'=>?_);obtain⟨a,key,ku,vu,rfl,ev,ht,hkey⟩:=hP i v hPv;have h0':∀b o,h₀.get? b=some o->h'.get? b=some o:=fun b o e=>hk' b o (hw b o e).1 (h0 b o e);obtain⟨o,ho,hc,m,hdat⟩:=ht;have ho':=h0' a o ho;have hT:({s with heap:=h',toks:=tk}:Shared).TypeIs (.ref a) "tuple":=⟨o,ho',hc⟩;refine Zl (wpAny_holding (Zl (wpAny_tryCatch ?_)));simp only[Builtin.Dict.pairItems];refine Zl (m:=typeOf (.ref a)) (wpAny_typeOf hT ?_);rw[Zp (by decide)];refine Zl (wpAny_seqItems ho' hdat (Zm ?_));show wpAny _ A.in1 (holding [ku,vu] (dictSet d ku vu)) _ _ _
  have hd':Heap.DictOf (Y9 prog w) h' d (vs.take i):=by
   obtain⟨o1,es,ep,ho1,rest⟩:=hd;exact⟨o1,es,ep,hk' d o1 hdw ho1,rest⟩
  refine wpAny_holding (wpAny_dictSet_pairs (hsz:=by rw[ZN];omega) hkey hd' fun h2 hd2 hs2=>?_);rw[Rb vs hn ev]at hd2;refine Zm ⟨plainId_quiet Ja _,ih (i+1) _ (j+1) 0 (by omega) hlt (W.frame _ _ _ hst' fun b hb o e=>?_) hd2 (fun b o e=>?_) fun h3 tk3 hd3 hk3=>?_⟩
  .exact (hs2.2 b (fun z=>hdf (z ▸ hb))).trans e
  .exact (hs2.2 b (hw b o e).2).trans (h0' b o e)
  .refine hR h3 tk3 hd3 fun b o hb hbd e=>hk3 b o hb hbd ((hs2.2 b hbd).trans (hk' b o hb e))
end
section
def Rn(K:W.Frag)(H:Hp)(ts:List Addr)(kvs:List (Key×V)):Prop:=ts.length=kvs.length/\∀(i:Nat)(a:Addr)(k:Key)(y:V),ts[i]?=some a->kvs[i]?=some (k,y)->SqT K H a [kV k,y]
theorem G8(h:Heap):∀(ts:List Addr)(kvs:List (Key×V)),ts.length=kvs.length->(∀(i:Nat)(a:Addr)(k:Key)(y:V),ts[i]?=some a->kvs[i]?=some (k,y)->∃ku vu,h.IsTuple a #[ku,vu]/\RelV (kV k) ku/\RelV y vu)->
  ∃vs,KV kvs vs/\∀(i:Nat)(a:Addr),ts[i]?=some a->∃k ku vu,vs[i]?=some (k,vu)/\h.IsTuple a #[ku,vu]/\RelV (kV k) ku
 |[],[],_,_=>⟨[],.nil,fun i a e=>by simp at e⟩
 |[],_::_,e,_=>by simp at e
 |_::_,[],e,_=>by simp at e
 |t::ts,kv::kvs,e,hp=>by
  obtain⟨ku,vu,h1,h2,h3⟩:=hp 0 t kv.1 kv.2 rfl rfl;obtain⟨vs,r,hv⟩:=G8 h ts kvs (by simpa using e) fun i a k y e1 e2=>hp (i+1) a k y e1 e2;refine⟨(kv.1,vu)::vs,.cons ⟨rfl,h3⟩ r,fun i a ea=>?_⟩
  cases i with
  |zero=>
   have ea':some t=some a:=ea;cases ea';exact⟨kv.1,ku,vu,rfl,h1,h2⟩
  |succ i=>exact hv i a ea
theorem Wz(hc:X.calm=true):Jb X (.type "dict") (fun xs H Q=>∃(p:Addr)(ts:List Addr)(kvs:List (Key×V)),xs=[.ref p]/\SqL X.K H p (ts.map V.ref)/\Rn X.K H ts kvs/\(kvs.map (·.1)).Nodup/\∀l,H l=none->Q (.ref l) (upd H l (.dK kvs))):=by
 intro pins s U H xs us Q I r h;obtain⟨p,ts,kvs,rfl,hq,hp,hn,q⟩:=h;obtain⟨u,rfl,ru⟩:=vals1 r;cases ru;obtain⟨its,r',pl,hz⟩:=I.list hq;rw[ZA]at hz
 have hlts:its.length=ts.length:=by
  have:=r'.length;rw[ZA]at this;exact this.symm
 have hat:∀(i:Nat)(a:Addr),ts[i]?=some a->its[i]?=some (Value.ref a):=fun i a e=>by
  obtain⟨u,hu,ru⟩:=r'.get (show(ts.map V.ref)[i]?=some (V.ref a) by rw[ZH,e];rfl);rw[hu,show u=Value.ref a from ru]
 obtain⟨vs,rel,hvs⟩:=G8 s.heap ts kvs hp.1 fun i a k y e1 e2=>by
  obtain⟨its2,r2,p2,_⟩:=I.tuple (hp.2 i a k y e1 e2)
  cases r2 with
  |cons r1 t1=>
   cases t1 with
   |cons r3 t3=>
    cases t3;exact⟨_,_,p2,r1,r3⟩
 have hlv:vs.length=its.toArray.size:=by rw[ZO,hlts,hp.1,<-rel.length]
 have hkeys:vs.map (·.1)=kvs.map (·.1):=by
  have all:∀{l:List (Key×V)}{m:List (Key×Value)},KV l m->m.map (·.1)=l.map (·.1):=by
   intro l m q
   induction q with
   |nil=>rfl
   |cons hq t ih=>rw[ZV,ZV,ih,hq.1]
  exact all rel
 have hpl:p<s.heap.objs.size:=by
  obtain⟨o,n,e,_⟩:=pl;exact ZP e
 refine callType_codes (Q₁:=fun ob t=>ob=.ref s.heap.objs.size/\t={s with heap:=s.heap.push {cls:=.type "dict",data:=.dict #[]}}) F.kt_called_dict (F.kt_typeCall_dict_1 _) F.entry_dict_init (kt_code_dict_new _ ⟨rfl,rfl⟩) fun ob t ht=>?_;obtain⟨rfl,rfl⟩:=ht;have hnew:(s.heap.push {cls:=.type "dict",data:=.dict #[]}).DictOf (Y9 X.prog X.w) s.heap.objs.size []:=Heap.DictOf.new s.heap;have k0:∀b o,s.heap.get? b=some o->(s.heap.push {cls:=.type "dict",data:=.dict #[]}).get? b=some o:=fun b o e=>ZE _ e;refine And.intro hnew.typeIs (And.intro (F.args_dict_init_2 _ _) ?_);delta Builtin.«dict.__init__» Builtin.Dict.selfAndRest;refine Zl (Zl (wpAny_notOrdered_dict hnew.typeIs (Zm (?_:wpAny _ _ (Builtin.Dict.updateFrom "dict.__init__" s.heap.objs.size (.ref p) [] .none) _ _ _))));delta Builtin.Dict.updateFrom;have pl':=pl.keeps k0;refine Zl (wpAny_typeOf pl'.isList.typeIs ?_);rw[Zp (by decide)];refine Zl (OY pl' (I.ok.hd hc) fun h1 tk1 hk1=>?_);simp only[Option.isNone_none,if_true];refine Zl (wpAny_rule ?_);refine Zl (wpAny_pyIter_list (pl'.keeps hk1).isList ?_)
 have ld:s.heap.objs.size<h1.objs.size:=by
  obtain⟨o,es,ep,ho,_⟩:=hnew;exact ZP (hk1 _ _ ho)
 have k1:∀b o,s.heap.get? b=some o->(h1.push {cls:=.type "list_iterator",data:=.fields #[.ref p,.int 0 0]}).get? b=some o:=fun b o e=>ZE _ (hk1 b o (k0 b o e));refine Zm ⟨plainId_quiet Ja _,Dx (Walks.list (A:=X.A.in1.in1) (I.ok.hd hc) h1.objs.size p (Ze (Nat.lt_trans hpl ld)) its.toArray) (h₀:=s.heap) (vs:=vs) hlv (by rw[<-rel.length,<-hp.1];exact hz) (by rw[hkeys];exact hn) ?_ s.heap.objs.size ?_ ?_ .none _ 0 _ 0 0 rfl (Zc _) ?_ ?_ k1 ?_⟩
 .intro i v hv
  have hi:i<its.length:=by
   have:=(Array.getElem?_eq_some_iff.mp hv).1
   rwa [ZO]at this
  have ht:i<ts.length:=by omega
  obtain⟨k,ku,vu,e1,e2,e3⟩:=hvs i ts[i] (ZD ht);refine⟨ts[i],k,ku,vu,?_,e1,e2,U4 e3⟩;have:=hat i ts[i] (ZD ht);have hv':its[i]?=some v:=by simpa using hv
  rw[this]at hv';exact(ZT hv').symm
 .intro hm
  have two:s.heap.objs.size=h1.objs.size\/s.heap.objs.size=p:=by simpa using hm
  rcases two with e|e
  .exact Zr e (Ze ld)
  .exact Zr e (Nat.ne_of_gt hpl)
 .intro b o e
  have hb:=ZP e;refine⟨fun hm=>?_,Ze hb⟩;have e':b=h1.objs.size:=by simpa using hm
  rw[e']at hb;exact Zr ld (Nat.not_lt_of_lt hb)
 .exact ⟨⟨_,ZY _ rfl,rfl,rfl⟩,(pl.keeps k1).isList⟩
 .obtain ⟨o,es,ep,ho,rest⟩:=hnew
  exact⟨o,es,ep,ZE _ (hk1 _ _ ho),rest⟩
 .intro h' tk hd' hk'
  refine⟨rfl,.ref s.heap.objs.size,_,I.laid (a:=s.heap.objs.size) (o:=.dK kvs) (fun b o e=>?_) (ZG _) (Wg (by rw[<-hp.1];exact hz) (beq_eq_false_iff_ne.mpr (Zs (Ze I.big))) rel hd'),rfl,q _ (I.hok.fresh (ZG _))⟩;have hb:=ZP e;refine hk' b o (fun hm=>?_) (Ze hb) (k1 b o e);have e':b=h1.objs.size:=by simpa using hm
  rw[e']at hb;exact Zr ld (Nat.not_lt_of_lt hb)
end
end L2
namespace L2
open PySem
def QB(K:W.Frag):List V->Hp->VK->Prop:=fun xs H Q=>∃(p:Addr)(ts:List Addr)(kvs:List (Key×V)),xs=[.ref p]/\SqL K H p (ts.map V.ref)/\Rn K H ts kvs/\(kvs.map (·.1)).Nodup/\∀l,H l=none->Q (.ref l) (upd H l (.dK kvs))
theorem B6(hc:X.calm=true):Jb X (.type "dict") (QB X.K):=Wz hc
theorem SameB.same(a:SameB p H H')(f:H p=none):Same H H':=fun b o e=>a b o (Yc e f) e
theorem RS:∀{ks:List (Str×Shp)}{xs:List V},HasL H xs (ks.map JW)->∃(ts:List Addr)(kvs:List (Key×V)),xs=ts.map V.ref/\Rn K H ts kvs/\kvs.map (·.1)=ks.map (fun k=>Sum.inr k.1)/\
  ∀y s,VR ks y=some s->∃v,VF kvs (Sum.inr y)=some v/\Has H v s.dat
 |[],xs,h=>by
  have l:=h.length;rw[List.map_nil,List.length_nil]at l;have e:xs=[]:=List.length_eq_zero_iff.mp l;subst e;exact⟨[],[],rfl,⟨rfl,fun i a k y e=>by simp at e⟩,rfl,fun y s e=>by simp[VR]at e⟩
 |(z,sh)::ks,xs,h=>by
  match xs,h with
  |[],h=>unfold HasL at h;exact h.elim
  |x::xs,h=>
   rw[ZV]at h;unfold HasL at h;obtain⟨h1,h2⟩:=h;obtain⟨a,v,rfl,ha,hv⟩:=TX h1;obtain⟨ts,kvs,rfl,⟨tl,tp⟩,ek,hs⟩:=RS (K:=K) h2;refine⟨a::ts,(Sum.inr z,v)::kvs,rfl,⟨by simp[tl],fun i b k y e1 e2=>?_⟩,by rw[ZV,ZV,ek],fun y s e=>?_⟩
   .cases i with
    |zero=>
     have e1':some a=some b:=e1;have e2':some ((Sum.inr z:Key),v)=some (k,y):=e2;cases e1';cases e2';exact Z2 ha
    |succ i=>exact tp i b k y e1 e2
   .unfold VR at e
    unfold VF;rw[List.find?_cons]at e |-
    by_cases ez:z=y
    .subst ez
     simp only[decide_true]at e |-;have e':sh=s:=ZT e;subst e';exact⟨v,rfl,hv⟩
    .have ez':¬(Sum.inr z:Key)=Sum.inr y:=fun q=>ez (Sum.inr.inj q)
     simp only[ez,ez',decide_false]at e |-;exact hs y s e
theorem KK.small(h:KK 30 c d ks)(hy:y∈ks.map (·.1)):d y<=2/\c y<=30:=by
 obtain⟨s,hs⟩:=Vl hy;have k1:=h.at hs
 cases s with
 |tags ts=>obtain⟨h1,h2,h3,h4⟩:=k1;omega
 |pair a b=>obtain⟨h1,h2,h3,h4,h5,h6⟩:=k1;exact⟨h6,h4⟩
end L2
namespace L2
open PySem PySem.Spec PyProof.Rows
section
theorem OQ{i:Nat}{Q:Value->Shared->Prop}(he:IsEnum s.heap e it i old)(z:SI tp s.heap it l i xs)(nl:l≠it)(hx:xs[i]?=some x)(hne:e≠it)(hQ:∀g,IsEnumOut g e it ((i:Int)+1) x s.heap.objs.size->SJ tp g it l (i+1)->g.get? s.heap.objs.size=some {cls:=.type "tuple",data:=.seq #[.int i s.toks,x]}->g.objs.size=s.heap.objs.size+1->
   (∀b o,b≠e->b≠it->s.heap.get? b=some o->g.get? b=some o)->Q (.ref s.heap.objs.size) {s with heap:=g,toks:=s.toks+1}):
  wpAny (model prog w) A (Builtin.«enumerate.__next__» ⟨[.ref e],[]⟩) (fun fin s'=>∃v,fin=.done (.ret v)/\Q v s') E s:=by
 obtain⟨hp,g,d,tk,os⟩:=s;refine Zl (m:=field (.ref e) 2) (Zo he rfl (x:=.ref it) rfl ?_);refine Zl (XB z nl hx fun g1 z1 s1=>?_);replace s1:Heap.SameBut it hp g1:=s1;have e1:IsEnum g1 e it i old:=(s1.2 e hne).trans he;refine Zl (m:=field (.ref e) 3) (Zo e1 rfl (x:=rawInt i) rfl ?_);refine Zl (m:=field (.ref e) 4) (Zo e1 rfl (x:=.none) rfl ?_);refine Zl (m:=mkInt i) (wpAny_mkInt ?_);refine Zl (m:=setField (.ref e) 3 (rawInt ((i:Int)+1))) (wpAny_setField_rec e1 (by simp) fun g2 e2 s2=>?_);replace s2:Heap.SameBut e g1 g2:=s2;replace e2:IsEnum g2 e it ((i:Int)+1) old:=e2;refine Zl (m:=setField (.ref e) 4 .none) (wpAny_setField_rec e2 (by simp) fun g3 e3 s3=>?_);replace s3:Heap.SameBut e g2 g3:=s3;replace e3:IsEnum g3 e it ((i:Int)+1) old:=e3;refine Zl (m:=newTuple [.int i tk,x]) (wpAny_newTuple ?_);have e4:IsEnum (g3.push {cls:=.type "tuple",data:=.seq #[.int i tk,x]}) e it ((i:Int)+1) old:=ZE _ e3;generalize q4:g3.push {cls:=.type "tuple",data:=.seq #[.int i tk,x]}=g4 at e4;have sz:g3.objs.size=hp.objs.size:=by rw[s3.1,s2.1,s1.1]
 have el:e<hp.objs.size:=ZP he;have t4:g4.get? hp.objs.size=some {cls:=.type "tuple",data:=.seq #[.int i tk,x]}:=by rw[<-q4,<-sz];exact ZY _ rfl
 have z4:g4.objs.size=hp.objs.size+1:=by rw[<-q4,Heap.size_push,sz]
 have k4:∀b o,b≠e->b≠it->hp.get? b=some o->g4.get? b=some o:=fun b o be bi hb=>by
  rw[<-q4];exact ZE _ (s3.extBut b o be (s2.extBut b o be (s1.extBut b o bi hb)))
 have j4:SJ tp g4 it l (i+1):=by
  rw[<-q4];exact z1.sj.to fun o ho=>ZE _ (s3.extBut _ o (Zs hne) (s2.extBut _ o (Zs hne) ho))
 show wpAny _ _ (Builtin.SmallTypes.ownedTupleIsFree (.ref e) >>=_) _ _ ⟨g4,g,d,tk+1,os⟩;rw[sz];clear q4 e3 s3 e2 s2 e1 s1 z1 sz g3 g2 g1;refine Zl (m:=Builtin.SmallTypes.ownedTupleIsFree (.ref e)) (Zl (m:=field (.ref e) 0) (Zo e4 rfl (x:=.none) rfl (Zm ?_)));simp only[if_true];refine Zl (wpAny_rule (Zl (Zo e4 rfl (x:=old) rfl (Zl (wpAny_setField_rec e4 (by simp) fun g5 e5 s5=>?_)))));replace s5:Heap.SameBut e g4 g5:=s5;replace e5:IsEnum g5 e it ((i:Int)+1) x:=e5;refine Zl (m:=Builtin.SmallTypes.ownedTupleHandOut (.ref e) (.ref hp.objs.size)) ?_;simp only[Builtin.SmallTypes.ownedTupleHandOut];refine Zl (wpAny_setField_rec e5 (by simp) fun g6 e6 s6=>?_);replace s6:Heap.SameBut e g5 g6:=s6;replace e6:IsEnumOut g6 e it ((i:Int)+1) x hp.objs.size:=e6;refine wpAny_setField_rec e6 (by simp) fun g7 e7 s7=>?_;replace s7:Heap.SameBut e g6 g7:=s7;replace e7:IsEnumOut g7 e it ((i:Int)+1) x hp.objs.size:=e7;have up:∀b o,b≠e->g4.get? b=some o->g7.get? b=some o:=fun b o be q=>s7.extBut b o be (s6.extBut b o be (s5.extBut b o be q));refine Zl (wpAny_letGo (Zm ⟨_,rfl,hQ g7 e7 (j4.to fun o q=>up _ o (Zs hne) q) (up _ _ (Nat.ne_of_gt el) t4) (by rw[s7.1,s6.1,s5.1,z4]) fun b o be bi hb=>up b o be (k4 b o be bi hb)⟩))
theorem L7{i:Nat}(he:IsEnum s.heap e it i old)(z:SI tp s.heap it l i xs)(nl:l≠it)(hx:xs[i]?=some x)(hne:e≠it)(hQ:∀g,IsEnumOut g e it ((i:Int)+1) x s.heap.objs.size->SJ tp g it l (i+1)->g.get? s.heap.objs.size=some {cls:=.type "tuple",data:=.seq #[.int i s.toks,x]}->g.objs.size=s.heap.objs.size+1->
   (∀b o,b≠e->b≠it->s.heap.get? b=some o->g.get? b=some o)->Q (some (.ref s.heap.objs.size)) {s with heap:=g,toks:=s.toks+1}):wpAny (model prog w) A (pyNext (.ref e)) Q E s:=by
 have hT:s.TypeIs (.ref e) "enumerate":=⟨_,he,rfl⟩;simp only[pyNext];exact Zl (wpAny_attempt (wpAny_callSpecial?_slot (name:=Str.ofString "__next__") hT F.slot_enumerate_next (wpAny_call_entry F.slot_enumerate_next hT F.entry_enumerate_next
   (OQ he z nl hx hne fun g a b c d k=>Zm (hQ g a b c d k)) (F.args_enumerate_next_1 _))))
theorem Qw{i:Nat}(hh:A.handled=none)(he:IsEnum s.heap e it i old)(z:SI tp s.heap it l i xs)(hx:xs[i]?=none)(hQ:∀g,Heap.ExtBut it s.heap g->Q none {s with heap:=g}):wpAny (model prog w) A (pyNext (.ref e)) Q E s:=by
 have hT:s.TypeIs (.ref e) "enumerate":=⟨_,he,rfl⟩;simp only[pyNext];refine Zl (wpAny_attempt (wpAny_callSpecial?_slot (name:=Str.ofString "__next__") hT F.slot_enumerate_next (wpAny_call_entry F.slot_enumerate_next hT F.entry_enumerate_next ?_ (F.args_enumerate_next_1 _))));refine Zl (m:=field (.ref e) 2) (Zo he rfl (x:=.ref it) rfl (Zl (MI hh z hx fun g y eg ⟨o,ho,hc⟩=>?_)));exact Zl (wpAny_isInstance (T:="StopIteration") (b:=true) ⟨o,ho,hc⟩ isSubtype_stop (Zm (hQ _ eg)))
set_option tactic.hygienic true in
theorem En(tp:Bool)(l:Addr)(xs:Array Value):Meets (Builtin.«enumerate.__new__» ⟨[.type "enumerate",.ref l],[]⟩) (fun _ R s=>Wk tp s.heap l xs/\
   R (.ok (.ret (.ref (s.heap.push (JX tp l)).objs.size))) {s with heap:=(s.heap.push (JX tp l)).push {cls:=.type "enumerate",data:=.fields #[.none,.bool false,.ref s.heap.objs.size,rawInt 0,.none,.none]}}):=
 .of_wp fun prog w A R s h=>by
  obtain⟨hp,g,d,tk,os⟩:=s;obtain⟨hl,h⟩:=h;have hsub:=sub_enumerate;have k1:Wk tp (Shared.heap ⟨hp,g,d,tk,os⟩) l xs:=hl
  obtain⟨ob,hob,hcl⟩:∃ob,hp.get? l=some ob/\(∃ys n,ob.data=.seq ys n):=by
   cases tp with
   |false=>obtain⟨o,e,_,n,dd⟩:=hl;exact⟨o,e,_,n,dd⟩
   |true=>obtain⟨o,e,_,n,dd⟩:=hl;exact⟨o,e,_,n,dd⟩
  wp_walk using AutoSeq1.wpAny_loadPart' hob
  refine wpAny_stack_any fun st=>Zm ?_
  split
  .rename_i c _ _ _ _ _
   cases(c==Value.type "enumerate") <;> (wp_walk using AutoSeq1.wpAny_loadPart' hob,W1 k1;exact⟨_,rfl,h⟩)
  .wp_walk using AutoSeq1.wpAny_loadPart' hob,W1 k1
   exact⟨_,rfl,h⟩
theorem Ob(h1:Wk tp s.heap l xs)(h:∀g,IsEnum g (s.heap.objs.size+1) s.heap.objs.size 0 .none->SJ tp g s.heap.objs.size l 0->(∀c o,s.heap.get? c=some o->g.get? c=some o)->Q (.ref (s.heap.objs.size+1)) {s with heap:=g}):
  wpAny (model prog w) A (call (.type "enumerate") [.ref l]) Q E s:=by
 refine callType_new F.called_enumerate (by decide) (F.typeCall_enumerate_1 _) (F.newCall_enumerate_1 _) (fun obj=>F.args_object_init_2 obj _) F.entry_enumerate_new (En tp l xs) ⟨h1,?_⟩;have e1:(s.heap.push (JX tp l)).objs.size=s.heap.objs.size+1:=Heap.size_push ..;have p2:((s.heap.push (JX tp l)).push {cls:=.type "enumerate",data:=.fields #[.none,.bool false,.ref s.heap.objs.size,rawInt 0,.none,.none]}).get? (s.heap.push (JX tp l)).objs.size=some _:=ZY _ rfl;have p1:SJ tp ((s.heap.push (JX tp l)).push {cls:=.type "enumerate",data:=.fields #[.none,.bool false,.ref s.heap.objs.size,rawInt 0,.none,.none]}) s.heap.objs.size l 0:=(SJ.new tp s.heap l).to fun o q=>ZE _ q;show _/\_;rw[e1]at p2 |-;exact⟨⟨_,p2,rfl⟩,h _ p2 p1 fun c o q=>ZE _ (ZE _ q)⟩
end
structure ER(h:Heap)(e it:Addr)(tp:Bool)(l:Addr)(k:Nat):Prop where
 enu:∃old,IsEnum h e it k old
 one:SJ tp h it l k
def Ite(K:W.Frag)(tp:Bool)(l:Addr):It:=
 ⟨fun i H=>∃xs x,Sq K tp H l xs/\xs[i]?=some x,fun i H v H'=>∃r x,v=.ref r/\H r=none/\H'=upd H r (.tup [.int (i:Nat),x])/\∀xs,Sq K tp H l xs->xs[i]?=some x,fun i H=>∃xs,Sq K tp H l xs/\xs.length<=i⟩
theorem K3{P:Program}{w:World}{K:W.Frag}{elts:List Expr}{x1}{pos:Pos}{e it l:Addr}{tp:Bool}(n1:e≠it)(n2:l≠it):Turn P w K (.Tuple elts x1 pos) (Ite K tp l) [e,it] e (fun i h=>ER h e it tp l i) where
 mem:=by simp
 obj:=fun i h st b hb=>by
  have q:b=e\/b=it:=by simpa using hb
  rcases q with q|q <;> rw[q]
  .obtain ⟨old,h1⟩:=st.enu
   exact⟨_,h1,fun v e=>nomatch e⟩
  .exact st.one.obj
 keep:=fun i h h' st k=>⟨let⟨old,h1⟩:=st.enu;⟨old,k e (by simp) _ h1⟩,st.one.to fun o q=>k it (by simp) o q⟩
 item:=by
  intro X hP hw hK hc i pins s U H E I hf st hg;subst hP hw hK;obtain⟨xs,x,q1,hx⟩:=hg;obtain⟨its,r1,w1⟩:=I.sq q1;obtain⟨u1,hu1,ru1⟩:=r1.get hx;obtain⟨old,he⟩:=st.enu;have elt:e<s.heap.objs.size:=ZP he;refine L7 he (st.one.si w1) n2 (x:=u1) (by simpa using hu1) n1 fun g ho hj ht sz kp=>?_;have kp':∀b o,b ∉ [e,it]->s.heap.get? b=some o->g.get? b=some o:=fun b o hb q=>kp b o (fun z=>hb (by simp[z])) (fun z=>hb (by simp[z])) q;have I1:Inv X pins U H {s with heap:=g,toks:=s.toks+1}:=I.turnedL (t':=s.toks+1) kp' hf;have hn:H s.heap.objs.size=none:=I.hok.fresh (ZG _);refine⟨_,rfl,?_⟩;refine wpAny_letOwnedTupleGo_enum (s:={s with heap:=g,toks:=s.toks+1}) ho fun g2 e2 s2=>?_
  have I2:Inv X pins U H {s with heap:=g2,toks:=s.toks+1}:=I1.turnedL (s:={s with heap:=g,toks:=s.toks+1}) (t':=s.toks+1) (ch:=[e]) (fun b o hb q=>s2.extBut b o (fun z=>hb (by simp[z])) q) fun b hb=>by
   have q:b=e:=by simpa using hb
   rw[q];exact hf e (by simp)
  have pg2:g2.get? s.heap.objs.size=some {cls:=.type "tuple",data:=.seq #[.int i s.toks,u1]}:=s2.extBut _ _ (Nat.ne_of_gt elt) ht;have I3:Inv X pins U (upd H s.heap.objs.size (.tup [.int (i:Nat),x])) {s with heap:=g2,toks:=s.toks+1}:=I2.retrack hn (I.fpOk (ZG _) hn) ⟨sl 2,[.int i s.toks,u1],.cons ⟨_,rfl⟩ (.cons ru1 .nil),⟨_,pg2,rfl,rfl,_,rfl⟩⟩
  have ltf:∀b∈ [e,it],b<s.heap.objs.size:=fun b hb=>by
   have q:b=e\/b=it:=by simpa using hb
   rcases q with q|q <;> rw[q]
   .exact elt
   .obtain ⟨o,q,_⟩:=st.one.obj
    exact ZP q
  refine⟨.ref s.heap.objs.size,_,I3,rfl,⟨_,x,rfl,hn,rfl,fun zs h=>by rw[I.sq_inj h q1];exact hx⟩,?_,fun b hb=>?_⟩
  .exact ⟨⟨_,e2⟩,hj.to fun o q=>s2.extBut _ o (Zs n1) q⟩
  .rw [Yg (Ze (ltf b hb))]
   exact(hf b hb).1
 done:=by
  intro X hP hw hK hc i pins s U H E I hf st hg;subst hP hw hK;obtain⟨xs,q1,hend⟩:=hg;obtain⟨its,r1,w1⟩:=I.sq q1;have e1:=r1.length;obtain⟨old,he⟩:=st.enu;refine Qw (I.ok.hd hc) he (st.one.si w1) (by simp;omega) fun g kp=>⟨rfl,?_⟩
  exact I.turnedL (t':=s.toks) (ch:=[it]) (fun b o hb q=>kp b o (fun z=>hb (by simp[z])) q) fun b hb=>hf b (by
   have q:b=it:=by simpa using hb
   rw[q];simp)
 self:=fun _ _ _ _ _ st h=>let⟨_,h1⟩:=st.enu;wpAny_pyIter_enum h1 h
theorem B7:bootBuiltins "enumerate"=some (.type "enumerate"):=by decide +kernel
def Ae(K:W.Frag)(ta:TA):TI:=fun U H R=>ta U H fun vs H1=>∃a tp xs,vs=[.ref a]/\Sq K tp H1 a xs/\R (Ite K tp a) H1
theorem GQ(hg:Gl X "enumerate")(hm:X.mg "enumerate"=none)(ha:PA X [a] ta)(hs:starEach [a] X.env=[(false,eval a X.env)]:=by rfl):PI X (.Tuple elts x1 tpos) (.Call (.Name "enumerate" p) [a] [] pos) (Ae X.K ta):=by
 intro pins s U H R I h;refine Call_ (U3 I hg hm B7 (PyProof.Rows.callWith_type1 (thn (ha pos pins s U H _ I h) fun us s1 ⟨vs,H1,I1,r1,q1⟩=>?_) (by rw[hs];rfl) (by rfl)));obtain⟨l,tp,xs,e,q1,q⟩:=q1;subst e;obtain⟨u,rfl,ru⟩:=vals1 r1;cases ru;obtain⟨its,rr1,w1⟩:=I1.sq q1;have n1:=w1.lt;refine Ob w1 fun g he hj kp=>?_;refine wpAny_pyIter_enum (s:={s1 with heap:=g}) he ?_;have I2:Inv X pins U H1 {s1 with heap:=g}:=I1.kept (t':=s1.toks) kp;refine⟨_,[s1.heap.objs.size+1,s1.heap.objs.size],_,_,H1,rfl,I2,K3 (Nat.succ_ne_self _) (Ze n1),⟨⟨_,he⟩,hj⟩,fun b hb=>?_,q⟩
 have hb':s1.heap.objs.size<=b:=by
  have z:b=s1.heap.objs.size+1\/b=s1.heap.objs.size:=by simpa using hb
  rcases z with z|z <;> rw[z] <;> first|exact ZG _|exact Nat.le_add_right _ _
 exact I1.fpOk hb' (I1.hok.fresh hb')
end L2
namespace L2
open PySem PySem.Spec PyProof.Rows PySem.W PySem.Calls
end L2
namespace L2
open PySem PySem.Spec PyProof.Rows PySem.MeetsSeq
end L2
namespace L2
open PySem PySem.Spec PyProof.Rows
def Its(x:Str):It:=⟨fun i _=>i<x.cps.size,fun i H v H'=>H'=H/\∃c,x.cps[i]?=some c/\v=.str ⟨#[c]⟩,fun i _=>x.cps.size<=i⟩
def SIt(it:Addr)(x:Str)(i:Nat)(h:Heap):Prop:=∃ty t,(ty="str_ascii_iterator" \/ ty="str_iterator")/\h.IsStrIter it ty x t i
theorem KL(h:Q () s):wpAny M A (letOwnedTupleGo tg it (.str y t)) Q E s:=by
 unfold letOwnedTupleGo;cases tg <;> cases it <;> exact Zm h
theorem FE{P:Program}{w:World}{K:W.Frag}{tg:Expr}(it:Addr)(x:Str):Turn P w K tg (Its x) [it] it (SIt it x) where
 mem:=by simp
 obj:=fun i h ⟨ty,t,_,o,ho,_,hd⟩ b hb=>by
  cases ZQ.mp hb;exact⟨o,ho,fun v z=>by rw[hd]at z;cases z⟩
 keep:=fun i h h' ⟨ty,t,hty,o,ho,r⟩ k=>⟨ty,t,hty,o,k it (by simp) o ho,r⟩
 item:=by
  intro X hP hw hK hc i pins s U H E I hf ⟨ty,t,hty,st⟩ hg;subst hP hw hK;obtain⟨f0,f1,_,f3,f4,f5⟩:=hf it (by simp);have fin:∀(v:Value)(h':Heap)(tk:Nat),SignAt x i v->SIt it x (i+1) h'->(∀b o,b ∉ [it]->s.heap.get? b=some o->h'.get? b=some o)->
    (∃u,some v=some u/\wpAny (model X.prog X.w) X.A (letOwnedTupleGo tg (.ref it) u) (fun _ s2=>∃y H',Inv X pins U H' s2/\RelV y u/\(Its x).yld i H y H'/\SIt it x (i+1) s2.heap/\∀b∈ [it],H' b=none) E {s with heap:=h',toks:=tk}):=fun v h' tk hv st' kk=>by
   obtain⟨c,u,hx,rfl⟩:=hv;exact⟨_,rfl,KL ⟨.str ⟨#[c]⟩,H,I.turned (fun b o hb e=>kk b o (by simpa using hb) e) f0 f1 f3 f4 f5,⟨_,rfl⟩,⟨rfl,c,hx,rfl⟩,st',fun b hb=>(hf b hb).1⟩⟩
  rcases hty with rfl|rfl
  .exact (Walks.strAscii (I.ok.hd hc) it x t).item i s _ _ hg st fun v h' tk hv st' kk=>fin v h' tk hv ⟨_,t,.inl rfl,st'⟩ kk
  .exact (Walks.strWide (I.ok.hd hc) it x t).item i s _ _ hg st fun v h' tk hv st' kk=>fin v h' tk hv ⟨_,t,.inr rfl,st'⟩ kk
 done:=by
  intro X hP hw hK hc i pins s U H E I hf ⟨ty,t,hty,st⟩ hg;subst hP hw hK;obtain⟨f0,f1,_,f3,f4,f5⟩:=hf it (by simp)
  have none':x.cps[i]?=none:=by
   have z:x.cps.size<=i:=hg;simp[z]
  rcases hty with rfl|rfl
  .exact wpAny_pyNext_ascii_end (I.ok.hd hc) st none' fun h' eb=>⟨rfl,I.turned (t':=s.toks) (fun b o hb e=>eb b o hb e) f0 f1 f3 f4 f5⟩
  .exact wpAny_pyNext_wide_end (I.ok.hd hc) st none' fun h' eb=>⟨rfl,I.turned (t':=s.toks) (fun b o hb e=>eb b o hb e) f0 f1 f3 f4 f5⟩
 self:=fun _ _ _ _ _ ⟨ty,t,hty,st⟩ h=>by
  rcases hty with rfl|rfl
  .exact wpAny_pyIter_striter_ascii st h
  .exact wpAny_pyIter_striter_wide st h
section
def Cy(tl:TE):TI:=fun U H R=>tl U H fun v H1=>∃x,v=.str x/\R (Its x) H1
theorem QF(hl:PE X l tl):PI X tg l (Cy tl):=by
 intro pins s U H R I h;refine thn (hl pins s U H _ I h) fun v s1 ⟨y,H1,I1,r1,x,e,q⟩=>?_;subst e;obtain⟨t,rfl⟩:=r1
 have fp:∀b∈ [s1.heap.objs.size],J8 X pins H1 b:=fun b hb=>by
  cases ZQ.mp hb;exact I1.fpOk (ZG _) (I1.hok.fresh (ZG _))
 have go:∀(ty:String),(ty="str_ascii_iterator" \/ ty="str_iterator")->PIE X pins U tg R (.ref s1.heap.objs.size) {s1 with heap:=s1.heap.push {cls:=.type ty,data:=.fields #[.str x t,.int 0 0]}}:=fun ty hty=>
  ⟨_,[s1.heap.objs.size],_,_,H1,rfl,I1.kept (t':=s1.toks) (fun b o e=>ZE _ e),FE _ x,⟨ty,t,hty,_,ZY _ rfl,rfl,rfl⟩,fp,q⟩
 cases ha:x.cps.all (fun c=>c<128)
 .exact wpAny_pyIter_wide ha (go _ (.inr rfl))
 .exact wpAny_pyIter_ascii ha (go _ (.inl rfl))
end
theorem VT.dk_ex(x:VT P w H h d (.dK kvs)):∃u,h.get? d=some u:=let⟨_,_,_,_,o,_,_,e,_⟩:=x;⟨o,e⟩
def epO(o:Obj):Nat:=match o.data with|.dict _ ep=>ep|_=>0
section
theorem Inv.freeze(I:Inv X pins U H s)(hd:H d=some (.dK kvs))(ho:s.heap.get? d=some o):Inv X pins U (upd H d (.frz o (.dK kvs))) s:=by
 have ne:∀b u,H b=some u->(∀l,u≠.dK l)->b≠d:=fun b u e n z=>by subst z;rw[hd]at e;cases e;exact n kvs rfl
 have nd:∀b,H b=none->b≠d:=fun b e z=>by subst z;rw[hd]at e;cases e
 have J:=I.un (H':=upd H d (.frz o (.dK kvs))) (h':=s.heap) (t':=s.toks)
  ⟨fun b u q _ _ _=>q,fun b u q _ _ _=>⟨u.slots,q⟩,fun b u q n _=>by rw[Yg (nd b n)];exact n,fun b u q _=>⟨u,q⟩,fun b xs q=>by rw[Yg (ne b _ q (fun l=>by intro z;cases z))];exact q,
   fun b u v q=>by rw[Yg (ne b _ q (fun l=>by intro z;cases z))];exact q,fun b ps q=>⟨#[],by rw[Yg (ne b _ q (fun l=>by intro z;cases z)),q];simp⟩⟩ ?_
 .exact J
 .intro a u e
  by_cases z:a=d
  .subst z
   rw[Ye]at e;cases e;exact⟨ho,I.hok a _ hd⟩
  .rw [Yg z]at e
   exact(I.hok a u e).stay (fun b v _ q=>q) (fun b q=>by rw[Yg (ne b _ q (fun l=>by intro z;cases z))];exact q) fun b xs q=>by rw[Yg (ne b _ q (fun l=>by intro z;cases z))];exact q
end
def Itd(d:Addr)(o:Obj)(kvs:List (Key×V)):It:=
 ⟨fun i H=>H d=some (.frz o (.dK kvs))/\i<kvs.length,fun i H x H'=>H'=H/\∃kv,kvs[i]?=some kv/\x=kV kv.1,fun i H=>H d=some (.frz o (.dK kvs))/\kvs.length=i⟩
theorem OC(h:JS k v=true):RelV (kV k) v:=by
 rcases VU h with⟨i,t,rfl,rfl⟩|⟨x,t,rfl,rfl⟩
 .exact ⟨t,rfl⟩
 .exact ⟨t,rfl⟩
theorem Qq(hk:JS k v=true)(h:Q () s):wpAny M A (letOwnedTupleGo tg it v) Q E s:=by
 rcases VU hk with⟨i,t,rfl,rfl⟩|⟨x,t,rfl,rfl⟩
 .unfold letOwnedTupleGo
  cases tg <;> cases it <;> exact Zm h
 .exact KL h
section
theorem Inv.dict_at(I:Inv X pins U H s)(hd:H d=some (.frz o (.dK kvs))):∃vs,s.heap.DictAt (Y9 X.prog X.w) d vs (epO o)/\KV kvs vs/\(d==sysModules)=false:=by
 obtain⟨ho,_,hm,vs,rv,o',es,ep,ho',r1,r2,r3⟩:=(show VT X.prog X.w H s.heap d (.frz o (.dK kvs))from I.hok d _ hd);rw[ho]at ho';cases ho';have e:epO o=ep:=by unfold epO;rw[r2]
 exact⟨vs,⟨o,es,ho,r1,by rw[e];exact r2,r3⟩,rv,hm⟩
end
theorem Bt{kvs:List (κ×V)}{vs:List (κ×Value)}(r:KV kvs vs):kvs.length=vs.length:=Paired.length r
theorem Ir:∀{kvs:List (κ×V)}{vs:List (κ×Value)}(i:Nat)(k:κ)(u:Value),KV kvs vs->vs[i]?=some (k,u)->∃v,kvs[i]?=some (k,v)
 |_,_,i,k,u,.nil,e=>by simp at e
 |_,_,0,k,u,.cons (a:=p) (b:=q) r _,e=>by
  have e':some q=some (k,u):=e;cases e';obtain⟨k',v⟩:=p;have z:k'=k:=r.1;subst z;exact⟨v,rfl⟩
 |_,_,i+1,k,u,.cons _ t,e=>Ir i k u t e
theorem ED{P:Program}{w:World}{K:W.Frag}{tg:Expr}(it d:Addr)(o:Obj)(kvs:List (Key×V)):Turn P w K tg (Itd d o kvs) [it] it (fun i h=>h.IsKeyIter it d i kvs.length (epO o)) where
 mem:=by simp
 obj:=fun i h ⟨ob,ho,_,hd⟩ b hb=>by
  cases ZQ.mp hb;exact⟨ob,ho,fun v z=>by rw[hd]at z;cases z⟩
 keep:=fun i h h' ⟨ob,ho,r⟩ k=>⟨ob,k it (by simp) ob ho,r⟩
 item:=by
  intro X hP hw hK hc i pins s U H E I hf st hg;subst hP hw hK;obtain⟨f0,f1,_,f3,f4,f5⟩:=hf it (by simp);obtain⟨vs,hat,rv,_⟩:=I.dict_at hg.1;have hl:=Bt rv;rw[hl]at st;have hi:i<vs.length:=by have z:i<kvs.length:=hg.2;omega
  have hx:vs[i]?=some (vs[i].1,vs[i].2):=ZD hi;obtain⟨v',hk'⟩:=Ir i _ _ rv hx;refine wpAny_pyNext_dict_item st hat hx fun key h' hkey st' sb=>?_;rw[<-hl]at st';exact⟨key,rfl,Qq hkey ⟨_,H,I.turned (t':=s.toks) (fun b o hb e=>(sb.2 b hb).trans e) f0 f1 f3 f4 f5,OC hkey,⟨rfl,_,hk',rfl⟩,st',fun b hb=>(hf b hb).1⟩⟩
 done:=by
  intro X hP hw hK hc i pins s U H E I hf st hg;subst hP hw hK;obtain⟨f0,f1,_,f3,f4,f5⟩:=hf it (by simp);obtain⟨vs,hat,rv,_⟩:=I.dict_at hg.1;have hl:=Bt rv;rw[hl]at st;have hi:kvs.length=i:=hg.2;exact wpAny_pyNext_dict_end (I.ok.hd hc) st hat (List.getElem?_eq_none_iff.mpr (by omega)) fun h' eb=>⟨rfl,I.turned (t':=s.toks) (fun b o hb e=>eb b o hb e) f0 f1 f3 f4 f5⟩
 self:=fun _ _ _ _ _ st h=>wpAny_pyIter_keyiter st h
section
def Af(tl:TE):TI:=fun U H R=>tl U H fun v H1=>∃d kvs,v=.ref d/\H1 d=some (.dK kvs)/\∀o,R (Itd d o kvs) (upd H1 d (.frz o (.dK kvs)))
theorem La(hl:PE X l tl):PI X tg l (Af tl):=by
 intro pins s U H R I h;refine thn (hl pins s U H _ I h) fun v s1 ⟨y,H1,I1,r1,d,kvs,e,hd,q⟩=>?_;subst e;cases r1;obtain⟨o,ho⟩:=(show VT X.prog X.w H1 s1.heap d (.dK kvs)from I1.hok d _ hd).dk_ex;have J:=I1.freeze hd ho;obtain⟨vs,hat,rv,hm⟩:=J.dict_at Ye;refine wpAny_pyIter_dict hm hat ?_;rw[<-Bt rv];refine⟨_,[s1.heap.objs.size],_,_,_,rfl,J.kept (t':=s1.toks) (fun b o e=>ZE _ e),ED _ d o kvs,⟨_,ZY _ rfl,rfl,rfl⟩,fun b hb=>?_,q o⟩;cases ZQ.mp hb;exact J.fpOk (ZG _) (J.hok.fresh (ZG _))
theorem V8{st:Stmt}:PS X st (fun _ _ _=>False):=fun _ _ _ _ _ _ h=>h.elim
end
end L2
namespace L2
open PySem
inductive Bd where
 |tag (t:Str)|name (x:Str)|pair (a b:Bd)|one (e:Bd)|other (e:Bd)
 |choose (e:Bd) (ts:List Str) (bs:List Bd)|ask (f:Str) (as:List Bd)|letb (x k:Str) (e b:Bd)
mutual
def Bd.dat:Bd->Dat
 |.tag t=>.tup [.str "tag",.str t]
 |.name x=>.tup [.str "name",.str x]
 |.pair a b=>.tup [.str "pair",a.dat,b.dat]
 |.one e=>.tup [.str "one",e.dat]
 |.other e=>.tup [.str "other",e.dat]
 |.choose e ts bs=>.tup [.str "choose",e.dat,.tup (Bd.brs bs ts)]
 |.ask f as=>.tup [.str "ask",.str f,.tup (Bd.dats as)]
 |.letb x k e b=>.tup [.str "let",.str x,.str k,e.dat,b.dat]
def Bd.dats:List Bd->List Dat
 |[]=>[]
 |b::bs=>b.dat::Bd.dats bs
def Bd.brs:List Bd->List Str->List Dat
 |[],_=>[]
 |b::bs,t::ts=>.tup [.str t,b.dat]::Bd.brs bs ts
 |_::_,[]=>[]
end
def Bd.parts:Bd->List Bd
 |.tag _=>[]
 |.name _=>[]
 |.pair a b=>[a,b]
 |.one e=>[e]
 |.other e=>[e]
 |.choose e _ bs=>e::bs
 |.ask _ as=>as
 |.letb _ _ e b=>[e,b]
end L2
namespace L2
open PySem PySem.W PyProof.Rows
end L2
namespace L2
open PySem PySem.Spec PyProof.Rows
theorem Kf:typeLookup (.type "tuple") (Str.ofString "keys")=pure none:=am_miss_of_fast (by decide +kernel)
section
theorem Kg(pl:W0 s.heap a its)(hA:A.handled=none)(h:∀h' tk,(∀b o,s.heap.get? b=some o->h'.get? b=some o)->Q none {s with heap:=h',toks:=tk}):
  wpAny (model prog w) A (getAttr? (.ref a) (Str.ofString "keys")) Q E s:=by
 obtain⟨⟨c,dct,dat,sl⟩,hx,hd,hc,k,hdat⟩:=pl;simp only at hc hdat hd;subst hc hdat hd;obtain⟨h0,gs,dr,tk,os⟩:=s;have sl':=F.slot_tuple_getattribute;have lk':=sl'.lookup;have bd':=sl'.bind (.ref a);have no':=am_tuple_getattr_none;have ae':=sub_AttributeError;have hT:∀n,(Shared.mk h0 gs dr n os).TypeIs (.ref a) "tuple":=fun n=>⟨_,hx,rfl⟩;simp only[getAttr?,getAttrBy?,getAttrBy]
 repeat (any_goals (first|assumption|exact hT _|((with_reducible show wpAny _ _ (call (Value.builtin "tuple.__getattribute__") _ _) _ _ _);refine call_meets F.slot_tuple_getattribute (hT _) am_entry_tuple_getattribute (F.args_tuple_getattribute_2 _ _) (meets_getattribute_miss_tuple a its k sl (Str.ofString "keys") _ Kf (by decide +kernel) (by size_fits)) ⟨hx,hA,fun h' tk' e hx'=>?_⟩)|wp_step))
 have there:=hx'.there;obtain⟨_,_,he⟩:=there;refine(?_:wpAny _ _ (getattributeRaised _ _ _ _ _ _ _) _ _ _);simp only[getattributeRaised]
 repeat any_goals first|assumption|wp_step
 exact h _ _ hx'.keeps
end
section
theorem Wj(hc:X.calm=true):Jb X (.type "dict") (fun xs H Q=>∃(p:Addr)(ts:List Addr)(kvs:List (Key×V)),xs=[.ref p]/\H p=some (.tup (ts.map V.ref))/\Rn X.K H ts kvs/\(kvs.map (·.1)).Nodup/\∀l,H l=none->Q (.ref l) (upd H l (.dK kvs))):=by
 intro pins s U H xs us Q I r h;obtain⟨p,ts,kvs,rfl,hq,hp,hn,q⟩:=h;obtain⟨u,rfl,ru⟩:=vals1 r;cases ru;obtain⟨hz,its,r',pl⟩:=(show VT X.prog X.w H s.heap p (.tup (ts.map V.ref))from I.hok p _ hq);rw[ZA]at hz
 have hlts:its.length=ts.length:=by
  have:=r'.length;rw[ZA]at this;exact this.symm
 have hat:∀(i:Nat)(a:Addr),ts[i]?=some a->its[i]?=some (Value.ref a):=fun i a e=>by
  obtain⟨u,hu,ru⟩:=r'.get (show(ts.map V.ref)[i]?=some (V.ref a) by rw[ZH,e];rfl);rw[hu,show u=Value.ref a from ru]
 obtain⟨vs,rel,hvs⟩:=G8 s.heap ts kvs hp.1 fun i a k y e1 e2=>by
  obtain⟨its2,r2,p2,_⟩:=I.tuple (hp.2 i a k y e1 e2)
  cases r2 with
  |cons r1 t1=>
   cases t1 with
   |cons r3 t3=>
    cases t3;exact⟨_,_,p2,r1,r3⟩
 have hlv:vs.length=its.toArray.size:=by rw[ZO,hlts,hp.1,<-rel.length]
 have hkeys:vs.map (·.1)=kvs.map (·.1):=by
  have all:∀{l:List (Key×V)}{m:List (Key×Value)},KV l m->m.map (·.1)=l.map (·.1):=by
   intro l m q
   induction q with
   |nil=>rfl
   |cons hq t ih=>rw[ZV,ZV,ih,hq.1]
  exact all rel
 have hpl:p<s.heap.objs.size:=by
  obtain⟨o,e,_⟩:=pl;exact ZP e
 refine callType_codes (Q₁:=fun ob t=>ob=.ref s.heap.objs.size/\t={s with heap:=s.heap.push {cls:=.type "dict",data:=.dict #[]}}) F.kt_called_dict (F.kt_typeCall_dict_1 _) F.entry_dict_init (kt_code_dict_new _ ⟨rfl,rfl⟩) fun ob t ht=>?_;obtain⟨rfl,rfl⟩:=ht;have hnew:(s.heap.push {cls:=.type "dict",data:=.dict #[]}).DictOf (Y9 X.prog X.w) s.heap.objs.size []:=Heap.DictOf.new s.heap;have k0:∀b o,s.heap.get? b=some o->(s.heap.push {cls:=.type "dict",data:=.dict #[]}).get? b=some o:=fun b o e=>ZE _ e;refine And.intro hnew.typeIs (And.intro (F.args_dict_init_2 _ _) ?_);delta Builtin.«dict.__init__» Builtin.Dict.selfAndRest;refine Zl (Zl (wpAny_notOrdered_dict hnew.typeIs (Zm (?_:wpAny _ _ (Builtin.Dict.updateFrom "dict.__init__" s.heap.objs.size (.ref p) [] .none) _ _ _))));delta Builtin.Dict.updateFrom;have pl':=pl.keeps k0;refine Zl (wpAny_typeOf (T:="tuple") (show Shared.TypeIs _ _ _ from let⟨o,h1,_,h2,_⟩:=pl';⟨o,h1,h2⟩) ?_);rw[Zp (by decide)];refine Zl (Kg pl' (I.ok.hd hc) fun h1 tk1 hk1=>?_);simp only[Option.isNone_none,if_true];refine Zl (wpAny_rule ?_);refine Zl (wpAny_pyIter_tuple (show Heap.IsTuple _ _ _ from(pl'.keeps hk1).is) ?_)
 have ld:s.heap.objs.size<h1.objs.size:=by
  obtain⟨o,es,ep,ho,_⟩:=hnew;exact ZP (hk1 _ _ ho)
 have k1:∀b o,s.heap.get? b=some o->(h1.push {cls:=.type "tuple_iterator",data:=.fields #[.ref p,.int 0 0]}).get? b=some o:=fun b o e=>ZE _ (hk1 b o (k0 b o e));refine Zm ⟨plainId_quiet Ja _,Dx (Walks.tuple (A:=X.A.in1.in1) (I.ok.hd hc) h1.objs.size p (Ze (Nat.lt_trans hpl ld)) its.toArray) (h₀:=s.heap) (vs:=vs) hlv (by rw[<-rel.length,<-hp.1];exact hz) (by rw[hkeys];exact hn) ?_ s.heap.objs.size ?_ ?_ .none _ 0 _ 0 0 rfl (Zc _) ?_ ?_ k1 ?_⟩
 .intro i v hv
  have hi:i<its.length:=by
   have:=(Array.getElem?_eq_some_iff.mp hv).1
   rwa [ZO]at this
  have ht:i<ts.length:=by omega
  obtain⟨k,ku,vu,e1,e2,e3⟩:=hvs i ts[i] (ZD ht);refine⟨ts[i],k,ku,vu,?_,e1,e2,U4 e3⟩;have:=hat i ts[i] (ZD ht);have hv':its[i]?=some v:=by simpa using hv
  rw[this]at hv';exact(ZT hv').symm
 .intro hm
  have two:s.heap.objs.size=h1.objs.size\/s.heap.objs.size=p:=by simpa using hm
  rcases two with e|e
  .exact Zr e (Ze ld)
  .exact Zr e (Nat.ne_of_gt hpl)
 .intro b o e
  have hb:=ZP e;refine⟨fun hm=>?_,Ze hb⟩;have e':b=h1.objs.size:=by simpa using hm
  rw[e']at hb;exact Zr ld (Nat.not_lt_of_lt hb)
 .exact ⟨⟨_,ZY _ rfl,rfl,rfl⟩,(show Heap.IsTuple _ _ _ from(pl.keeps k1).is)⟩
 .obtain ⟨o,es,ep,ho,rest⟩:=hnew
  exact⟨o,es,ep,ZE _ (hk1 _ _ ho),rest⟩
 .intro h' tk hd' hk'
  refine⟨rfl,.ref s.heap.objs.size,_,I.laid (a:=s.heap.objs.size) (o:=.dK kvs) (fun b o e=>?_) (ZG _) (Wg (by rw[<-hp.1];exact hz) (beq_eq_false_iff_ne.mpr (Zs (Ze I.big))) rel hd'),rfl,q _ (I.hok.fresh (ZG _))⟩;have hb:=ZP e;refine hk' b o (fun hm=>?_) (Ze hb) (k1 b o e);have e':b=h1.objs.size:=by simpa using hm
  rw[e']at hb;exact Zr ld (Nat.not_lt_of_lt hb)
end
end L2
namespace L2
open PySem
theorem Yr(h:Has H v (.tup ds)):∃p xs,v=.ref p/\H p=some (.tup xs)/\HasL H xs ds:=by unfold Has at h;exact h
theorem Y1(h:H p=some (.tup xs))(t:HasL H xs ds):Has H (.ref p) (.tup ds):=by unfold Has;exact⟨p,xs,rfl,h,t⟩
theorem has_str(h:Has H v (.str x)):v=.str x:=by unfold Has at h;exact h
theorem VD:Has H (.str x) (.str x):=by unfold Has;rfl
theorem Yb(h:HasL H xs (d::ds)):∃x r,xs=x::r/\Has H x d/\HasL H r ds:=by
 match xs,h with
 |[],h=>unfold HasL at h;exact h.elim
 |x::r,h=>unfold HasL at h;exact⟨x,r,rfl,h.1,h.2⟩
theorem Y8(h:HasL H xs []):xs=[]:=by
 match xs,h with
 |[],_=>rfl
 |_::_,h=>unfold HasL at h;exact h.elim
theorem Bd.dats_map:∀bs:List Bd,Bd.dats bs=bs.map Bd.dat
 |[]=>by unfold Bd.dats;rfl
 |b::bs=>by unfold Bd.dats;rw[Bd.dats_map bs];rfl
abbrev Z9:=@Bd.dats_map
theorem Bd.brs_len:∀{bs:List Bd}{ts:List Str},bs.length=ts.length->(Bd.brs bs ts).length=ts.length
 |[],[],_=>by unfold Bd.brs;rfl
 |[],_::_,e=>by simp at e
 |_::_,[],e=>by simp at e
 |b::bs,t::ts,e=>by
  unfold Bd.brs;rw[Zf,Bd.brs_len (by simpa using e),Zf]
theorem Bd.brs_get:∀{bs:List Bd}{ts:List Str}{j:Nat}{d:Dat},(Bd.brs bs ts)[j]?=some d->∃b t,bs[j]?=some b/\ts[j]?=some t/\d=.tup [.str t,b.dat]
 |[],ts,j,d,e=>by unfold Bd.brs at e;simp at e
 |_::_,[],j,d,e=>by unfold Bd.brs at e;simp at e
 |b::bs,t::ts,0,d,e=>by
  unfold Bd.brs at e;have e':some _=some d:=e;cases e';exact⟨b,t,rfl,rfl,rfl⟩
 |b::bs,t::ts,j+1,d,e=>by
  unfold Bd.brs at e;exact Bd.brs_get (bs:=bs) (ts:=ts) (j:=j) e
mutual
def Bd.ok:Bd->Prop
 |.tag _=>True
 |.name _=>True
 |.pair a b=>a.ok/\b.ok
 |.one e=>e.ok
 |.other e=>e.ok
 |.choose e ts bs=>e.ok/\bs.length=ts.length/\(1<=ts.length/\ts.length<=7)/\Bd.oks bs
 |.ask _ as=>as.length<=6/\Bd.oks as
 |.letb _ _ e b=>e.ok/\b.ok
def Bd.oks:List Bd->Prop
 |[]=>True
 |b::bs=>b.ok/\Bd.oks bs
end
theorem Bd.oks_mem:∀{bs:List Bd}{b:Bd},Bd.oks bs->b∈bs->b.ok
 |[],_,_,h=>nomatch h
 |c::bs,b,w,h=>by
  unfold Bd.oks at w;rcases Zd.mp h with rfl|h
  .exact w.1
  .exact Bd.oks_mem w.2 h
theorem Bd.ok_parts{b:Bd}(h:b.ok):∀c∈b.parts,c.ok:=by
 intro c hc
 cases b with
 |tag t=>cases hc
 |name x=>cases hc
 |pair a e=>
  unfold Bd.ok at h;simp only[Bd.parts,Zd,List.mem_nil_iff,or_false]at hc;rcases hc with rfl|rfl
  .exact h.1
  .exact h.2
 |one e=>unfold Bd.ok at h;simp only[Bd.parts,ZQ]at hc;rw[hc];exact h
 |other e=>unfold Bd.ok at h;simp only[Bd.parts,ZQ]at hc;rw[hc];exact h
 |choose e ts bs=>
  unfold Bd.ok at h;simp only[Bd.parts,Zd]at hc;rcases hc with rfl|hc
  .exact h.1
  .exact Bd.oks_mem h.2.2.2 hc
 |ask f as=>unfold Bd.ok at h;exact Bd.oks_mem h.2 hc
 |letb x k e g=>
  unfold Bd.ok at h;simp only[Bd.parts,Zd,List.mem_nil_iff,or_false]at hc;rcases hc with rfl|rfl
  .exact h.1
  .exact h.2
theorem Bd.few{b:Bd}(h:b.ok):b.parts.length<=8:=by
 cases b <;> (try (simp[Bd.parts];done)) <;> (unfold Bd.ok at h;simp only[Bd.parts,Zf,List.length_nil];omega)
end L2
namespace K4
open PySem L2
theorem Da:Yi ["body","word"] ["body"] (Yd BE):=Y2
theorem O3:List.Nodup [("tag":Str),"branch"]:=by decide +kernel
section
def Xr:Sp:=fun vs H Q _=>∃(v:V)(b:Bd),vs=[v]/\Has H v b.dat/\b.ok/\∀u H',Same H H'->Has H' u (.tup (Bd.dats b.parts))->Q u H'
theorem ok_parts(B:Blt mg)(F:Fun K "parts" "parts" BE f fd):Yf P w K mg base CX0 (n+1) f fd ["body"] Xr:=by
 refine F.oq Da fun cdv A outer s H vs Q E hr h=>?_;obtain⟨v,b,rfl,hv,ok,q⟩:=h;refine⟨_,YY (Yu 1 Da.nd (Yj Ym (pv 0) Ya))
  (YY (Y0 (Yn XF (pv 1) (Yt (pa2 Yw Yw)) (by rfl)) (YZ (Yh (Yt Vj))) Yl)
  (YY (Y0 (Yn VQ (pv 1) Yw (Yv _)) (YZ (Yh (VB Md (Yt (pa1 (Yj Ym (pv 0) Ya))) (VL Vq rfl B.tuple VN (pa1 (V6 ["tag","branch"] [] (JV (Yj Ym (pv 0) Ya)) TY (fun cl C fp s H=>Vi (n:=2) rfl (Yx (Yp 0 O3 rfl (Or.inl rfl) (Or.inr rfl)) (Yx (Yp 1 O3 rfl (Or.inl rfl) (Or.inr rfl)) VW)))
     (fun cl C fp s H=>pv 1))))))) Yl)
  (YY (Y0 (Yn VQ (pv 1) Yw (Yv _)) (YZ (Yh (Yj Ym (pv 0) Ya))) Yl)
  (YY (Y0 (Yn VQ (pv 1) Yw (Yv _)) (YZ (Yh (V3 MF (pv 0) (JJ Ya) JK))) Yl)
  (YZ (Yh (V3 MF (pv 0) (JJ Ya) JK))))))),?_⟩
 show let a:=_;let b:=_;let c:=Yk (VC _ b _) a;let d:=_;let e:=Yk (VC _ d _) c;let f:=_;let g:=Yk (VC _ f _) e;let h:=_;let i:=Yk (VC _ h _) g;Yk _ i _ _ _
 intros
 cases b with
 |tag t=>
  unfold Bd.dat at hv;obtain⟨p,xs,rfl,hp,hl⟩:=Yr hv;obtain⟨x1,r1,rfl,h1,hlA⟩:=Yb hl;obtain rfl:=has_str h1;refine⟨_,_,Z2 hp,Y5 (j:=0) rfl,?_⟩;refine⟨sl 2,fun t1 ht1=>?_⟩;refine⟨t1,_,rfl,.inr (Z2 Ye),rfl,rfl,_,rfl,VE (by decide +kernel) ?_⟩;exact⟨sl 0,fun t2 ht2=>q _ _ ((Yo ht1 _).trans (Yo ht2 _)) (Y1 Ye (by simp only[Bd.parts,Bd.dats];exact Z6))⟩
 |name x=>
  unfold Bd.dat at hv;obtain⟨p,xs,rfl,hp,hl⟩:=Yr hv;obtain⟨x1,r1,rfl,h1,hlA⟩:=Yb hl;obtain rfl:=has_str h1;refine⟨_,_,Z2 hp,Y5 (j:=0) rfl,?_⟩;refine⟨sl 2,fun t1 ht1=>?_⟩;refine⟨t1,_,rfl,.inr (Z2 Ye),rfl,rfl,_,rfl,VE (by decide +kernel) ?_⟩;exact⟨sl 0,fun t2 ht2=>q _ _ ((Yo ht1 _).trans (Yo ht2 _)) (Y1 Ye (by simp only[Bd.parts,Bd.dats];exact Z6))⟩
 |pair a e=>
  unfold Bd.dat at hv;obtain⟨p,xs,rfl,hp,hl⟩:=Yr hv;obtain⟨x1,r1,rfl,h1,hlA⟩:=Yb hl;obtain rfl:=has_str h1;refine⟨_,_,Z2 hp,Y5 (j:=0) rfl,?_⟩;refine⟨sl 2,fun t1 ht1=>?_⟩;have s1:=Yo ht1 (.tup [V.str "tag",V.str "name"]);refine⟨t1,_,rfl,.inr (Z2 Ye),rfl,rfl,_,rfl,Yy (by decide +kernel) ?_⟩;refine⟨rfl,_,rfl,Yy (by decide +kernel) ?_⟩;refine⟨rfl,_,rfl,Yy (by decide +kernel) ?_⟩;refine⟨rfl,_,rfl,Yy (by decide +kernel) ?_⟩;refine⟨1,rfl,p,_,rfl,Z2 (s1 _ _ hp),by simp[HT.sIx],fun t2 ht2=>q _ _ (s1.trans (Yo ht2 _)) (Y1 (xs:=r1) (by rw[Ye];simp[UU,HT.sIx]) ?_)⟩;exact(hlA.mono s1).mono (Yo ht2 _)
 |one e=>
  unfold Bd.dat at hv;obtain⟨p,xs,rfl,hp,hl⟩:=Yr hv;obtain⟨x1,r1,rfl,h1,hlA⟩:=Yb hl;obtain rfl:=has_str h1;refine⟨_,_,Z2 hp,Y5 (j:=0) rfl,?_⟩;refine⟨sl 2,fun t1 ht1=>?_⟩;have s1:=Yo ht1 (.tup [V.str "tag",V.str "name"]);refine⟨t1,_,rfl,.inr (Z2 Ye),rfl,rfl,_,rfl,Yy (by decide +kernel) ?_⟩;refine⟨rfl,_,rfl,Yy (by decide +kernel) ?_⟩;refine⟨rfl,_,rfl,Yy (by decide +kernel) ?_⟩;refine⟨rfl,_,rfl,Yy (by decide +kernel) ?_⟩;refine⟨1,rfl,p,_,rfl,Z2 (s1 _ _ hp),by simp[HT.sIx],fun t2 ht2=>q _ _ (s1.trans (Yo ht2 _)) (Y1 (xs:=r1) (by rw[Ye];simp[UU,HT.sIx]) ?_)⟩;exact(hlA.mono s1).mono (Yo ht2 _)
 |other e=>
  unfold Bd.dat at hv;obtain⟨p,xs,rfl,hp,hl⟩:=Yr hv;obtain⟨x1,r1,rfl,h1,hlA⟩:=Yb hl;obtain rfl:=has_str h1;refine⟨_,_,Z2 hp,Y5 (j:=0) rfl,?_⟩;refine⟨sl 2,fun t1 ht1=>?_⟩;have s1:=Yo ht1 (.tup [V.str "tag",V.str "name"]);refine⟨t1,_,rfl,.inr (Z2 Ye),rfl,rfl,_,rfl,Yy (by decide +kernel) ?_⟩;refine⟨rfl,_,rfl,Yy (by decide +kernel) ?_⟩;refine⟨rfl,_,rfl,Yy (by decide +kernel) ?_⟩;refine⟨rfl,_,rfl,Yy (by decide +kernel) ?_⟩;refine⟨1,rfl,p,_,rfl,Z2 (s1 _ _ hp),by simp[HT.sIx],fun t2 ht2=>q _ _ (s1.trans (Yo ht2 _)) (Y1 (xs:=r1) (by rw[Ye];simp[UU,HT.sIx]) ?_)⟩;exact(hlA.mono s1).mono (Yo ht2 _)
 |choose e ts bs=>
  unfold Bd.dat at hv;obtain⟨p,xs,rfl,hp,hl⟩:=Yr hv;obtain⟨x1,r1,rfl,h1,hlA⟩:=Yb hl;obtain rfl:=has_str h1;obtain⟨x2,r2,rfl,h2,hlB⟩:=Yb hlA;obtain⟨x3,r3,rfl,h3,hlC⟩:=Yb hlB;obtain rfl:=Y8 hlC;obtain⟨pz,zs,rfl,hpz,hzl⟩:=Yr h3;unfold Bd.ok at ok;obtain⟨o1,o2,o3,o4⟩:=ok;have lz:=hzl.length;rw[Bd.brs_len o2]at lz;refine⟨_,_,Z2 hp,Y5 (j:=0) rfl,?_⟩;refine⟨sl 2,fun t1 ht1=>?_⟩;have s1:=Yo ht1 (.tup [V.str "tag",V.str "name"]);refine⟨t1,_,rfl,.inr (Z2 Ye),rfl,rfl,_,rfl,Yy (by decide +kernel) ?_⟩;refine⟨rfl,_,rfl,VE (by decide +kernel) ?_⟩;refine⟨_,_,Z2 (s1 _ _ hp),rfl,sl 1,fun t2 ht2=>?_⟩;have s2:=Yo ht2 (.tup [x2]);have sA:=s1.trans s2;refine⟨_,_,Z2 (sA _ _ hp),rfl,⟨_,Z2 (sA _ _ hpz)⟩,?_⟩;have hpz2:=sA _ _ hpz;refine V0 zs.length (Yq (by omega)) (fun j vs H'=>H'=upd (upd H t1 (.tup [V.str "tag",V.str "name"])) t2 (.tup [x2])/\vs.length=j/\HasL H vs ((bs.map Bd.dat).take j)) ⟨rfl,rfl,Z6⟩ (fun j vs H' z=>z.2.1) ?_ ?_ ?_ ?_
  .rintro j vs H' hj ⟨rfl,_⟩
   exact⟨zs,zs[j],Z2 hpz2,by simp[hj]⟩
  .rintro vs H' ⟨rfl,_⟩
   exact⟨zs,Z2 hpz2,ZG _⟩
  .rintro j vs H' x H3 R hj ⟨rfl,z2,z3⟩ yl hR
   obtain⟨rfl,y⟩:=yl;obtain⟨d,hd,hx1⟩:=hzl.get (y zs (Z2 hpz2));obtain⟨b,t0,hb0,ht0,rfl⟩:=Bd.brs_get hd;obtain⟨pp,ys,rfl,hpp,hyl⟩:=Yr hx1;obtain⟨y1,r4,rfl,h4,hyA⟩:=Yb hyl;obtain⟨y2,r5,rfl,h5,hyB⟩:=Yb hyA;obtain rfl:=Y8 hyB;refine⟨_,Z2 (sA _ _ hpp),rfl,?_⟩;refine hR _ _ ⟨rfl,by rw[ZL,z2];rfl,?_⟩;rw[List.take_add_one,ZH,hb0];exact Z7 z3 (Z5 h5)
  .rintro vs H' l ⟨rfl,z2,z3⟩ hl3
   have s3:=Yo hl3 (.lst vs);refine⟨l,_,rfl,.inl ⟨Z3 Ye,fun l4 hl4=>?_⟩⟩;have s4:=Yo hl4 (.tup vs);have sB:=(sA.trans s3).trans s4;rw[Zg (by rw[ZA];omega)]at z3;have e1:Bd.dats (Bd.choose e ts bs).parts=e.dat::bs.map Bd.dat:=by rw[Z9];rfl
   refine⟨t2,l4,[x2],vs,rfl,rfl,Z2 (s4 _ _ (s3 _ _ Ye)),Z2 Ye,by simp,Zh (Yq (by simp only[List.length_singleton];omega)),fun e0=>?_,fun _ p5 hp5=>?_⟩
   .refine q _ _ sB ?_
    rw[e1];subst e0
    have hb:bs=[]:=by
     have:=z3.length;simpa using this.symm
    rw[hb];exact Y1 (s4 _ _ (s3 _ _ Ye)) (Z5 (h2.mono sB))
   .have s5:=Yo hp5 (.tup ([x2]++ vs))
    refine q _ _ (sB.trans s5) ?_;rw[e1];exact Y1 Ye (Z4 (h2.mono (sB.trans s5)) (z3.mono (sB.trans s5)))
 |ask g as=>
  unfold Bd.dat at hv;obtain⟨p,xs,rfl,hp,hl⟩:=Yr hv;obtain⟨x1,r1,rfl,h1,hlA⟩:=Yb hl;obtain rfl:=has_str h1;obtain⟨x2,r2,rfl,h2,hlB⟩:=Yb hlA;obtain⟨x3,r3,rfl,h3,hlC⟩:=Yb hlB;refine⟨_,_,Z2 hp,Y5 (j:=0) rfl,?_⟩;refine⟨sl 2,fun t1 ht1=>?_⟩;have s1:=Yo ht1 (.tup [V.str "tag",V.str "name"]);refine⟨t1,_,rfl,.inr (Z2 Ye),rfl,rfl,_,rfl,Yy (by decide +kernel) ?_⟩;refine⟨rfl,_,rfl,Yy (by decide +kernel) ?_⟩;refine⟨rfl,_,rfl,VE (by decide +kernel) ?_⟩;exact⟨_,_,Z2 (s1 _ _ hp),Y5 (j:=2) rfl,q _ _ s1 (h3.mono s1)⟩
 |letb x k e g=>
  unfold Bd.dat at hv;obtain⟨p,xs,rfl,hp,hl⟩:=Yr hv;obtain⟨x1,r1,rfl,h1,hlA⟩:=Yb hl;obtain rfl:=has_str h1;obtain⟨x2,r2,rfl,h2,hlB⟩:=Yb hlA;obtain⟨x3,r3,rfl,h3,hlC⟩:=Yb hlB;have lr:=hlC.length;refine⟨_,_,Z2 hp,Y5 (j:=0) rfl,?_⟩;refine⟨sl 2,fun t1 ht1=>?_⟩;have s1:=Yo ht1 (.tup [V.str "tag",V.str "name"]);refine⟨t1,_,rfl,.inr (Z2 Ye),rfl,rfl,_,rfl,Yy (by decide +kernel) ?_⟩;refine⟨rfl,_,rfl,Yy (by decide +kernel) ?_⟩;refine⟨rfl,_,rfl,Yy (by decide +kernel) ?_⟩;refine⟨rfl,_,rfl,VE (by decide +kernel) ?_⟩;refine⟨3,rfl,p,_,rfl,Z2 (s1 _ _ hp),by simp[HT.sIx],fun t2 ht2=>q _ _ (s1.trans (Yo ht2 _)) (Y1 (xs:=r3) (by rw[Ye];simp[UU,HT.sIx]) ?_)⟩;exact(hlC.mono s1).mono (Yo ht2 _)
end
end K4
namespace L2
open PySem
def Bd.at:Bd->List Int->Option Bd
 |b,[]=>some b
 |b,i::r=>if 0<=i then(match b.parts[i.toNat]? with|some c=>Bd.at c r|none=>none)else none
end L2
namespace K4
open PySem L2
end K4
namespace L2
open PySem PySem.Spec PyProof.Rows
mutual
def Bd.size:Bd->Nat
 |.tag _=>1
 |.name _=>1
 |.pair a b=>1+(a.size+b.size)
 |.one e=>1+e.size
 |.other e=>1+e.size
 |.choose e _ bs=>1+(e.size+Bd.sizes bs)
 |.ask _ as=>1+Bd.sizes as
 |.letb _ _ e b=>1+(e.size+b.size)
def Bd.sizes:List Bd->Nat
 |[]=>0
 |b::bs=>b.size+Bd.sizes bs
end
mutual
def Bd.dep:Bd->Nat
 |.tag _=>0
 |.name _=>0
 |.pair a b=>1+max a.dep b.dep
 |.one e=>1+e.dep
 |.other e=>1+e.dep
 |.choose e _ bs=>1+max e.dep (Bd.deps bs)
 |.ask _ as=>1+Bd.deps as
 |.letb _ _ e b=>1+max e.dep b.dep
def Bd.deps:List Bd->Nat
 |[]=>0
 |b::bs=>max b.dep (Bd.deps bs)
end
theorem Bd.deps_mem:∀{bs:List Bd}{b:Bd},b∈bs->b.dep<=Bd.deps bs
 |[],_,h=>nomatch h
 |c::bs,b,h=>by
  unfold Bd.deps;rcases Zd.mp h with rfl|h
  .exact Nat.le_max_left _ _
  .exact Zb (Bd.deps_mem h) (Nat.le_max_right _ _)
theorem Bd.dep_mem{b c:Bd}(h:c∈b.parts):c.dep<b.dep:=by
 have hd:=Bd.deps_mem h;cases b <;> simp only[Bd.parts,Bd.deps,Bd.dep,List.mem_nil_iff]at * <;> first|exact h.elim|omega
end L2
namespace K4
open PySem L2
end K4
namespace L2
open PySem
abbrev Hds:=Str->Option (List (Str×Str)×Str)
inductive Kd(ks:List (Str×Shp))(hd:Hds):List (Key×V)->Str->Bd->Prop
 |tag {g:List (Key×V)}{y t:Str}{ts:List Str}:VR ks y=some (.tags ts)->t∈ts->Kd ks hd g y (.tag t)
 |name {g:List (Key×V)}{y x:Str}:VF g (Sum.inr x)=some (.str y)->Kd ks hd g y (.name x)
 |pair {g:List (Key×V)}{y a b:Str}{A B:Bd}:VR ks y=some (.pair a b)->Kd ks hd g a A->Kd ks hd g b B->Kd ks hd g y (.pair A B)
 |one {g:List (Key×V)}{y z b:Str}{e:Bd}:VR ks z=some (.pair y b)->Kd ks hd g z e->Kd ks hd g y (.one e)
 |other {g:List (Key×V)}{y z a:Str}{e:Bd}:VR ks z=some (.pair a y)->Kd ks hd g z e->Kd ks hd g y (.other e)
 |choose {g:List (Key×V)}{y z:Str}{ts:List Str}{e:Bd}{bs:List Bd}:VR ks z=some (.tags ts)->Kd ks hd g z e->bs.length=ts.length->(∀b∈bs,Kd ks hd g y b)->Kd ks hd g y (.choose e ts bs)
 |ask {g:List (Key×V)}{y f:Str}{ps:List (Str×Str)}{as:List Bd}:hd f=some (ps,y)->as.length=ps.length->(∀(i:Nat)(a:Bd)(p:Str×Str),as[i]?=some a->ps[i]?=some p->Kd ks hd g p.2 a)->Kd ks hd g y (.ask f as)
 |letb {g:List (Key×V)}{y x z:Str}{e b:Bd}:VF g (Sum.inr x)=none->z∈ks.map (·.1)->Kd ks hd (putK g (Sum.inr x) (.str z)) z e->Kd ks hd (putK g (Sum.inr x) (.str z)) y b->Kd ks hd g y (.letb x z e b)
def hdD(ps:List (Str×Str))(k:Str):Dat:=.tup [.tup (ps.map fun p=>.tup [.str p.1,.str p.2]),.str k]
theorem Qp(ps:List (Str×Str))(k:Str):(hdD ps k).st=true:=by
 have:∀ps:List (Str×Str),Dat.sts (ps.map fun p=>Dat.tup [.str p.1,.str p.2])=true:=by
  intro ps
  induction ps with
  |nil=>unfold List.map Dat.sts;rfl
  |cons p ps ih=>rw[ZV];unfold Dat.sts;rw[ih];simp[Dat.st,Dat.sts]
 simp[hdD,Dat.st,Dat.sts,this]
theorem D6:∀{bs:List Bd}{ts:List Str},Dat.sts (Bd.dats bs)=true->Dat.sts (Bd.brs bs ts)=true
 |[],_,_=>by unfold Bd.brs Dat.sts;rfl
 |b::bs,[],_=>by unfold Bd.brs Dat.sts;rfl
 |b::bs,t::ts,h=>by
  unfold Bd.dats Dat.sts at h;rw[ZZ]at h;unfold Bd.brs Dat.sts;rw[D6 h.2];simp[Dat.st,Dat.sts,h.1]
mutual
theorem Bd.st:∀b:Bd,b.dat.st=true
 |.tag t=>by simp[Bd.dat,Dat.st,Dat.sts]
 |.name t=>by simp[Bd.dat,Dat.st,Dat.sts]
 |.pair a b=>by simp[Bd.dat,Dat.st,Dat.sts,Bd.st a,Bd.st b]
 |.one a=>by simp[Bd.dat,Dat.st,Dat.sts,Bd.st a]
 |.other a=>by simp[Bd.dat,Dat.st,Dat.sts,Bd.st a]
 |.choose e ts bs=>by simp[Bd.dat,Dat.st,Dat.sts,Bd.st e,D6 (Bd.sts bs)]
 |.ask f as=>by simp[Bd.dat,Dat.st,Dat.sts,Bd.sts as]
 |.letb x k e b=>by simp[Bd.dat,Dat.st,Dat.sts,Bd.st e,Bd.st b]
theorem Bd.sts:∀bs:List Bd,Dat.sts (Bd.dats bs)=true
 |[]=>by unfold Bd.dats Dat.sts;rfl
 |b::bs=>by unfold Bd.dats Dat.sts;rw[Bd.st b,Bd.sts bs];rfl
end
theorem FB{kvs:List (Key×V)}(h:VF kvs k=some v):∃kv∈kvs,kv.1=k/\kv.2=v:=by
 unfold VF at h
 cases e:kvs.find? (fun kv=>decide (kv.1=k))with
 |none=>rw[e]at h;cases h
 |some kv=>
  rw[e]at h;exact⟨kv,List.mem_of_find?_eq_some e,by simpa using List.find?_some e,ZT h⟩
theorem UP:∀ns:List Str,HasL H (ns.map V.str) (ns.map Dat.str)
 |[]=>Z6
 |n::ns=>Z4 VD (UP ns)
theorem AZ{ns:List Str}(h:H a=some (.lst (ns.map V.str))):Has H (.ref a) (.lst (ns.map Dat.str)):=OB h (UP ns)
theorem NB(ns:List Str):(Dat.lst (ns.map Dat.str)).dep<=1:=by
 have:∀ns:List Str,Dat.deps (ns.map Dat.str)=0:=by
  intro ns
  induction ns with
  |nil=>unfold List.map Dat.deps;rfl
  |cons n ns ih=>rw[ZV];unfold Dat.deps;rw[ih];unfold Dat.dep;rfl
 unfold Dat.dep;rw[this];decide
theorem UY(h:H r=some (.tup [.str a,.str b])):Has H (.ref r) (.tup [.str a,.str b]):=Y1 h (Z4 VD (Z4 VD Z6))
theorem Vp.sm(s:Vp H p)(e:Same H H'):Vp H' p:=let⟨a,b,c,d,h⟩:=s;⟨a,b,c,d,e _ _ h⟩
end L2
namespace K4
open PySem L2
section
variable{P:Program}{w:World}{K:W.Frag}{mg:Str->Option Value}{base:Heap}
def Df(P:Program)(w:World)(K:W.Frag)(mg:Str->Option Value)(base:Heap)(n:Nat)(x:Str)(ps:List Str)(sp:Sp):Prop:=
 ∃(g:Addr)(gd:FuncData),mg x=some (.ref g)/\W.keepIn K (.ref g)=true/\Binds K gd ps []/\Yf P w K mg base CX0 n g gd ps sp
theorem VJ{X:Cx}(D:Df X.prog X.w X.K X.mg X.base k x ps sp)(hr:Vs k X.A)(ha:PA X (e::es) t)(hg:Gl X x:=by exact rfl)(hdb:(x==("__debug__":Str))=false:=by decide)(he:starEach (e::es) X.env=(false,eval e X.env)::starEach es X.env:=by rfl)(hpl:(backTo pos (starEach es X.env)).any (·.1)=false:=by rfl):
  PE X (.Call (.Name x p) (e::es) [] pos) (M8 sp [] E0 t):=let⟨_,_,m,k,b,G⟩:=D;Jg G hr hg m k b .nil Y4 ha hdb he hpl
theorem Df.up(d:Df P w K mg base n x ps sp)(h:n<=m):Df P w K mg base m x ps sp:=
 let⟨g,gd,h1,h2,h3,h4⟩:=d;⟨g,gd,h1,h2,h3,h4.mono h⟩
end
end K4
namespace L2
open PySem
end L2
namespace K4
open PySem L2
end K4
namespace L2
open PySem
theorem X3(h:Has H v (.tup [.str a,.str b])):∃t,v=.ref t/\H t=some (.tup [.str a,.str b]):=by
 obtain⟨t,ys,rfl,ht,hl⟩:=Yr h;obtain⟨x1,r1,rfl,h1,hlA⟩:=Yb hl;obtain⟨x2,r2,rfl,h2,hlB⟩:=Yb hlA;obtain rfl:=Y8 hlB;obtain rfl:=has_str h1;obtain rfl:=has_str h2;exact⟨t,rfl,ht⟩
end L2
namespace K4
open PySem L2
end K4
namespace L2
open PySem
theorem Same.putN(s:Same H0 H)(h:H0 p=none):Same H0 (upd H p o):=fun b u e=>by
 rw[Yg (Yc e h)];exact s b u e
end L2
namespace K4
open PySem L2
end K4
namespace L2
open PySem PySem.Spec PyProof.Rows
section
theorem B5:Jb X (.type "dict") (fun xs H Q=>∃a kvs,xs=[.ref a]/\Rd H a (.dK kvs)/\∀l,H l=none->Q (.ref l) (upd H l (.dK kvs))):=by
 intro pins s U H xs us Q I r h;obtain⟨a,kvs,rfl,ha,q⟩:=h;obtain⟨u,rfl,ru⟩:=vals1 r;cases ru;obtain⟨hz,lo,vs,rv,hd⟩:=Wv I.hok ha;have hlen:=rv.length;refine kt_call_dict (knd:=Y9 X.prog X.w) lo hd (by rw[<-hlen];exact hz) fun h' hd' sb=>?_;refine⟨.ref s.heap.objs.size,_,I.laid (a:=s.heap.objs.size) (o:=.dK kvs) (fun b o e=>?_) (ZG _) (Wg hz (beq_eq_false_iff_ne.mpr (Zs (Ze I.big))) rv hd'),rfl,q _ (I.hok.fresh (ZG _))⟩;exact(sb.2 b (Ze (ZP e))).trans (ZE _ e)
end
end L2
namespace L2
open PySem
theorem Fs{kvs:List (Key×V)}(h:kv∈putK kvs k v):kv∈kvs\/kv=(k,v):=by
 unfold putK at h
 split at h
 .obtain ⟨q,hq,e⟩:=ZW.mp h
  by_cases z:q.1=k
  .rw [Zp z]at e;exact .inr (by rw[<-e,z])
  .rw [Zq z]at e;exact .inl (by rw[<-e];exact hq)
 .rcases ZX.mp h with h|h
  .exact .inl h
  .exact .inr (ZQ.mp h)
theorem NI(kvs:List (Key×V))(k:Key)(v:V):(putK kvs k v).length<=kvs.length+1:=by
 unfold putK
 split
 .rw [ZA];omega
 .rw [ZL];exact ZG _
end L2
namespace K4
open PySem L2
end K4
namespace L2
open PySem
abbrev Hd:=Str×List (Str×Str)×Str
def WdS(y:Str):Prop:=1<=y.length/\y.length<=8/\∀c∈y.cps.toList,97<=c/\c<97+26
def Vd(c:Str->Nat)(ps:List (Str×Str)):Nat:=ps.foldl (fun r p=>r*c p.2) 1
theorem G4(c:Str->Nat)(ps:List (Str×Str))(p:Str×Str):Vd c (ps++[p])=Vd c ps*c p.2:=by unfold Vd;rw[List.foldl_append];rfl
structure Ku(ns:List Str)(c:Str->Nat)(top:Nat)(h:Hd):Prop where
 len:h.2.1.length<=3
 kin:∀p∈h.2.1,p.2∈ns
 own:h.2.2∈ns
 nd:(h.2.1.map (·.1)).Nodup
 spl:∀p∈h.2.1,WdS p.1
 rows:Vd c h.2.1<=top
theorem Rr{kvs:List (Key×V)}(h:k∉kvs.map (·.1)):VF kvs k=none:=by
 unfold VF
 rw[List.find?_eq_none.mpr (fun kv hk=>by
  intro z;exact h (ZW.mpr ⟨kv,hk,Zt z⟩))]
 rfl
theorem RO{ys:List Str}(nd:ys.Nodup)(h:ys[i]?=some y):y∉ys.take i:=by
 have e:=take_snoc h;have s:(ys.take i++[y]).Nodup:=by rw[<-e];exact nd.sublist (List.take_sublist _ _)
 exact fun z=>(List.nodup_append.mp s).2.2 y z y (ZQ.mpr rfl) rfl
theorem Wds.wdS(w:Wds 97 ys)(h:y∈ys):WdS y:=⟨(w.len y h).1,(w.len y h).2,w.abc y h⟩
end L2
namespace K4
open PySem L2
end K4
namespace L2
open PySem
theorem Ft:∀{ps:List (Str×Str)}{xs:List V},HasL H xs (ps.map fun p=>.tup [.str p.1,.str p.2])->∃(ts:List Addr),xs=ts.map V.ref/\Rn K H ts (ps.map fun p=>((Sum.inr p.1:Key),V.str p.2))
 |[],xs,h=>by
  obtain rfl:=Y8 h;exact⟨[],rfl,rfl,fun i a k y e=>by simp at e⟩
 |q::ps,xs,h=>by
  rw[ZV]at h;obtain⟨x,r,rfl,h1,h2⟩:=Yb h;obtain⟨t,rfl,ht⟩:=X3 h1;obtain⟨ts,rfl,tl,tp⟩:=Ft (K:=K) h2;refine⟨t::ts,rfl,by simp[tl],fun i b k y e1 e2=>?_⟩
  cases i with
  |zero=>
   have e1':some t=some b:=e1;have e2':some ((Sum.inr q.1:Key),V.str q.2)=some (k,y):=e2;cases e1';cases e2';exact Z2 ht
  |succ i=>exact tp i b k y e1 e2
abbrev Dd:=Hd×Bd
def Ki(x:Dd):Dat:=.tup [.str x.1.1,.tup (x.1.2.1.map fun p=>.tup [.str p.1,.str p.2]),.str x.1.2.2,x.2.dat]
def kvP(ps:List (Str×Str)):List (Key×V):=ps.map fun p=>((Sum.inr p.1:Key),V.str p.2)
def JA(hs:List Hd):Hds:=fun f=>(hs.find? fun h=>decide (h.1=f)).map (·.2)
theorem Di(ps:List (Str×Str)):Dat.sts (ps.map fun p=>Dat.tup [.str p.1,.str p.2])=true:=by
 have:=Qp ps "";unfold hdD Dat.st Dat.sts at this;rw[ZZ]at this;have t1:=this.1;unfold Dat.st at t1;exact t1
theorem I0(nd:(hs.map (·.1)).Nodup)(m:h∈hs):JA hs h.1=some h.2:=by
 induction hs with
 |nil=>exact nomatch m
 |cons g hs ih=>
  rw[ZV,List.nodup_cons]at nd;unfold JA;rw[List.find?_cons];rcases Zd.mp m with e|e
  .subst e;simp
  .have ne:¬g.1=h.1:=fun q=>nd.1 (by rw[q];exact ZW.mpr ⟨_,e,rfl⟩)
   rw[Zy ne];exact ih nd.2 e
theorem DL:∀{kvs:List (Key×V)},(kvs.map (·.1)).Nodup->∀{kv:Key×V},kv∈kvs->VF kvs kv.1=some kv.2
 |[],_,kv,m=>nomatch m
 |g::kvs,nd,kv,m=>by
  rw[ZV,List.nodup_cons]at nd;unfold VF;rw[List.find?_cons];rcases Zd.mp m with e|e
  .subst e;simp
  .have ne:¬g.1=kv.1:=fun q=>nd.1 (by rw[q];exact ZW.mpr ⟨_,e,rfl⟩)
   rw[Zy ne];exact DL nd.2 e
theorem Vp.tkB(s:Vp H p)(b:SameB p H H'):TK H H':=fun c xs h=>b c _ (M6 s h) h
end L2
namespace K4
open PySem L2
end K4
namespace L2
open PySem
def Kr(ks:List (Str×Shp))(hd:Hds)(kv:List (Key×V))(y:Str):Bd->List Str->Prop
 |.tag t,zs=>zs=[]/\∃ts,VR ks y=some (.tags ts)/\t∈ts
 |.name x,zs=>zs=[]/\VF kv (Sum.inr x)=some (.str y)
 |.pair _ _,zs=>∃a b,zs=[a,b]/\VR ks y=some (.pair a b)
 |.one _,zs=>∃z b,zs=[z]/\VR ks z=some (.pair y b)
 |.other _,zs=>∃z a,zs=[z]/\VR ks z=some (.pair a y)
 |.choose _ ts bs,zs=>∃z,zs=z::List.replicate bs.length y/\VR ks z=some (.tags ts)/\bs.length=ts.length
 |.ask f _,zs=>∃ps:List (Str×Str),hd f=some (ps,y)/\zs=ps.map (·.2)
 |.letb x z _ _,zs=>zs=[z,y]/\VF kv (Sum.inr x)=none/\z∈ks.map (·.1)
def wth(kv:List (Key×V)):Bd->List (Key×V)
 |.letb x z _ _=>putK kv (Sum.inr x) (.str z)
 |_=>kv
theorem Kd.inv(h:Kd ks hd kv y b):
  ∃zs,Kr ks hd kv y b zs/\zs.length=b.parts.length/\∀(i:Nat)(p:Bd)(z:Str),b.parts[i]?=some p->zs[i]?=some z->Kd ks hd (wth kv b) z p:=by
 cases h with
 |tag h1 h2=>exact⟨[],⟨rfl,_,h1,h2⟩,rfl,fun i p z e=>nomatch e⟩
 |name h1=>exact⟨[],⟨rfl,h1⟩,rfl,fun i p z e=>nomatch e⟩
 |pair h1 h2 h3=>
  refine⟨_,⟨_,_,rfl,h1⟩,rfl,fun i p z e1 e2=>?_⟩;rcases i with _|_|i
  .cases e1;cases e2;exact h2
  .cases e1;cases e2;exact h3
  .exact nomatch e1
 |one h1 h2=>
  refine⟨_,⟨_,_,rfl,h1⟩,rfl,fun i p z e1 e2=>?_⟩;rcases i with _|i
  .cases e1;cases e2;exact h2
  .exact nomatch e1
 |other h1 h2=>
  refine⟨_,⟨_,_,rfl,h1⟩,rfl,fun i p z e1 e2=>?_⟩;rcases i with _|i
  .cases e1;cases e2;exact h2
  .exact nomatch e1
 | @choose _ _ z0 ts e bs h1 h2 h3 h4=>
  refine⟨_,⟨_,rfl,h1,h3⟩,by simp[Bd.parts],fun i p z e1 e2=>?_⟩;rcases i with _|i
  .cases e1;cases e2;exact h2
  .have m:=ZJ (show bs[i]?=some p from e1)
   have e3:(List.replicate bs.length y)[i]?=some z:=e2;have e4:=ZJ e3;cases List.eq_of_mem_replicate e4;exact h4 p m
 | @ask _ _ f ps as h1 h2 h3=>
  refine⟨_,⟨_,h1,rfl⟩,by rw[ZA];exact h2.symm,fun i p z e1 e2=>?_⟩;rw[ZH]at e2
  cases ep:ps[i]? with
  |none=>rw[ep]at e2;cases e2
  |some q=>
   rw[ep]at e2;cases e2;exact h3 i p q e1 ep
 |letb h1 h2 h3 h4=>
  refine⟨_,⟨rfl,h1,h2⟩,rfl,fun i p z e1 e2=>?_⟩;rcases i with _|_|i
  .cases e1;cases e2;exact h3
  .cases e1;cases e2;exact h4
  .exact nomatch e1
end L2
namespace L2
open PySem
end L2
namespace K4
open PySem L2
section
def W7:Sp:=fun vs H Q _=>∃(x:Str)(o:Nat),vs=[.str x,.str (alpha o)]/\(o=97\/o=65)/\1<=x.length/\x.length<=8/\(∀c∈x.cps.toList,o<=c/\c<o+26)/\∀H',Same H H'->Q (.bl true) H'
theorem LE:Yi ["text","letters"] ["text","letters"] (Yd N9):=Y2
theorem AT:List.Nodup [("sign":Str),"letters"]:=by decide +kernel
theorem IL(B:Blt mg)(F:Fun K "is_spelt" "is_spelt" N9 f fd)(hL:mg "LONGEST"=some u)(rL:RelV (.int 8) u):Yf P w K mg base CX0 (n+1) f fd ["text","letters"] W7:=by
 refine F.oq LE fun cdv A outer s H vs Q E hr h=>?_;obtain⟨x,o,rfl,ho,l1,l8,hc,q⟩:=h;refine⟨_,YY (Y0 (JH (Ve (Uc rfl B.isi rfl B.str Wm (pv 0)))) (YZ (Yh Uo)) Yl)
  (YZ (Yh (WR (F0 Uz Uz Ya (Y7 Mv rfl B.len Zu (pa1 (pv 0))) (JE rfl hL rL))
   (Xe (Y7 (Tt rfl) rfl B.all Wo (pa1 (V6 ["sign"] [1] (QF (pv 0)) (Vu (i:=0) (by decide))
    (fun cl C fp s H=>Yp 0 AT rfl (Or.inl rfl) (Or.inr rfl)) (fun cl C fp s H=>V7 EW (pv 0) (pv 1) rfl)))))))),?_⟩
 refine⟨_,_,_,_,rfl,.str x,TQ K "str",_,rfl,?_⟩;refine Yy (by simp) ?_;have ls:x.length<=sizeLine:=Zh (Yq (by omega));refine⟨x,rfl,ls,_,rfl,?_⟩;refine VE (by simp;omega) ?_;refine⟨_,rfl,?_⟩;refine VE (by simp;omega) ?_;refine⟨x,rfl,?_⟩;have lx:x.cps.size=x.length:=rfl;refine V0 x.length (Yq (by omega)) (fun i vs H'=>Same H H'/\vs=List.replicate i (V.bl true)) ⟨Z8 _,rfl⟩ (fun i vs H' z=>by rw[z.2];simp) ?_ ?_ ?_ ?_
 .intro i vs H' hi z
  exact hi
 .intro vs H' z
  exact ZG _
 .intro i vs H' v H'' R hi z yl hR
  obtain⟨rfl,c,hcc,rfl⟩:=yl;refine⟨_,_,rfl,rfl,?_⟩
  have hm:c∈x.cps.toList:=by
   have:=Array.mem_of_getElem? hcc;exact Array.mem_toList_iff.mpr this
  obtain⟨i',r',e'⟩:=Ic ho (hc c hm);have e2:Builtin.Str.occurrences (alpha o) ⟨#[c]⟩ 0 (alpha o).length 1=i'::r':=e';rw[e2];exact hR _ _ ⟨z.1,by rw[z.2,List.replicate_succ'];rfl⟩
 .intro vs H' p z hp
  refine⟨p,List.replicate x.length true,rfl,Z3 (by rw[Ye,z.2,List.map_replicate]),?_⟩;rw[show(List.replicate x.length true).all id=true by simp];exact q _ (z.1.trans (Yo hp _))
def Uu(o:Nat):Sp:=fun vs H Q _=>∃(x:Str),vs=[.str x]/\1<=x.length/\x.length<=8/\(∀c∈x.cps.toList,o<=c/\c<o+26)/\∀H',Same H H'->Q (.bl true) H'
theorem Fa:Yi ["text"] ["text"] (Yd MT):=Y2
theorem Ea(F:Fun K "is_name" "is_name" MT f fd)(G:Yf P w K mg base CX0 n g gd ["text","letters"] W7)(bG:Binds K gd ["text","letters"] [])(kG:W.keepIn K (.ref g)=true)(mG:mg "is_spelt"=some (.ref g))(hL:mg "SMALL"=some u)(rL:RelV (.str (Str.ofString "abcdefghijklmnopqrstuvwxyz")) u):Yf P w K mg base CX0 (n+1) f fd ["text"] (Uu 97):=by
 refine F.oq Fa fun cdv A outer s H vs Q E hr h=>?_;obtain⟨x,rfl,l1,l8,hc,q⟩:=h;refine⟨_,YZ (Yh (Jg G hr rfl mG kG bG .nil Y4 (pa2 (pv 0) (JE rfl hL rL)))),?_⟩;refine⟨x,97,?_,.inl rfl,l1,l8,hc,q⟩;rw[<-RK];rfl
theorem LM:Yi ["text"] ["text"] (Yd BO):=Y2
theorem IV(F:Fun K "is_tag" "is_tag" BO f fd)(G:Yf P w K mg base CX0 n g gd ["text","letters"] W7)(bG:Binds K gd ["text","letters"] [])(kG:W.keepIn K (.ref g)=true)(mG:mg "is_spelt"=some (.ref g))(hL:mg "GREAT"=some u)(rL:RelV (.str (Str.ofString "ABCDEFGHIJKLMNOPQRSTUVWXYZ")) u):Yf P w K mg base CX0 (n+1) f fd ["text"] (Uu 65):=by
 refine F.oq LM fun cdv A outer s H vs Q E hr h=>?_;obtain⟨x,rfl,l1,l8,hc,q⟩:=h;refine⟨_,YZ (Yh (Jg G hr rfl mG kG bG .nil Y4 (pa2 (pv 0) (JE rfl hL rL)))),?_⟩;refine⟨x,65,?_,.inr rfl,l1,l8,hc,q⟩;rw[<-RW];rfl
end
end K4
namespace L2
open PySem
def Xi(ks:List (Str×Shp)):Nat->Str->Nat
 |0,_=>0
 |n+1,y=>match VR ks y with
  |none=>0
  |some (.tags _)=>1
  |some (.pair a b)=>1+Xi ks n a+Xi ks n b
def JI(t:Str):Shp->Bool
 |.tags ts=>decide (t∈ts)
 |.pair _ _=>false
def V5(a b:Str):Shp->Bool
 |.tags _=>false
 |.pair c e=>decide (c=a) && decide (e=b)
def JD(ks:List (Str×Shp))(t:Str):Option Str:=(ks.find? fun k=>JI t k.2).map (·.1)
def Vz(ks:List (Str×Shp))(a b:Str):Option Str:=(ks.find? fun k=>V5 a b k.2).map (·.1)
theorem XS{α:Type}(p:α->Bool)(l:List α)(x:α):(l++[x]).find? p=(l.find? p).or (if p x=true then some x else none):=by
 rw[List.find?_append]
 congr 1
 rw[List.find?_cons];cases p x <;> simp
theorem WJ(h:z∈ks.map (·.1)):VR (ks++[x]) z=VR ks z:=by
 obtain⟨s,hs⟩:=Vl h;unfold VR at hs |-;rw[XS]
 cases e:ks.find? fun k=>decide (k.1=z)with
 |none=>rw[e]at hs;cases hs
 |some k=>rfl
theorem EK(h:z∉ks.map (·.1)):VR ks z=none:=by
 cases e:VR ks z with
 |none=>rfl
 |some s=>exact Zr (ZW.mpr ⟨_,Xs e,rfl⟩) h
theorem Gu(h:z∉ks.map (·.1)):VR (ks++[(z,s)]) z=some s:=by
 have q:=EK h;unfold VR at q |-;rw[XS]
 cases e:ks.find? fun k=>decide (k.1=z)with
 |none=>simp
 |some k=>rw[e]at q;cases q
theorem Ji(h:KK top c d ks)(x:Str×Shp):∀(n:Nat)(z:Str),z∈ks.map (·.1)->Ys (ks++[x]) n z=Ys ks n z
 |0,_,_=>rfl
 |n+1,z,hz=>by
  obtain⟨s,hs⟩:=Vl hz;rw[UO hs,UO ((WJ hz).trans hs)]
  cases s with
  |tags ts=>rfl
  |pair a b=>
   obtain⟨h1,h2,_⟩:=h.at hs;show(W.non::_)=(W.non::_);rw[Ji h x n a h1,Ji h x n b h2]
def hOf(ks:List (Str×Shp))(n:Nat):Shp->Nat
 |.tags _=>1
 |.pair a b=>1+Xi ks n a+Xi ks n b
theorem X2(h:VR ks y=some s):Xi ks (n+1) y=hOf ks n s:=by
 conv=>lhs;unfold Xi
 rw[h];cases s <;> rfl
theorem UT(h:KK top c d ks)(x:Str×Shp):∀(n:Nat)(z:Str),z∈ks.map (·.1)->Xi (ks++[x]) n z=Xi ks n z
 |0,_,_=>rfl
 |n+1,z,hz=>by
  obtain⟨s,hs⟩:=Vl hz;rw[X2 hs,X2 ((WJ hz).trans hs)]
  cases s with
  |tags ts=>rfl
  |pair a b=>
   obtain⟨h1,h2,_⟩:=h.at hs;show 1+_+_=1+_+_;rw[UT h x n a h1,UT h x n b h2]
theorem XJ(h:KK top c d ks):∀(n m:Nat)(y:Str),y∈ks.map (·.1)->d y<n->d y<m->Xi ks n y=Xi ks m y
 |0,_,_,_,h1,_=>Zr h1 (Zw _)
 |_+1,0,_,_,_,h2=>Zr h2 (Zw _)
 |n+1,m+1,y,hy,h1,h2=>by
  obtain⟨s,hs⟩:=Vl hy;have k1:=h.at hs;rw[X2 hs,X2 hs]
  cases s with
  |tags ts=>rfl
  |pair a b=>
   obtain⟨q1,q2,q3,q4,q5,q6⟩:=k1;have m1:=Nat.le_max_left (d a) (d b);have m2:=Nat.le_max_right (d a) (d b);show 1+_+_=1+_+_;rw[XJ h n m a q1 (by omega) (by omega),XJ h n m b q2 (by omega) (by omega)]
structure KA6 where
 t:Addr
 dx:Addr
 sh:Addr
 wo:Addr
 he:Addr
 pd:Addr
 tk:Addr
 pk:Addr
structure KC where
 sh:List (Key×V)
 wo:List (Key×V)
 he:List (Key×V)
 pd:List (Key×V)
 tk:List (Key×V)
 pk:List (List Key×V)
def Wf(A:KA6):List (Str×V):=[("shapes",.ref A.sh),("worths",.ref A.wo),("heights",.ref A.he),("pairs_deep",.ref A.pd),("tag_kinds",.ref A.tk),("pair_kinds",.ref A.pk)]
def KA6.ds(A:KA6):List Addr:=[A.sh,A.wo,A.he,A.pd,A.tk,A.pk]
structure KD(H:Hp)(C:Addr)(A:KA6)(S:KC):Prop where
 ins:H A.t=some (.ins C A.dx (Wf A))
 sh:H A.sh=some (.dK S.sh)
 wo:H A.wo=some (.dK S.wo)
 he:H A.he=some (.dK S.he)
 pd:H A.pd=some (.dK S.pd)
 tk:H A.tk=some (.dK S.tk)
 pk:H A.pk=some (.dT S.pk)
 nd:A.ds.Nodup
structure KR(H:Hp)(S:KC)(ks:List (Str×Shp))(d:Str->Nat):Prop where
 ke:S.sh.map (·.1)=ks.map (fun k=>Sum.inr k.1)
 sh:∀y s,VR ks y=some s->∃v,VF S.sh (Sum.inr y)=some v/\Has H v s.dat
 wo:∀y∈ks.map (·.1),∃l xs,VF S.wo (Sum.inr y)=some (.ref l)/\H l=some (.lst xs)/\HasL H xs ((Ys ks 3 y).map W.dat)
 he:∀y∈ks.map (·.1),VF S.he (Sum.inr y)=some (.int (Xi ks 3 y:Nat))
 pd:∀y∈ks.map (·.1),VF S.pd (Sum.inr y)=some (.int (d y:Nat))
 tk:∀x:Str,VF S.tk (Sum.inr x)=(JD ks x).map V.str
 pk:∀a b:Str,VF S.pk [Sum.inr a,Sum.inr b]=(Vz ks a b).map V.str
 ln:S.sh.length<=4*ks.length/\S.wo.length<=4*ks.length/\S.he.length<=4*ks.length/\S.pd.length<=4*ks.length/\S.tk.length<=4*ks.length/\S.pk.length<=4*ks.length
def KI(H:Hp)(C t:Addr)(ks:List (Str×Shp))(d:Str->Nat):Prop:=∃A S,A.t=t/\KD H C A S/\KR H S ks d
theorem KD.mono(k:KD H C A S)(e:Same H H'):KD H' C A S:=⟨e _ _ k.ins,e _ _ k.sh,e _ _ k.wo,e _ _ k.he,e _ _ k.pd,e _ _ k.tk,e _ _ k.pk,k.nd⟩
def TL(H H':Hp):Prop:=(∀b xs,H b=some (.tup xs)->H' b=some (.tup xs))/\∀b xs,H b=some (.lst xs)->H' b=some (.lst xs)
theorem Same.tl(e:Same H H'):TL H H':=⟨fun b xs h=>e _ _ h,fun b xs h=>e _ _ h⟩
theorem TL.trans(a:TL H H1)(b:TL H1 H2):TL H H2:=⟨fun c xs h=>b.1 _ _ (a.1 _ _ h),fun c xs h=>b.2 _ _ (a.2 _ _ h)⟩
mutual
theorem Has.tl{H H':Hp}(e:TL H H'):∀(d:Dat){v:V},Has H v d->Has H' v d
 |.non,_,h=>by unfold Has at h |-;exact h
 |.bl _,_,h=>by unfold Has at h |-;exact h
 |.int _,_,h=>by unfold Has at h |-;exact h
 |.str _,_,h=>by unfold Has at h |-;exact h
 |.tup ds,_,h=>by
  unfold Has at h |-;obtain⟨a,xs,h1,h2,h3⟩:=h;exact⟨a,xs,h1,e.1 _ _ h2,HasL.tl e ds h3⟩
 |.lst ds,_,h=>by
  unfold Has at h |-;obtain⟨a,xs,h1,h2,h3⟩:=h;exact⟨a,xs,h1,e.2 _ _ h2,HasL.tl e ds h3⟩
theorem HasL.tl{H H':Hp}(e:TL H H'):∀(ds:List Dat){xs:List V},HasL H xs ds->HasL H' xs ds
 |[],[],h=>by unfold HasL;trivial
 |[],_::_,h=>by unfold HasL at h;exact h.elim
 |_::_,[],h=>by unfold HasL at h;exact h.elim
 |d::ds,x::xs,h=>by
  unfold HasL at h |-;exact⟨Has.tl e d h.1,HasL.tl e ds h.2⟩
end
theorem KR.tl(k:KR H S ks d)(e:TL H H'):KR H' S ks d:=
 ⟨k.ke,fun y s h=>let⟨v,h1,h2⟩:=k.sh y s h;⟨v,h1,Has.tl e _ h2⟩,fun y h=>let⟨l,xs,h1,h2,h3⟩:=k.wo y h;⟨l,xs,h1,e.2 _ _ h2,HasL.tl e _ h3⟩,k.he,k.pd,k.tk,k.pk,k.ln⟩
theorem KI.mono(k:KI H C t ks d)(e:Same H H'):KI H' C t ks d:=by
 obtain⟨A,S,h1,h2,h3⟩:=k;exact⟨A,S,h1,h2.mono e,h3.tl e.tl⟩
theorem US(x:Str)(ts:List Str):inV (.str x) (ts.map V.str)=decide (x∈ts):=by
 induction ts with
 |nil=>rfl
 |cons t ts ih=>
  have e:inV (.str x) ((t::ts).map V.str)=((t==x) || inV (.str x) (ts.map V.str)):=rfl;rw[e,ih]
  by_cases h:t=x
  .subst h;simp
  .have h':¬x=t:=fun q=>h q.symm
   simp[h,h']
theorem Js(ts:List Str):(ts.map V.str).all X5=true:=by
 induction ts with
 |nil=>rfl
 |cons t ts ih=>simp only[ZV,List.all_cons,ih];rfl
structure KCl(K:W.Frag)(C:Addr):Prop where
 cl:Cls K C
 sh:VH K C "shapes"
 wo:VH K C "worths"
 he:VH K C "heights"
 pd:VH K C "pairs_deep"
 tk:VH K C "tag_kinds"
 pk:VH K C "pair_kinds"
theorem Mq(A:KA6):(Wf A).lookup ("shapes":Str)=some (V.ref A.sh):=rfl
theorem KY(A:KA6):(Wf A).lookup ("worths":Str)=some (V.ref A.wo):=rfl
theorem OP(A:KA6):(Wf A).lookup ("heights":Str)=some (V.ref A.he):=rfl
theorem OO(A:KA6):(Wf A).lookup ("pairs_deep":Str)=some (V.ref A.pd):=rfl
theorem Qs(A:KA6):(Wf A).lookup ("tag_kinds":Str)=some (V.ref A.tk):=rfl
theorem Qt(A:KA6):(Wf A).lookup ("pair_kinds":Str)=some (V.ref A.pk):=rfl
theorem WI(k:KD H C A S)(r:KR H S ks d)(h:VR ks y=some s):∃v,Vh H A.sh (.str y) (some v)/\Has H v s.dat:=by
 obtain⟨v,h1,h2⟩:=r.sh y s h;exact⟨v,by rw[<-h1];exact Vh.k (k:=Sum.inr y) k.sh,h2⟩
end L2
namespace K4
open PySem L2
section
variable{f g C:Addr}
def XA(C:Addr):Sp:=fun vs H Q _=>∃(t:Addr)(ks:List (Str×Shp))(d:Str->Nat),vs=[.ref t]/\KI H C t ks d/\∀l H',Same H H'->H l=none->H' l=some (.lst (ks.map fun k=>V.str k.1))->Q (.ref l) H'
theorem LH:Yi ["self"] ["self"] (Yd BG):=Y2
theorem IO(B:Blt mg)(T:KCl K C)(F:Fun K "names" "Kinds.names" BG f fd):Yf P w K mg base CX0 (n+1) f fd ["self"] (XA C):=by
 refine F.oq LH fun cdv A outer s H vs Q E hr h=>?_;obtain⟨t,ks,d,rfl,⟨A',S,rfl,kd,kr⟩,q⟩:=h;refine⟨_,YZ (Yh (VL (U7 rfl) rfl B.list JC (pa1 (Yz (pv 0) rfl)))),?_⟩;refine⟨C,_,_,_,kd.ins,T.cl,T.sh,Mq _,_,_,rfl,kd.sh,fun l hl=>?_⟩;refine q l _ (Yo hl _) hl ?_;rw[Ye];have e:(S.sh.map fun kv=>kV kv.1)=(S.sh.map (·.1)).map kV:=by rw[List.map_map];rfl
 rw[e,kr.ke,List.map_map]
 rfl
def U9(C:Addr):Sp:=fun vs H Q _=>∃(t:Addr)(ks:List (Str×Shp))(d:Str->Nat)(y:Str)(s:Shp),vs=[.ref t,.str y]/\KI H C t ks d/\VR ks y=some s/\∀v,Has H v s.dat->Q v H
theorem EM:Yi ["self","kind"] ["self","kind"] (Yd Gv):=Y2
theorem Bj(T:KCl K C)(F:Fun K "shape_of" "Kinds.shape_of" Gv f fd):Yf P w K mg base CX0 (n+1) f fd ["self","kind"] (U9 C):=by
 refine F.oq EM fun cdv A outer s H vs Q E hr h=>?_;obtain⟨t,ks,d,y,s,rfl,⟨A',S,rfl,kd,kr⟩,hs,q⟩:=h;have hu:=JF hr;obtain⟨v,h1,h2⟩:=WI kd kr hs;refine⟨_,YZ (Yh (Vc hu (Yz (pv 0) rfl) (pv 1) (fun _ _=>rfl))),?_⟩;exact⟨C,_,_,_,kd.ins,T.cl,T.sh,Mq _,v,h1,q v h2⟩
def Gq(C:Addr):Sp:=fun vs H Q _=>∃(t:Addr)(ks:List (Str×Shp))(d:Str->Nat)(x:Str),vs=[.ref t,.str x]/\KI H C t ks d/\Q (((JD ks x).map V.str).getD .non) H
theorem FZ:Yi ["self","tag"] ["self","tag"] (Yd MS):=Y2
theorem EZ(T:KCl K C)(F:Fun K "kind_of_tag" "Kinds.kind_of_tag" MS f fd):Yf P w K mg base CX0 (n+1) f fd ["self","tag"] (Gq C):=by
 refine F.oq FZ fun cdv A outer s H vs Q E hr h=>?_;obtain⟨t,ks,d,x,rfl,⟨A',S,rfl,kd,kr⟩,q⟩:=h;have hu:=JF hr;refine⟨_,YZ (Yh (TH hu (Yz (pv 0) rfl) (pv 1) ⟨rfl,rfl,rfl,rfl⟩)),?_⟩;exact⟨C,_,_,_,kd.ins,T.cl,T.tk,Qs _,.inl ⟨_,.inl kd.tk⟩,_,by rw[<-kr.tk x];exact Vh.k (k:=Sum.inr x) kd.tk,q⟩
def WH(C:Addr):Sp:=fun vs H Q _=>∃(t:Addr)(ks:List (Str×Shp))(d:Str->Nat)(a b:Str),vs=[.ref t,.str a,.str b]/\KI H C t ks d/\∀H',Same H H'->Q (((Vz ks a b).map V.str).getD .non) H'
theorem EN:Yi ["self","one","other"] ["self","one","other"] (Yd Gx):=Y2
theorem Bm(T:KCl K C)(F:Fun K "kind_of_pair" "Kinds.kind_of_pair" Gx f fd):Yf P w K mg base CX0 (n+1) f fd ["self","one","other"] (WH C):=by
 refine F.oq EN fun cdv A outer s H vs Q E hr h=>?_;obtain⟨t,ks,d,a,b,rfl,⟨A',S,rfl,kd,kr⟩,q⟩:=h;have hu:=JF hr;refine⟨_,YZ (Yh (TH hu (Yz (pv 0) rfl) (Yt (pa2 (pv 1) (pv 2))) ⟨rfl,rfl,rfl,rfl⟩)),?_⟩;refine⟨C,_,_,_,kd.ins,T.cl,T.pk,Qt _,.inr ⟨_,.inl kd.pk⟩,sl 2,fun p hp=>?_⟩;have s1:=Yo hp (.tup [.str a,.str b]);exact⟨_,by rw[<-kr.pk a b];exact Vh.t (k:=[Sum.inr a,Sum.inr b]) (s1 _ _ kd.pk) Ye,q _ s1⟩
def Ju(C:Addr):Sp:=fun vs H Q _=>∃(t:Addr)(ks:List (Str×Shp))(d:Str->Nat)(y:Str),vs=[.ref t,.str y]/\KI H C t ks d/\y∈ks.map (·.1)/\
 ∀l xs H',Same H H'->H l=none->H' l=some (.lst xs)->HasL H' xs ((Ys ks 3 y).map W.dat)->Q (.ref l) H'
theorem N5:Yi ["self","kind"] ["self","kind"] (Yd WM):=Y2
theorem NN(B:Blt mg)(T:KCl K C)(F:Fun K "worths_of" "Kinds.worths_of" WM f fd):Yf P w K mg base CX0 (n+1) f fd ["self","kind"] (Ju C):=by
 refine F.oq N5 fun cdv A outer s H vs Q E hr h=>?_;obtain⟨t,ks,d,y,rfl,⟨A',S,rfl,kd,kr⟩,hy,q⟩:=h;have hu:=JF hr;obtain⟨l,xs,h1,h2,h3⟩:=kr.wo y hy;refine⟨_,YZ (Yh (VL Jr rfl B.list JC (pa1 (Vc hu (Yz (pv 0) rfl) (pv 1) (fun _ _=>rfl))))),?_⟩;refine⟨C,_,_,_,kd.ins,T.cl,T.wo,KY _,_,by rw[<-h1];exact Vh.k (k:=Sum.inr y) kd.wo,l,xs,rfl,.inl (Z3 h2),fun r hr'=>?_⟩;have s1:=Yo hr' (.lst xs);exact q r xs _ s1 hr' Ye (h3.mono s1)
end
end K4
namespace L2
open PySem
def KFr(A:KA6)(H H':Hp):Prop:=∀b o,b∉A.ds->H b=some o->H' b=some o
theorem KFr.refl(A:KA6)(H:Hp):KFr A H H:=fun _ _ _ h=>h
theorem KFr.trans(a:KFr A H H1)(b:KFr A H1 H2):KFr A H H2:=fun c o hc h=>b c o hc (a c o hc h)
theorem Same.kfr(e:Same H H'):KFr A H H':=fun b o _ h=>e b o h
theorem KFr.put(a:KFr A H H')(hx:x∈A.ds)(o:HO):KFr A H (upd H' x o):=fun b u hb h=>by
 have ne:b≠x:=fun z=>by rw[z]at hb;exact hb hx
 rw[Yg ne];exact a b u hb h
theorem KFr.tl(a:KFr A H H')(k:KD H C A S):TL H H':=by
 have no:∀b u,H b=some u->(∀l,u≠.dK l)->(∀l,u≠.dT l)->b∉A.ds:=fun b u hb n1 n2 hm=>by
  simp only[KA6.ds,Zd,List.not_mem_nil,or_false]at hm;rcases hm with z|z|z|z|z|z
  .rw [z,k.sh]at hb;exact n1 _ (ZT hb).symm
  .rw [z,k.wo]at hb;exact n1 _ (ZT hb).symm
  .rw [z,k.he]at hb;exact n1 _ (ZT hb).symm
  .rw [z,k.pd]at hb;exact n1 _ (ZT hb).symm
  .rw [z,k.tk]at hb;exact n1 _ (ZT hb).symm
  .rw [z,k.pk]at hb;exact n2 _ (ZT hb).symm
 exact⟨fun b xs h=>a b _ (no b _ h (fun l=>by intro z;cases z) (fun l=>by intro z;cases z)) h,fun b xs h=>a b _ (no b _ h (fun l=>by intro z;cases z) (fun l=>by intro z;cases z)) h⟩
theorem KA6.apart{A:KA6}(n:A.ds.Nodup):(A.sh≠A.wo/\A.sh≠A.he/\A.sh≠A.pd/\A.sh≠A.tk/\A.sh≠A.pk)/\(A.wo≠A.he/\A.wo≠A.pd/\A.wo≠A.tk/\A.wo≠A.pk)/\(A.he≠A.pd/\A.he≠A.tk/\A.he≠A.pk)/\(A.pd≠A.tk/\A.pd≠A.pk)/\A.tk≠A.pk:=by
 simpa[KA6.ds]using n
section
theorem KD.put_sh(k:KD H C A S)(l:List (Key×V)):KD (upd H A.sh (.dK l)) C A {S with sh:=l}:=by
 obtain⟨⟨n1,n2,n3,n4,n5⟩,_⟩:=KA6.apart k.nd;exact⟨(Yg (JR k.ins k.sh (by intro z;cases z))).trans k.ins,Ye,(Yg n1.symm).trans k.wo,(Yg n2.symm).trans k.he,(Yg n3.symm).trans k.pd,(Yg n4.symm).trans k.tk,(Yg n5.symm).trans k.pk,k.nd⟩
theorem KD.put_wo(k:KD H C A S)(l:List (Key×V)):KD (upd H A.wo (.dK l)) C A {S with wo:=l}:=by
 obtain⟨⟨n1,_⟩,⟨n2,n3,n4,n5⟩,_⟩:=KA6.apart k.nd;exact⟨(Yg (JR k.ins k.wo (by intro z;cases z))).trans k.ins,(Yg n1).trans k.sh,Ye,(Yg n2.symm).trans k.he,(Yg n3.symm).trans k.pd,(Yg n4.symm).trans k.tk,(Yg n5.symm).trans k.pk,k.nd⟩
theorem KD.put_he(k:KD H C A S)(l:List (Key×V)):KD (upd H A.he (.dK l)) C A {S with he:=l}:=by
 obtain⟨⟨_,n1,_⟩,⟨n2,_⟩,⟨n3,n4,n5⟩,_⟩:=KA6.apart k.nd;exact⟨(Yg (JR k.ins k.he (by intro z;cases z))).trans k.ins,(Yg n1).trans k.sh,(Yg n2).trans k.wo,Ye,(Yg n3.symm).trans k.pd,(Yg n4.symm).trans k.tk,(Yg n5.symm).trans k.pk,k.nd⟩
theorem KD.put_pd(k:KD H C A S)(l:List (Key×V)):KD (upd H A.pd (.dK l)) C A {S with pd:=l}:=by
 obtain⟨⟨_,_,n1,_⟩,⟨_,n2,_⟩,⟨n3,_⟩,⟨n4,n5⟩,_⟩:=KA6.apart k.nd;exact⟨(Yg (JR k.ins k.pd (by intro z;cases z))).trans k.ins,(Yg n1).trans k.sh,(Yg n2).trans k.wo,(Yg n3).trans k.he,Ye,(Yg n4.symm).trans k.tk,(Yg n5.symm).trans k.pk,k.nd⟩
theorem KD.put_tk(k:KD H C A S)(l:List (Key×V)):KD (upd H A.tk (.dK l)) C A {S with tk:=l}:=by
 obtain⟨⟨_,_,_,n1,_⟩,⟨_,_,n2,_⟩,⟨_,n3,_⟩,⟨n4,_⟩,n5⟩:=KA6.apart k.nd;exact⟨(Yg (JR k.ins k.tk (by intro z;cases z))).trans k.ins,(Yg n1).trans k.sh,(Yg n2).trans k.wo,(Yg n3).trans k.he,(Yg n4).trans k.pd,Ye,(Yg n5.symm).trans k.pk,k.nd⟩
theorem KD.put_pk(k:KD H C A S)(l:List (List Key×V)):KD (upd H A.pk (.dT l)) C A {S with pk:=l}:=by
 obtain⟨⟨_,_,_,_,n1⟩,⟨_,_,_,n2⟩,⟨_,_,n3⟩,⟨_,n4⟩,n5⟩:=KA6.apart k.nd;exact⟨(Yg (JR k.ins k.pk (by intro z;cases z))).trans k.ins,(Yg n1).trans k.sh,(Yg n2).trans k.wo,(Yg n3).trans k.he,(Yg n4).trans k.pd,(Yg n5).trans k.tk,Ye,k.nd⟩
end
theorem UK{α:Type}{l:List α}{x a:α}(h:l[i]?=some a):x∈l.take (i+1)↔x∈l.take i\/x=a:=by
 rw[take_snoc h,ZX,ZQ]
end L2
namespace K4
open PySem L2
section
variable{f g C:Addr}
def N1(C:Addr):Sp:=fun vs H Q _=>∃(A:KA6)(S:KC)(y:Str)(l:Addr)(ts:List Str),vs=[.ref A.t,.str y,.ref l]/\KD H C A S/\H l=some (.tup (ts.map V.str))/\1<=ts.length/\ts.length<=4/\Wds 65 ts/\(∀x∈ts,VF S.tk (Sum.inr x)=none)/\
 S.tk.length<=100/\S.wo.length<=100/\S.he.length<=100/\S.pd.length<=100/\
 ∀H' tk' r,KFr A H H'->KD H' C A ⟨S.sh,putK S.wo (Sum.inr y) (.ref r),putK S.he (Sum.inr y) (.int 1),putK S.pd (Sum.inr y) (.int 0),tk',S.pk⟩->
  (∀x:Str,VF tk' (Sum.inr x)=if x∈ts then some (.str y)else VF S.tk (Sum.inr x))->tk'.length<=S.tk.length+4->H' r=some (.lst (.non::ts.map V.str))->Q .non H'
theorem FW:Yi ["self","name","tags","tag"] ["self","name","tags"] (Yd Fi):=Y2
theorem Lq(B:Blt mg)(T:KCl K C)(F:Fun K "take_tags" "Kinds.take_tags" Fi f fd)(hM:mg "MOST_TAGS"=some u)(rM:RelV (.int 4) u)(G:Yf P w K mg base CX0 n g gd ["text"] (Uu 65))(bG:Binds K gd ["text"] [])(kG:W.keepIn K (.ref g)=true)(mG:mg "is_tag"=some (.ref g)):Yf P w K mg base CX0 (n+1) f fd ["self","name","tags"] (N1 C):=by
 refine F.oq FW fun cdv A outer s H vs Q E hr h=>?_;obtain⟨A',S,y,l,ts,rfl,kd,hl,l1,l4,wt,tn,b1,b2,b3,b4,q⟩:=h;have hu:=JF hr;refine⟨_,YY (Y0 (JH (Xy Uz Uz Ya (Y7 Y3 rfl B.len Zu (pa1 (pv 2))) (JE rfl hM rM))) (YZ V8) Yl)
  (YY (V1 Zv rfl (JV (pv 2)) (Yp 3 FW.nd)
   (YY (Y0 (JH (Ve (Jg G hr rfl mG kG bG .nil Y4 (pa1 (pv 3))))) (YZ V8) Yl)
   (YY (Y0 (Jx (Uy hu (pv 3) (Yz (pv 0) rfl))) (YZ V8) Yl)
   (YZ (Vt hu (Yz (pv 0) rfl) (pv 3) (pv 1) rfl)))))
  (YY (Vt hu (Yz (pv 0) rfl) (pv 1) (VB TJ (Vg (pa1 VI)) (VL Jr rfl B.list JC (pa1 (pv 2)))) rfl)
  (YY (Vt hu (Yz (pv 0) rfl) (pv 1) Ya rfl)
  (YZ (Vt hu (Yz (pv 0) rfl) (pv 1) Ya rfl))))),?_⟩
 show let a:=_;let b:=Yk _ a;let c:=Yk _ b;let d:=_;let e:=_;let f:=Yk (VC _ e _) d;let g:=_;let h:=Yk (VC _ g _) f;let i:=Yk (UH _ _ h) c;let j:=_;Yk (VC _ j _) i _ _ _
 intros
 have lt:(ts.map V.str).length=ts.length:=ZA _;refine⟨l,_,rfl,.inr (Z2 hl),_,rfl,?_⟩;refine VE (by simp;omega) ?_;refine⟨_,rfl,?_⟩;refine Yy (by simp;omega) ?_;refine⟨⟨_,Z2 hl⟩,?_⟩
 let I:Nat->St->Hp->Prop:=fun i U H'=>KFr A' H H'/\∃tk' z,KD H' C A' {S with tk:=tk'}/\(∀x:Str,VF tk' (Sum.inr x)=if x∈ts.take i then some (.str y)else VF S.tk (Sum.inr x))/\tk'.length<=S.tk.length+i/\H' l=some (.tup (ts.map V.str))/\
  U=[some (.ref A'.t),some (.str y),some (.ref l),z]
 refine Tg (xs:=ts.map V.str) I ⟨KFr.refl _ _,S.tk,_,kd,fun x=>by simp,ZG _,hl,rfl⟩ ?_ ?_ ?_
 .rintro i U H' _ ⟨_,tk',z,_,_,_,hl',_⟩
  exact Z2 hl'
 .rintro BB RR i v U H' hv ⟨fr,tk',z,kd',tv,tl,hl',rfl⟩
  rw[ZH]at hv
  cases hx:ts[i]? with
  |none=>rw[hx]at hv;cases hv
  |some x=>
   rw[hx]at hv;cases hv;have mx:x∈ts:=ZJ hx
   have nx:x∉ts.take i:=fun hm=>by
    have q':(ts.take i++[x]).Nodup:=by rw[<-take_snoc hx];exact wt.nd.sublist (List.take_sublist _ _)
    exact(List.nodup_append.mp q').2.2 x hm x (by simp) rfl
   have ilt:=(ZF.mp hx).1;obtain⟨w1,w8⟩:=wt.len x mx;refine⟨x,rfl,w1,w8,wt.abc x mx,fun H2 s2=>⟨_,rfl,?_⟩⟩;refine Yy (by simp) ?_;have kd2:=kd'.mono s2
   have gx:Vh H2 A'.tk (.str x) none:=by
    have e:=tv x;rw[Zq nx,tn x mx]at e;rw[<-e];exact Vh.k (k:=Sum.inr x) kd2.tk
   refine⟨C,_,_,_,kd2.ins,T.cl,T.tk,Qs _,_,gx,_,rfl,?_⟩;refine Yy (by simp) ?_;refine⟨C,_,_,_,kd2.ins,T.cl,T.tk,Qs _,_,J5.k (k:=Sum.inr x) kd2.tk (Yq (by show tk'.length<=1000;omega)),?_⟩;have hl2:=s2 _ _ hl';refine⟨(fr.trans s2.kfr).put (by simp[KA6.ds]) _,putK tk' (Sum.inr x) (.str y),_,kd2.put_tk _,fun x'=>?_,?_,?_,rfl⟩
   .rw [Jt]
    by_cases e:x'=x
    .subst e
     rw[Zp rfl,Zp ((UK hx).mpr (.inr rfl))]
    .rw [Zq (fun z=>e (Sum.inr.inj z)),tv x']
     have:(x'∈ts.take (i+1))↔x'∈ts.take i:=⟨fun z=>((UK hx).mp z).resolve_right e,fun z=>(UK hx).mpr (.inl z)⟩
     by_cases m:x'∈ts.take i
     .rw [Zp m,Zp (this.mpr m)]
     .rw [Zq m,Zq (fun z=>m (this.mp z))]
   .have:=Vn tk' (Sum.inr x) (.str y);omega
   .rw [Yg (JR hl2 kd2.tk (by intro z;cases z))];exact hl2
 .rintro U H' ⟨fr,tk',z,kd',tv,tl,hl',rfl⟩
  rw[lt]at tl;rw[Zg (by omega)]at tv;refine⟨sl 1,fun p1 hp1=>⟨l,_,rfl,.inr (Z2 ((Yo hp1 _) _ _ hl')),fun p2 hp2=>?_⟩⟩;refine⟨p1,p2,_,_,rfl,rfl,(Yg (Yc Ye hp2)).trans Ye,Ye,Zh (Yq (by simp;omega)),fun p3 hp3=>?_⟩;have sx:Same H' _:=((Yo hp1 (.lst [V.non])).trans (Yo hp2 (.lst (ts.map V.str)))).trans (Yo hp3 (.lst ([V.non]++ ts.map V.str)));have hp:upd (upd (upd H' p1 (.lst [V.non])) p2 (.lst (ts.map V.str))) p3 (.lst ([V.non]++ ts.map V.str)) p3=some (.lst (.non::ts.map V.str)):=Ye;generalize upd (upd (upd H' p1 (.lst [V.non])) p2 (.lst (ts.map V.str))) p3 (.lst ([V.non]++ ts.map V.str))=H2 at sx hp |-;have kd2:=kd'.mono sx;refine⟨C,_,_,_,kd2.ins,T.cl,T.wo,KY _,_,J5.k (k:=Sum.inr y) kd2.wo (Yq (by show S.wo.length<=1000;omega)),?_⟩;have kd3:=kd2.put_wo (putK S.wo (Sum.inr y) (.ref p3));have hp':upd H2 A'.wo (.dK (putK S.wo (Sum.inr y) (.ref p3))) p3=some (.lst (.non::ts.map V.str)):=by rw[Yg (JR hp kd2.wo (by intro z;cases z))];exact hp
  refine⟨C,_,_,_,kd3.ins,T.cl,T.he,OP _,_,J5.k (k:=Sum.inr y) kd3.he (Yq (by show S.he.length<=1000;omega)),?_⟩;have kd4:=kd3.put_he (putK S.he (Sum.inr y) (.int 1));refine⟨C,_,_,_,kd4.ins,T.cl,T.pd,OO _,_,J5.k (k:=Sum.inr y) kd4.pd (Yq (by show S.pd.length<=1000;omega)),?_⟩;have kd5:=kd4.put_pd (putK S.pd (Sum.inr y) (.int 0));refine q _ tk' p3 ?_ kd5 tv (by omega) ?_
  .exact ((((fr.trans sx.kfr).put (by simp[KA6.ds]) _).put (by simp[KA6.ds]) _).put (by simp[KA6.ds]) _)
  .have h3:=hp'
   have h4:upd (upd H2 A'.wo (.dK (putK S.wo (Sum.inr y) (.ref p3)))) A'.he (.dK (putK S.he (Sum.inr y) (.int 1))) p3=some (.lst (.non::ts.map V.str)):=by rw[Yg (JR h3 kd3.he (by intro z;cases z))];exact h3
   rw[Yg (JR h4 kd4.pd (by intro z;cases z))];exact h4
end
end K4
namespace L2
open PySem
structure Pt(H:Hp)(S:KC)(e:Str)(us:List W)(h p:Nat):Prop where
 sh:(VF S.sh (Sum.inr e)).isSome=true
 wo:∃l xs,VF S.wo (Sum.inr e)=some (.ref l)/\H l=some (.lst xs)/\HasL H xs (us.map W.dat)
 he:VF S.he (Sum.inr e)=some (.int h)
 pd:VF S.pd (Sum.inr e)=some (.int p)
end L2
namespace K4
open PySem L2
section
variable{f g C:Addr}
def Ry(C:Addr):Sp:=fun vs H Q _=>∃(A:KA6)(S:KC)(y e g:Str)(us vs':List W)(he hg pe pg:Nat),vs=[.ref A.t,.str y,.str e,.str g]/\KD H C A S/\Pt H S e us he pe/\Pt H S g vs' hg pg/\VF S.pk [Sum.inr e,Sum.inr g]=none/\
 1+max pe pg<=2/\1+us.length*vs'.length<=30/\us.length<=30/\vs'.length<=30/\S.pk.length<=100/\S.wo.length<=100/\S.he.length<=100/\S.pd.length<=100/\e≠y/\g≠y/\
 ∀H' r,KFr A H H'->KD H' C A ⟨S.sh,putK S.wo (Sum.inr y) (.ref r),putK S.he (Sum.inr y) (.int (1+he+hg:Nat)),putK S.pd (Sum.inr y) (.int (1+max pe pg:Nat)),S.tk,putK S.pk [Sum.inr e,Sum.inr g] (.str y)⟩->
  (∃xs,H' r=some (.lst xs)/\HasL H' xs ((W.non::us.flatMap fun u=>vs'.map fun v=>W.pair u v).map W.dat))->Q .non H'
theorem ML:Yi ["self","name","one","other","deep","worths"] ["self","name","one","other"] (Yd BF):=Y2
theorem O5:List.Nodup [("first":Str),"second","self","other"]:=by decide +kernel
theorem IN(B:Blt mg)(T:KCl K C)(F:Fun K "take_pair" "Kinds.take_pair" BF f fd)(hM:mg "MOST_PAIRS_DEEP"=some u1)(rM:RelV (.int 2) u1)(hM2:mg "MOST_WORTHS"=some u2)(rM2:RelV (.int 30) u2):
  Yf P w K mg base CX0 (n+1) f fd ["self","name","one","other"] (Ry C):=by
 refine F.oq ML fun cdv A outer s H vs Q E hr h=>?_;obtain⟨A',S,y,e,g,us,vs',he,hg,pe,pg,rfl,kd,pte,ptg,pn,d2,c30,ul,vl,b0,b1,b2,b3,ney,ngy,q⟩:=h;have hu:=JF hr;refine⟨_,YY (Y0 (PW.pt (UQ (Jx (WT hu (pv 2) (Yz (pv 0) rfl))) (Jl (Jx (WT hu (pv 3) (Yz (pv 0) rfl)))))) (YZ V8) Yl)
  (YY (Y0 (Jx (Uy hu (Yt (pa2 (pv 2) (pv 3))) (Yz (pv 0) rfl))) (YZ V8) Yl)
  (YY (Yu 4 ML.nd (VB V9 Ya (Y7 (Es rfl) rfl B.max Eu (pa2 (Vc hu (Yz (pv 0) rfl) (pv 2) (fun _ _=>rfl)) (Vc hu (Yz (pv 0) rfl) (pv 3) (fun _ _=>rfl))))))
  (YY (Y0 (Yn X1 (pv 4) (JE rfl hM rM) (Yv _)) (YZ V8) Yl)
  (YY (Yu 5 ML.nd (VB TJ (Vg (pa1 VI)) (Lh (wi2:=Iy K (Oo (Pb K (Nx 2) "worths") (Nx 3))) [0,3] (JL (Vc hu (Yz (pv 0) rfl) (pv 2) (fun _ _=>rfl)))
    (fun cl C fp s H=>Yp 0 O5 rfl (Or.inl rfl) (Or.inr rfl)) (fun cl C fp s H=>JL (Vc hu (Yz (pv 2) rfl) (pv 3) (fun _ _=>rfl))) (fun cl C fp s H=>Yp 1 O5 rfl (Or.inl rfl) (Or.inr rfl))
    (fun cl C fp s H=>Yt (pa2 (pv 0) (pv 1))))))
  (YY (Y0 (Yn X1 (Y7 Y3 rfl B.len Zu (pa1 (pv 5))) (JE rfl hM2 rM2) (Yv _)) (YZ V8) Yl)
  (YY (Vt hu (Yz (pv 0) rfl) (Yt (pa2 (pv 2) (pv 3))) (pv 1) rfl)
  (YY (Vt hu (Yz (pv 0) rfl) (pv 1) (pv 5) rfl)
  (YY (Vt hu (Yz (pv 0) rfl) (pv 1) (VB V9 (VB V9 Ya (Vc hu (Yz (pv 0) rfl) (pv 2) (fun _ _=>rfl))) (Vc hu (Yz (pv 0) rfl) (pv 3) (fun _ _=>rfl))) rfl)
  (YZ (Vt hu (Yz (pv 0) rfl) (pv 1) (pv 4) rfl)))))))))),?_⟩
 show let a:=_;let b:=Yk _ a;let c:=Yk _ b;let d:=Yk _ c;let e:=_;let f:=Yk (VC _ e _) d;let g:=Yk _ f;let h:=_;let i:=Yk (VC _ h _) g;let j:=Yk _ i;let k:=_;let l:=Yk (VC _ k _) j;let m:=_;Yk (VC _ m _) l _ _ _
 intros
 have fl:∀{H2:Hp},KD H2 C A' S->H2 A'.t=some (.ins C A'.dx (Wf A')):=fun k=>k.ins;have ge:Vh H A'.sh (.str e) (VF S.sh (Sum.inr e)):=Vh.k (k:=Sum.inr e) kd.sh;have gg:Vh H A'.sh (.str g) (VF S.sh (Sum.inr g)):=Vh.k (k:=Sum.inr g) kd.sh;refine⟨C,_,_,_,kd.ins,T.cl,T.sh,Mq _,_,ge,_,rfl,?_⟩;refine Yy (by rw[pte.sh];simp) ?_;refine⟨C,_,_,_,kd.ins,T.cl,T.sh,Mq _,_,gg,_,rfl,?_⟩;refine Yy (by rw[ptg.sh];simp) ?_;refine⟨sl 2,fun p1 hp1=>?_⟩;refine up_in hp1 _ fun H1 s1 h1=>?_;have kd1:=kd.mono s1;have gp:Vh H1 A'.pk (.ref p1) none:=by rw[<-pn];exact Vh.t (k:=[Sum.inr e,Sum.inr g]) kd1.pk h1
 refine⟨C,_,_,_,kd1.ins,T.cl,T.pk,Qt _,_,gp,_,rfl,?_⟩;refine Yy (by simp) ?_;refine⟨C,_,_,_,kd1.ins,T.cl,T.pd,OO _,_,by rw[<-pte.pd];exact Vh.k (k:=Sum.inr e) kd1.pd,?_⟩;refine⟨C,_,_,_,kd1.ins,T.cl,T.pd,OO _,_,by rw[<-ptg.pd];exact Vh.k (k:=Sum.inr g) kd1.pd,_,_,rfl,?_⟩
 have em:(1+(if(pg:Int) > (pe:Int)then(pg:Int)else(pe:Int)))=((1+max pe pg:Nat):Int):=by
  by_cases z:pe<pg
  .rw [Zp (by omega),Nat.max_eq_right (Zh z)];omega
  .rw [Zq (by omega),Nat.max_eq_left (by omega)];omega
 dsimp only[Vo,rI0,Ui];rw[em];refine⟨_,rfl,?_⟩;refine Yy (by simp;omega) ?_;obtain⟨l1,xs1,w1,w2,w3⟩:=pte.wo;obtain⟨l2,xs2,v1,v2,v3⟩:=ptg.wo;have lx1:=w3.length;have lx2:=v3.length;rw[ZA]at lx1 lx2;refine⟨sl 1,fun p2 hp2=>?_⟩;refine up_in hp2 _ fun H2 s2 h2=>?_;have kd2:=kd1.mono s2;have s02:=s1.trans s2;refine⟨C,_,_,_,kd2.ins,T.cl,T.wo,KY _,.ref l1,by rw[<-w1];exact Vh.k (k:=Sum.inr e) kd2.wo,⟨xs1,Z3 (s02 _ _ w2)⟩,?_⟩;refine Tq xs1.length (fun i zs H'=>Same H2 H'/\zs.length=i*vs'.length/\i<=us.length/\HasL H' zs (((us.take i).flatMap fun u=>vs'.map fun v=>W.pair u v).map W.dat)) ⟨Z8 _,by simp,Zc _,by rw[List.take_zero];exact Z6⟩
  (fun i zs H' z=>Yq (by rw[z.2.1];have:i*vs'.length<=us.length*vs'.length:=Nat.mul_le_mul_right _ z.2.2.1;omega)) ?_ ?_ ?_ ?_
 .intro i zs H' hi z
  exact⟨xs1,xs1[i],Z3 ((s02.trans z.1) _ _ w2),by simp[hi]⟩
 .intro zs H' z
  exact⟨xs1,Z3 ((s02.trans z.1) _ _ w2),ZG _⟩
 .intro i zs H' x H'' R hi z yl hR
  obtain⟨rfl,yy⟩:=yl;have sz:=s02.trans z.1;obtain⟨dx,hdx,hhx⟩:=w3.get (yy xs1 (Z3 (sz _ _ w2)));rw[ZH]at hdx
  cases hu1:us[i]? with
  |none=>rw[hu1]at hdx;cases hdx
  |some u=>
   rw[hu1]at hdx;cases hdx;have kdz:=kd.mono sz;refine⟨C,_,_,_,kdz.ins,T.cl,T.wo,KY _,.ref l2,by rw[<-v1];exact Vh.k (k:=Sum.inr g) kdz.wo,⟨xs2,Z3 (sz _ _ v2)⟩,?_⟩;refine NX xs2.length (fun j ws H3=>Same H'' H3/\ws.length=i*vs'.length+j/\j<=vs'.length/\HasL H3 ws (((us.take i).flatMap fun u=>vs'.map fun v=>W.pair u v).map W.dat++ ((vs'.take j).map fun v=>W.pair u v).map W.dat)) ⟨Z8 _,by rw[z.2.1];rfl,Zc _,by rw[List.take_zero,List.map_nil,List.map_nil,List.append_nil];exact z.2.2.2⟩
    (fun j ws H3 y3=>Yq (by
     rw[y3.2.1];have:(i+1)*vs'.length<=us.length*vs'.length:=Nat.mul_le_mul_right _ (by omega);rw[Nat.succ_mul]at this;have:=y3.2.2.1;omega)) ?_ ?_ ?_ ?_
   .intro j ws H3 hj y3
    exact⟨xs2,xs2[j],Z3 ((sz.trans y3.1) _ _ v2),by simp[hj]⟩
   .intro ws H3 y3
    exact⟨xs2,Z3 ((sz.trans y3.1) _ _ v2),ZG _⟩
   .intro j ws H3 x2 H4 T2 hj y3 yl2 hT
    obtain⟨rfl,yy2⟩:=yl2;have s3:=sz.trans y3.1;obtain⟨dz,hdz,hhz⟩:=v3.get (yy2 xs2 (Z3 (s3 _ _ v2)));rw[ZH]at hdz
    cases hv1:vs'[j]? with
    |none=>rw[hv1]at hdz;cases hdz
    |some v=>
     rw[hv1]at hdz;cases hdz;refine⟨sl 2,fun t ht=>hT _ _ ?_⟩;have st:=Yo ht (.tup [x,x2]);refine⟨y3.1.trans st,by rw[ZL,y3.2.1];rfl,(ZF.mp hv1).1,?_⟩;rw[take_snoc hv1,ZK,ZK,<-List.append_assoc];refine Z7 (y3.2.2.2.mono st) (Z5 ?_);unfold W.dat Has;exact⟨t,_,rfl,Ye,Z4 ((hhx.mono s3).mono st) (Z4 ((hhz.mono s3).mono st) Z6)⟩
   .intro ws H3 y3
    have hl2:xs2.length=vs'.length:=lx2;refine hR _ _ ⟨z.1.trans y3.1,by rw[y3.2.1,hl2,Nat.succ_mul],(ZF.mp hu1).1,?_⟩;have y4:=y3.2.2.2;have et:vs'.take xs2.length=vs':=Zg (by omega);rw[et]at y4;rw[RX _ hu1,ZK];exact y4
 .intro zs H' p3 z hp3
  have s3:=Yo hp3 (.lst zs);have h3:upd H' p3 (.lst zs) p3=some (.lst zs):=Ye;have z4:=z.2.2.2;rw[Zg (by omega)]at z4;have z5:=z4.mono s3;generalize upd H' p3 (.lst zs)=H3 at s3 h3 z5 |-;have s23:=z.1.trans s3;have lz:zs.length=us.length*vs'.length:=by rw[z.2.1,lx1]
  refine⟨p2,p3,[V.non],zs,rfl,rfl,s23 _ _ h2,h3,Zh (Yq (by rw[lz];simp;omega)),fun p4 hp4=>?_⟩;have s4:=Yo hp4 (.lst ([V.non]++ zs));have h4:upd H3 p4 (.lst ([V.non]++ zs)) p4=some (.lst ([V.non]++ zs)):=Ye;have z6:=z5.mono s4;generalize upd H3 p4 (.lst ([V.non]++ zs))=H4 at s4 h4 z6 |-;have s04:=(s02.trans s23).trans s4;have kd4:=kd.mono s04;have hw:HasL H4 ([V.non]++ zs) ((W.non::us.flatMap fun u=>vs'.map fun v=>W.pair u v).map W.dat):=Z4 XM z6;refine⟨p4,_,rfl,.inl (Z3 h4),_,rfl,?_⟩;refine Yy (by simp;omega) ?_;refine⟨C,_,_,_,kd4.ins,T.cl,T.pk,Qt _,sl 2,fun p5 hp5=>?_⟩;refine up_in hp5 _ fun H5 s5 h5=>?_;have kd5:=kd4.mono s5;refine⟨_,J5.t (k:=[Sum.inr e,Sum.inr g]) kd5.pk h5 (Yq (by omega)),?_⟩;have kd6:=kd5.put_pk (putK S.pk [Sum.inr e,Sum.inr g] (.str y));have f6:KFr A' H (upd H5 A'.pk (.dT (putK S.pk [Sum.inr e,Sum.inr g] (.str y)))):=KFr.put (Same.kfr (s04.trans s5)) (by simp[KA6.ds]) _;have t6:TL H4 (upd H5 A'.pk (.dT (putK S.pk [Sum.inr e,Sum.inr g] (.str y)))):=(KFr.put (Same.kfr s5) (by simp[KA6.ds]) _:KFr A' H4 _).tl kd4;generalize upd H5 A'.pk (.dT (putK S.pk [Sum.inr e,Sum.inr g] (.str y)))=H6 at kd6 f6 t6 |-;refine⟨C,_,_,_,kd6.ins,T.cl,T.wo,KY _,_,J5.k (k:=Sum.inr y) kd6.wo (Yq (by show S.wo.length<=1000;omega)),?_⟩;have kd7:=kd6.put_wo (putK S.wo (Sum.inr y) (.ref p4));have f7:=f6.put (x:=A'.wo) (by simp[KA6.ds]) (.dK (putK S.wo (Sum.inr y) (.ref p4)));have t7:=t6.trans ((KFr.put (KFr.refl A' H6) (x:=A'.wo) (by simp[KA6.ds]) (.dK (putK S.wo (Sum.inr y) (.ref p4)))).tl kd6);generalize upd H6 A'.wo (.dK (putK S.wo (Sum.inr y) (.ref p4)))=H7 at kd7 f7 t7 |-;refine⟨C,_,_,_,kd7.ins,T.cl,T.he,OP _,_,by rw[<-pte.he];exact Vh.k (k:=Sum.inr e) kd7.he,?_⟩;refine⟨C,_,_,_,kd7.ins,T.cl,T.he,OP _,_,by rw[<-ptg.he];exact Vh.k (k:=Sum.inr g) kd7.he,?_⟩;refine⟨C,_,_,_,kd7.ins,T.cl,T.he,OP _,_,J5.k (k:=Sum.inr y) kd7.he (Yq (by show S.he.length<=1000;omega)),?_⟩;have eh:(1+(he:Int)+(hg:Int))=((1+he+hg:Nat):Int):=by push_cast;rfl
  dsimp only[rI0,rI,Ui];rw[eh];have kd8:=kd7.put_he (putK S.he (Sum.inr y) (.int ((1+he+hg:Nat):Int)));have f8:=f7.put (x:=A'.he) (by simp[KA6.ds]) (.dK (putK S.he (Sum.inr y) (.int ((1+he+hg:Nat):Int))));have t8:=t7.trans ((KFr.put (KFr.refl A' H7) (x:=A'.he) (by simp[KA6.ds]) (.dK (putK S.he (Sum.inr y) (.int ((1+he+hg:Nat):Int))))).tl kd7);generalize upd H7 A'.he (.dK (putK S.he (Sum.inr y) (.int ((1+he+hg:Nat):Int))))=H8 at kd8 f8 t8 |-;refine⟨C,_,_,_,kd8.ins,T.cl,T.pd,OO _,_,J5.k (k:=Sum.inr y) kd8.pd (Yq (by show S.pd.length<=1000;omega)),?_⟩;have kd9:=kd8.put_pd (putK S.pd (Sum.inr y) (.int ((1+max pe pg:Nat):Int)));have f9:=f8.put (x:=A'.pd) (by simp[KA6.ds]) (.dK (putK S.pd (Sum.inr y) (.int ((1+max pe pg:Nat):Int))));have t9:=t8.trans ((KFr.put (KFr.refl A' H8) (x:=A'.pd) (by simp[KA6.ds]) (.dK (putK S.pd (Sum.inr y) (.int ((1+max pe pg:Nat):Int))))).tl kd8);exact q _ p4 f9 kd9 ⟨_,t9.2 _ _ h4,HasL.tl t9 _ hw⟩
end
end K4
namespace L2
open PySem
theorem Aq(kk:KK top c d ks)(hy:y∈ks.map (·.1)):c y<=5\/c y<=top:=by
 obtain⟨s,hs⟩:=Vl hy;have k1:=kk.at hs
 cases s with
 |tags ts=>obtain⟨h1,h2,h3,_⟩:=k1;exact .inl (by omega)
 |pair a b=>obtain⟨h1,h2,h3,h4,_⟩:=k1;exact .inr h4
theorem M4{ks:List (Str×Shp)}(e:kvs.map (·.1)=ks.map (fun k=>(Sum.inr k.1:Key)))(h:y∉ks.map (·.1)):VF kvs (Sum.inr y)=none:=by
 unfold VF
 cases q:kvs.find? fun kv=>decide (kv.1=Sum.inr y)with
 |none=>rfl
 |some kv=>
  have m:=List.mem_of_find?_eq_some q;have q':=List.find?_some q;have z:kv.1=Sum.inr y:=Zt q';have m2:(Sum.inr y:Key)∈kvs.map (·.1):=ZW.mpr ⟨kv,m,z⟩;rw[e]at m2;obtain⟨k,hk,ek⟩:=ZW.mp m2;exact Zr (ZW.mpr ⟨k,hk,Sum.inr.inj ek⟩) h
theorem UC{ks:List (Str×Shp)}{s:Shp}(h:z∈(ks++[(y,s)]).map (·.1))(n:z≠y):z∈ks.map (·.1):=by
 rw[ZK,ZX]at h;rcases h with h|h
 .exact h
 .exact Zr (ZQ.mp h) n
theorem KR.snoc(k:KR H S ks d)(t:TL H H')(kk:KK 30 c d ks)(k1:KK1 30 c d (ks.map (·.1)) y s)(ny:y∉ks.map (·.1))(esh:S'.sh=putK S.sh (Sum.inr y) v)(hv:Has H' v s.dat)(ewo:S'.wo=putK S.wo (Sum.inr y) (.ref r))(hr:∃xs,H' r=some (.lst xs)/\HasL H' xs ((wOf ks 3 s).map W.dat))(ehe:S'.he=putK S.he (Sum.inr y) (.int (hOf ks 3 s:Nat)))(epd:S'.pd=putK S.pd (Sum.inr y) (.int (d y:Nat)))(etk:∀x:Str,VF S'.tk (Sum.inr x)=if JI x s=true then some (.str y)else VF S.tk (Sum.inr x))(ltk:S'.tk.length<=S.tk.length+4)(ntk:∀x,JI x s=true->JD ks x=none)(epk:∀a b:Str,VF S'.pk [Sum.inr a,Sum.inr b]=if V5 a b s=true then some (.str y)else VF S.pk [Sum.inr a,Sum.inr b])(lpk:S'.pk.length<=S.pk.length+4)(npk:∀a b,V5 a b s=true->Vz ks a b=none):
  KR H' S' (ks++[(y,s)]) d:=by
 have k':=k.tl t;have vn:=M4 k.ke ny
 have hw:Ys (ks++[(y,s)]) 3 y=wOf ks 3 s:=by
  rw[UO (Gu ny)]
  cases s with
  |tags ts=>rfl
  |pair a b=>
   obtain⟨q1,q2,q3,q4,q5,q6⟩:=k1;have m1:=Nat.le_max_left (d a) (d b);have m2:=Nat.le_max_right (d a) (d b);show(W.non::_)=(W.non::_);rw[Ji kk _ 2 a q1,Ji kk _ 2 b q2,JP kk 2 3 a q1 (by omega) (by omega),JP kk 2 3 b q2 (by omega) (by omega)]
 have hh:Xi (ks++[(y,s)]) 3 y=hOf ks 3 s:=by
  rw[X2 (Gu ny)]
  cases s with
  |tags ts=>rfl
  |pair a b=>
   obtain⟨q1,q2,q3,q4,q5,q6⟩:=k1;have m1:=Nat.le_max_left (d a) (d b);have m2:=Nat.le_max_right (d a) (d b);show 1+_+_=1+_+_;rw[UT kk _ 2 a q1,UT kk _ 2 b q2,XJ kk 2 3 a q1 (by omega) (by omega),XJ kk 2 3 b q2 (by omega) (by omega)]
 have ne:∀{z:Str},z≠y->¬(Sum.inr z:Key)=Sum.inr y:=fun n q=>n (Sum.inr.inj q);obtain⟨b1,b2,b3,b4,b5,b6⟩:=k.ln;refine⟨?_,fun z s' hz=>?_,fun z hz=>?_,fun z hz=>?_,fun z hz=>?_,fun x=>?_,fun a b=>?_,?_⟩
 .rw [esh,Xx v vn,ZK,ZK,k.ke];rfl
 .rw [esh,Jt]
  by_cases e:z=y
  .subst e
   rw[Gu ny]at hz;cases hz;rw[Zp rfl];exact⟨v,rfl,hv⟩
  .rw [Zq (ne e)]
   have hz':=UC (ZW.mpr ⟨_,Xs hz,rfl⟩) e;rw[WJ hz']at hz;exact k'.sh z s' hz
 .rw [ewo,Jt]
  by_cases e:z=y
  .subst e
   rw[Zp rfl,hw];obtain⟨xs,g1,g2⟩:=hr;exact⟨r,xs,rfl,g1,g2⟩
  .rw [Zq (ne e)]
   have hz':=UC hz e;rw[Ji kk _ 3 z hz'];exact k'.wo z hz'
 .rw [ehe,Jt]
  by_cases e:z=y
  .subst e
   rw[Zp rfl,hh]
  .rw [Zq (ne e)]
   have hz':=UC hz e;rw[UT kk _ 3 z hz'];exact k.he z hz'
 .rw [epd,Jt]
  by_cases e:z=y
  .subst e
   rw[Zp rfl]
  .rw [Zq (ne e)]
   exact k.pd z (UC hz e)
 .rw [etk x]
  have e:JD (ks++[(y,s)]) x=(JD ks x).or (if JI x s=true then some y else none):=by
   unfold JD;rw[XS]
   cases ks.find? fun k=>JI x k.2 with
   |some k=>rfl
   |none=>
    show Option.map _ (if JI x s=true then some (y,s)else none)=_;cases JI x s <;> rfl
  rw[e]
  cases hx:JI x s with
  |true=>rw[ntk x hx];rfl
  |false=>
   rw[k.tk x];cases JD ks x <;> rfl
 .rw [epk a b]
  have e:Vz (ks++[(y,s)]) a b=(Vz ks a b).or (if V5 a b s=true then some y else none):=by
   unfold Vz;rw[XS]
   cases ks.find? fun k=>V5 a b k.2 with
   |some k=>rfl
   |none=>
    show Option.map _ (if V5 a b s=true then some (y,s)else none)=_;cases V5 a b s <;> rfl
  rw[e]
  cases hx:V5 a b s with
  |true=>rw[npk a b hx];rfl
  |false=>
   rw[k.pk a b];cases Vz ks a b <;> rfl
 .rw [ZL,List.length_singleton,esh,ewo,ehe,epd]
  have:=Vn S.sh (Sum.inr y) v;have:=Vn S.wo (Sum.inr y) (.ref r);have:=Vn S.he (Sum.inr y) (.int (hOf ks 3 s:Nat));have:=Vn S.pd (Sum.inr y) (.int (d y:Nat));exact⟨by omega,by omega,by omega,by omega,by omega,by omega⟩
end L2
namespace K4
open PySem L2
section
variable{f g C gt gp gn:Addr}
def R0(C:Addr):Sp:=fun vs H Q _=>∃(A:KA6)(S:KC)(y:Str)(v:V)(s:Shp)(ks:List (Str×Shp))(c d:Str->Nat),vs=[.ref A.t,.str y,v]/\KD H C A S/\KR H S ks d/\KK 30 c d ks/\KK1 30 c d (ks.map (·.1)) y s/\y∉ks.map (·.1)/\
 (1<=y.length/\y.length<=8/\∀c∈y.cps.toList,97<=c/\c<97+26)/\(∀ts,s=.tags ts->Wds 65 ts)/\(∀x,JI x s=true->JD ks x=none)/\(∀a b,V5 a b s=true->Vz ks a b=none)/\Has H v s.dat/\ks.length<=6/\
 ∀H' S',KFr A H H'->KD H' C A S'->KR H' S' (ks++[(y,s)]) d->Q .non H'
theorem C7(A:KA6):(Wf A).lookup ("take_tags":Str)=none:=rfl
theorem C8(A:KA6):(Wf A).lookup ("take_pair":Str)=none:=rfl
theorem LJ:Yi ["self","name","shape"] ["self","name","shape"] (Yd BK):=Y2
theorem IQ(B:Blt mg)(T:KCl K C)(F:Fun K "take" "Kinds.take" BK f fd)(GN:Yf P w K mg base CX0 n gn nd' ["text"] (Uu 97))(bN:Binds K nd' ["text"] [])(kN:W.keepIn K (.ref gn)=true)(mN:mg "is_name"=some (.ref gn))(GT:Yf P w K mg base CX0 n gt td ["self","name","tags"] (N1 C))(bT:Binds K td ["self","name","tags"] [])(mT:VO K C "take_tags" gt)(GP:Yf P w K mg base CX0 n gp pd' ["self","name","one","other"] (Ry C))(bP:Binds K pd' ["self","name","one","other"] [])(mP:VO K C "take_pair" gp):
  Yf P w K mg base CX0 (n+1) f fd ["self","name","shape"] (R0 C):=by
 refine F.oq LJ fun cdv A outer s H vs Q E hr h=>?_;obtain⟨A',S,y,v,s,ks,c,d,rfl,kd,kr,kk,k1,ny,⟨y1,y8,yc⟩,wt,ntk,npk,hv,k6,q⟩:=h;have hu:=JF hr;refine⟨_,YY (Y0 (JH (Ve (Jg GN hr rfl mN kN bN .nil Y4 (pa1 (pv 1))))) (YZ V8) Yl)
  (YY (Y0 (Jx (Uy hu (pv 1) (Yz (pv 0) rfl))) (YZ V8) Yl)
  (YY (Y0 (PW.pt (G6 (Yn VQ (Y7 Y3 rfl B.len Zu (pa1 (pv 2))) Ya (Yv _)) (Xw (Yn VQ (Yj Ym (pv 2) Ya) Yw (Yv _)))))
   (YZ (Vm (Y6 (pv 0) T.cl mT GT hr bT .nil Y4 (pa2 (pv 1) (Yj Ym (pv 2) Ya)))))
   (YZ (Y0 (PW.pt (G6 (Yn VQ (Y7 Y3 rfl B.len Zu (pa1 (pv 2))) Ya (Yv _)) (Xw (Yn VQ (Yj Ym (pv 2) Ya) Yw (Yv _)))))
    (YZ (Vm (Y6 (pv 0) T.cl mP GP hr bP .nil Y4 (pa3 (pv 1) (Yj Ym (pv 2) Ya) (Yj Ym (pv 2) Ya)))))
    (YZ V8))))
  (YZ (Vt hu (Yz (pv 0) rfl) (pv 1) (pv 2) rfl)))),?_⟩
 show let a:=_;let b:=_;let c:=_;let d:=_;let e:=VC _ c d;let f:=Yk (VC _ b e) a;let g:=_;let h:=Yk (VC _ g _) f;let i:=_;Yk (VC _ i _) h _ _ _
 intros
 refine⟨y,rfl,y1,y8,yc,fun H1 s1=>⟨_,rfl,?_⟩⟩;refine Yy (by simp) ?_;have kd1:=kd.mono s1;have kr1:=kr.tl s1.tl;have hv1:=hv.mono s1;have gn:Vh H1 A'.sh (.str y) none:=by rw[<-M4 kr.ke ny];exact Vh.k (k:=Sum.inr y) kd1.sh
 refine⟨C,_,_,_,kd1.ins,T.cl,T.sh,Mq _,_,gn,_,rfl,?_⟩;refine Yy (by simp) ?_;obtain⟨b1,b2,b3,b4,b5,b6⟩:=kr.ln
 cases s with
 |tags ts=>
  obtain⟨p,l,rfl,hp,hl⟩:=U5 hv1;have l2:([V.str "tags",V.ref l]:List V).length=2:=rfl;refine⟨p,_,rfl,.inr (Z2 hp),rfl,_,rfl,?_⟩;refine VE (by simp) ?_;refine⟨_,_,Z2 hp,rfl,rfl,_,rfl,?_⟩;refine VE (by simp) ?_;obtain⟨t1,t4,_,t0,_⟩:=k1;refine⟨_,_,kd1.ins,C7 _,_,_,Z2 hp,rfl,A',S,y,l,ts,rfl,kd1,hl,t1,t4,wt ts rfl,fun x hx=>?_,by omega,by omega,by omega,by omega,fun H2 tk' r f2 kd2 tv tl hr2=>?_⟩
  .rw [kr.tk x,ntk x (by unfold JI;exact decide_eq_true hx)];rfl
  .have tl2:=f2.tl kd1
   refine⟨C,_,_,_,kd2.ins,T.cl,T.sh,Mq _,_,J5.k (k:=Sum.inr y) kd2.sh (Yq (by show S.sh.length<=1000;omega)),?_⟩;have kd3:=kd2.put_sh (putK S.sh (Sum.inr y) (.ref p));have f3:=f2.put (x:=A'.sh) (by simp[KA6.ds]) (.dK (putK S.sh (Sum.inr y) (.ref p)));have tl3:=tl2.trans ((KFr.put (KFr.refl A' H2) (x:=A'.sh) (by simp[KA6.ds]) (.dK (putK S.sh (Sum.inr y) (.ref p)))).tl kd2);have t23:=(KFr.put (KFr.refl A' H2) (x:=A'.sh) (by simp[KA6.ds]) (.dK (putK S.sh (Sum.inr y) (.ref p)))).tl kd2;refine q _ _ (s1.kfr.trans f3) kd3 (KR.snoc (v:=.ref p) (r:=r) kr1 tl3 kk ⟨t1,t4,by assumption,t0,by assumption⟩ ny rfl (Has.tl tl3 _ hv1) rfl ⟨_,t23.2 _ _ hr2,?_⟩ rfl (by rw[t0];rfl) (fun x=>?_) tl ntk (fun a b=>rfl) (Nat.le_add_right _ _) npk)
   .show HasL _ (V.non::ts.map V.str) ((W.non::ts.map W.tag).map W.dat)
    exact Z4 XM (Gj ts)
   .rw [tv x]
    unfold JI
    by_cases m:x∈ts
    .rw [Zp m,Zp (decide_eq_true m)]
    .rw [Zq m,Zq (by simp[m])]
 |pair a b=>
  obtain⟨p,rfl,hp⟩:=J0 hv1;obtain⟨q1,q2,q3,q4,q5,q6⟩:=id k1;have m1:=Nat.le_max_left (d a) (d b);have m2:=Nat.le_max_right (d a) (d b);refine⟨p,_,rfl,.inr (Z2 hp),rfl,_,rfl,?_⟩;refine Yy (by simp) ?_;refine Yy (by simp) ?_;refine⟨p,_,rfl,.inr (Z2 hp),rfl,_,rfl,?_⟩;refine VE (by simp) ?_;refine⟨_,_,Z2 hp,rfl,rfl,_,rfl,?_⟩;refine VE (by simp) ?_;obtain⟨la,pa,_⟩:=V4 kk 3 a q1 (by omega);obtain⟨lb,pb,_⟩:=V4 kk 3 b q2 (by omega)
  have pt:∀z,z∈ks.map (·.1)->Pt H1 S z (Ys ks 3 z) (Xi ks 3 z) (d z):=fun z hz=>by
   obtain⟨s',hs'⟩:=Vl hz;obtain⟨v',e1,_⟩:=kr.sh z s' hs';exact⟨by rw[e1];rfl,kr1.wo z hz,kr.he z hz,kr.pd z hz⟩
  have ca:c a<=30:=by rcases Aq kk q1 with h|h <;> omega
  have cb:c b<=30:=by rcases Aq kk q2 with h|h <;> omega
  refine⟨_,_,kd1.ins,C8 _,_,_,Z2 hp,rfl,_,_,Z2 hp,rfl,A',S,y,a,b,Ys ks 3 a,Ys ks 3 b,Xi ks 3 a,Xi ks 3 b,d a,d b,rfl,kd1,pt a q1,pt b q2,?_,by omega,?_,by omega,by omega,by omega,by omega,by omega,by omega,fun z=>by subst z;exact ny q1,fun z=>by subst z;exact ny q2,fun H2 r f2 kd2 hr2=>?_⟩
  .rw [kr.pk a b,npk a b (by unfold V5;simp)];rfl
  .rw [la,lb];omega
  .have tl2:=f2.tl kd1
   refine⟨C,_,_,_,kd2.ins,T.cl,T.sh,Mq _,_,J5.k (k:=Sum.inr y) kd2.sh (Yq (by show S.sh.length<=1000;omega)),?_⟩;have kd3:=kd2.put_sh (putK S.sh (Sum.inr y) (.ref p));have f3:=f2.put (x:=A'.sh) (by simp[KA6.ds]) (.dK (putK S.sh (Sum.inr y) (.ref p)));have t23:=(KFr.put (KFr.refl A' H2) (x:=A'.sh) (by simp[KA6.ds]) (.dK (putK S.sh (Sum.inr y) (.ref p)))).tl kd2;have tl3:=tl2.trans t23;obtain⟨xs,hx1,hx2⟩:=hr2;refine q _ _ (s1.kfr.trans f3) kd3 (KR.snoc (v:=.ref p) (r:=r) kr1 tl3 kk k1 ny rfl (Has.tl tl3 _ hv1) rfl ⟨xs,t23.2 _ _ hx1,HasL.tl t23 _ hx2⟩ rfl (by rw[q5]) (fun x=>rfl) (Nat.le_add_right _ _) ntk (fun e g=>?_) (by have:=Vn S.pk [Sum.inr a,Sum.inr b] (.str y);show(putK S.pk [Sum.inr a,Sum.inr b] (V.str y)).length<=_;omega) npk);show VF (putK S.pk [Sum.inr a,Sum.inr b] (V.str y)) [Sum.inr e,Sum.inr g]=_;rw[Jt];unfold V5
   by_cases h1:a=e
   .by_cases h2:b=g
    .subst h1 h2;simp
    .have z:¬([Sum.inr e,Sum.inr g]:List Key)=[Sum.inr a,Sum.inr b]:=fun w=>by injection w with w1 w2;injection w2 with w2 _;exact h2 (Sum.inr.inj w2).symm
     rw[Zq z,Zq (by simp[h2])]
   .have z:¬([Sum.inr e,Sum.inr g]:List Key)=[Sum.inr a,Sum.inr b]:=fun w=>by injection w with w1 _;exact h1 (Sum.inr.inj w1).symm
    rw[Zq z,Zq (by simp[h1])]
end
end K4
namespace L2
open PySem
theorem JZ(hx:H x=some (.ins C dx fs))(hp:H p=none):
  upd (upd H p o) x (.ins C dx (VX f (.ref p) fs)) x=some (.ins C dx (VX f (.ref p) fs))/\upd (upd H p o) x (.ins C dx (VX f (.ref p) fs)) p=some o/\p≠x/\∀b u,b≠x->H b=some u->upd (upd H p o) x (.ins C dx (VX f (.ref p) fs)) b=some u:=by
 have ne:p≠x:=(Yc hx hp).symm;exact⟨Ye,(Yg ne).trans Ye,ne,fun b u hb h=>by rw[Yg hb,Yg (Yc h hp)];exact h⟩
theorem KK.take(h:KK top c d ks)(i:Nat):KK top c d (ks.take i):=fun j y s e=>by
 have hj:j<i:=by
  have:=(ZF.mp e).1;rw[ZN]at this;omega
 rw[List.getElem?_take,Zp hj]at e;have q:=h j y s e;rw[List.take_take,Nat.min_eq_left (Zh hj)];exact q
theorem ON{i j a b:Nat}(h:4*i+a=4*j+b)(ha:a<4)(hb:b<4):i=j:=by omega
theorem KG.apart(g:KG ks){i j:Nat}(hi:ks[i]?=some (y,.tags ts))(hj:ks[j]?=some (z,.tags us))(h1:x∈ts)(h2:x∈us):i=j:=by
 obtain⟨tgs,wd,q⟩:=g.tg;obtain⟨r,hr,rfl⟩:=q i y ts hi;obtain⟨r',hr',rfl⟩:=q j z us hj;obtain⟨a,ha,ea⟩:=List.mem_iff_getElem.mp h1;obtain⟨b,hb,eb⟩:=List.mem_iff_getElem.mp h2;rw[ZN,List.length_drop]at ha hb;obtain⟨a1,a2⟩:=Nat.lt_min.mp ha;obtain⟨b1,b2⟩:=Nat.lt_min.mp hb;rw[List.getElem_take,List.getElem_drop]at ea eb;have e:tgs[4*i+a]'(Nat.add_lt_of_lt_sub' a2)=tgs[4*j+b]'(Nat.add_lt_of_lt_sub' b2):=ea.trans eb.symm;have pw:=List.pairwise_iff_getElem.mp wd.nd
 have ee:4*i+a=4*j+b:=by
  rcases Nat.lt_trichotomy (4*i+a) (4*j+b)with h|h|h
  .exact Zr e (pw _ _ _ _ h)
  .exact h
  .exact Zr e.symm (pw _ _ _ _ h)
 exact ON ee (by omega) (by omega)
theorem KG.ntk(g:KG ks)(hi:ks[i]?=some (y,s))(x:Str)(h:JI x s=true):JD (ks.take i) x=none:=by
 cases s with
 |pair a b=>cases h
 |tags ts=>
  have hx:x∈ts:=Zt h;unfold JD
  cases e:(ks.take i).find? fun k=>JI x k.2 with
  |none=>rfl
  |some k=>
   have m:=List.mem_of_find?_eq_some e;have q:=List.find?_some e;obtain⟨z,s'⟩:=k
   cases s' with
   |pair a b=>cases q
   |tags us=>
    have hx':x∈us:=Zt q;obtain⟨j,hj,ej⟩:=List.mem_iff_getElem.mp m;have hj':j<i:=by rw[ZN]at hj;omega
    have e2:ks[j]?=some (z,.tags us):=by
     have:=ZD hj;rw[ej,List.getElem?_take,Zp hj']at this;exact this
    have:=g.apart hi e2 hx hx';omega
theorem KG.npk(g:KG ks)(hi:ks[i]?=some (y,s))(a b:Str)(h:V5 a b s=true):Vz (ks.take i) a b=none:=by
 have is:∀{s':Shp},V5 a b s'=true->s'=.pair a b:=fun{s'} h=>by
  cases s' with
  |tags ts=>cases h
  |pair c e=>
   unfold V5 at h;rw[ZZ]at h;rw[Zt h.1,Zt h.2]
 unfold Vz
 cases e:(ks.take i).find? fun k=>V5 a b k.2 with
 |none=>rfl
 |some k=>
  have m:=List.mem_of_find?_eq_some e;have q:=List.find?_some e;obtain⟨z,s'⟩:=k;have e1:=is h;have e3:s'=.pair a b:=is q;subst e1 e3;obtain⟨j,hj,ej⟩:=List.mem_iff_getElem.mp m;have hj':j<i:=by rw[ZN]at hj;omega
  have e2:ks[j]?=some (z,.pair a b):=by
   have:=ZD hj;rw[ej,List.getElem?_take,Zp hj']at this;exact this
  have:=g.pr i j y z a b hi e2;omega
end L2
namespace K4
open PySem L2
section
variable{f g C gt:Addr}
def N2(C:Addr):Sp:=fun vs H Q _=>∃(x dx l:Addr)(xs:List V)(ks:List (Str×Shp))(c d:Str->Nat),vs=[.ref x,.ref l]/\H x=some (.ins C dx [])/\H l=some (.lst xs)/\HasL H xs (ks.map JW)/\KK 30 c d ks/\(ks.map (·.1)).Nodup/\KG ks/\0<ks.length/\ks.length<=6/\
 ∀H',(∀b o,b≠x->H b=some o->H' b=some o)->KI H' C x ks d->Q .non H'
theorem An(A:KA6):(Wf A).lookup ("take":Str)=none:=rfl
theorem N6:Yi ["self","told","name","shape"] ["self","told"] (Yd Fn):=Y2
theorem Lx(B:Blt mg)(T:KCl K C)(F:Fun K "__init__" "Kinds.__init__" Fn f fd)(hM:mg "MOST_KINDS"=some u)(rM:RelV (.int 6) u)(GT:Yf P w K mg base CX0 n gt td ["self","name","shape"] (R0 C))(bT:Binds K td ["self","name","shape"] [])(mT:VO K C "take" gt):
  Yf P w K mg base CX0 (n+1) f fd ["self","told"] (N2 C):=by
 refine F.oq N6 fun cdv A outer s H vs Q E hr h=>?_;obtain⟨x,dx,l,xs,ks,c,d,rfl,hx,hl,hxs,kk,nd,kg,k0,k6,q⟩:=h;refine⟨_,YY (Y0 (JH (Xy Uz Uz Ya (Y7 Y3 rfl B.len Zu (pa1 (pv 1))) (JE rfl hM rM))) (YZ V8) Yl)
  (YY (VY (pv 0) Vy rfl) (YY (VY (pv 0) Vy rfl) (YY (VY (pv 0) Vy rfl) (YY (VY (pv 0) Vy rfl) (YY (VY (pv 0) Vy rfl) (YY (VY (pv 0) Fy rfl)
  (YZ (V1 Zv rfl (JL (pv 1)) (Vi (n:=2) rfl (Yx (Yp 2 N6.nd) (Yx (Yp 3 N6.nd) VW)))
   (YZ (Vm (Y6 (pv 0) T.cl mT GT hr bT .nil Y4 (pa2 (pv 2) (pv 3))))))))))))),?_⟩
 show let a:=_;let b:=UH _ _ a;let c:=Yk _ b;let d:=Yk _ c;let e:=Yk _ d;let f:=Yk _ e;let g:=Yk _ f;let h:=Yk _ g;let i:=_;Yk (VC _ i _) h _ _ _
 intros
 have lx:=hxs.length;rw[ZA]at lx;refine⟨l,_,rfl,.inl (Z3 hl),_,rfl,?_⟩;refine VE (by simp;omega) ?_;refine⟨_,rfl,?_⟩;refine Yy (by simp;omega) ?_;intro p1 hp1;refine⟨x,C,dx,_,rfl,by rw[Yg (Yc hx hp1)];exact hx,T.cl,T.sh,by decide,?_⟩;obtain⟨x1,a1,n1,r1⟩:=JZ (f:="shapes") (o:=.dK []) hx hp1;generalize upd (upd H p1 (.dK [])) x (.ins C dx (VX "shapes" (.ref p1) []))=H1 at x1 a1 r1 |-;intro p2 hp2;refine⟨x,C,dx,_,rfl,by rw[Yg (Yc x1 hp2)];exact x1,T.cl,T.wo,(by show 1<1000;decide),?_⟩;obtain⟨x2,a2,n2,r2⟩:=JZ (f:="worths") (o:=.dK []) x1 hp2;generalize upd (upd H1 p2 (.dK [])) x (.ins C dx (VX "worths" (.ref p2) (VX "shapes" (.ref p1) [])))=H2 at x2 a2 r2 |-;intro p3 hp3;refine⟨x,C,dx,_,rfl,by rw[Yg (Yc x2 hp3)];exact x2,T.cl,T.he,(by show 2<1000;decide),?_⟩;obtain⟨x3,a3,n3,r3⟩:=JZ (f:="heights") (o:=.dK []) x2 hp3;generalize upd (upd H2 p3 (.dK [])) x (.ins C dx (VX "heights" (.ref p3) (VX "worths" (.ref p2) (VX "shapes" (.ref p1) []))))=H3 at x3 a3 r3 |-;intro p4 hp4;refine⟨x,C,dx,_,rfl,by rw[Yg (Yc x3 hp4)];exact x3,T.cl,T.pd,(by show 3<1000;decide),?_⟩;obtain⟨x4,a4,n4,r4⟩:=JZ (f:="pairs_deep") (o:=.dK []) x3 hp4;generalize upd (upd H3 p4 (.dK [])) x (.ins C dx (VX "pairs_deep" (.ref p4) (VX "heights" (.ref p3) (VX "worths" (.ref p2) (VX "shapes" (.ref p1) [])))))=H4 at x4 a4 r4 |-;intro p5 hp5;refine⟨x,C,dx,_,rfl,by rw[Yg (Yc x4 hp5)];exact x4,T.cl,T.tk,(by show 4<1000;decide),?_⟩;obtain⟨x5,a5,n5,r5⟩:=JZ (f:="tag_kinds") (o:=.dK []) x4 hp5;generalize upd (upd H4 p5 (.dK [])) x (.ins C dx (VX "tag_kinds" (.ref p5) (VX "pairs_deep" (.ref p4) (VX "heights" (.ref p3) (VX "worths" (.ref p2) (VX "shapes" (.ref p1) []))))))=H5 at x5 a5 r5 |-;intro p6 hp6;refine⟨x,C,dx,_,rfl,by rw[Yg (Yc x5 hp6)];exact x5,T.cl,T.pk,(by show 5<1000;decide),?_⟩;obtain⟨x6,a6,n6,r6⟩:=JZ (f:="pair_kinds") (o:=.dT []) x5 hp6;generalize upd (upd H5 p6 (.dT [])) x (.ins C dx (VX "pair_kinds" (.ref p6) (VX "tag_kinds" (.ref p5) (VX "pairs_deep" (.ref p4) (VX "heights" (.ref p3) (VX "worths" (.ref p2) (VX "shapes" (.ref p1) [])))))))=H6 at x6 a6 r6 |-
 let A':KA6:=⟨x,dx,p1,p2,p3,p4,p5,p6⟩
 have frame:∀b o,b≠x->H b=some o->H6 b=some o:=fun b o hb h=>r6 b o hb (r5 b o hb (r4 b o hb (r3 b o hb (r2 b o hb (r1 b o hb h)))));have c12:=r2 _ _ n1 a1;have c13:=r3 _ _ n1 c12;have c14:=r4 _ _ n1 c13;have c15:=r5 _ _ n1 c14;have c16:=r6 _ _ n1 c15;have c23:=r3 _ _ n2 a2;have c24:=r4 _ _ n2 c23;have c25:=r5 _ _ n2 c24;have c26:=r6 _ _ n2 c25;have c34:=r4 _ _ n3 a3;have c35:=r5 _ _ n3 c34;have c36:=r6 _ _ n3 c35;have c45:=r5 _ _ n4 a4;have c46:=r6 _ _ n4 c45;have c56:=r6 _ _ n5 a5
 have ndA:A'.ds.Nodup:=by
  have e12:=Yc a1 hp2;have e13:=Yc c12 hp3;have e14:=Yc c13 hp4;have e15:=Yc c14 hp5;have e16:=Yc c15 hp6;have e23:=Yc a2 hp3;have e24:=Yc c23 hp4;have e25:=Yc c24 hp5;have e26:=Yc c25 hp6;have e34:=Yc a3 hp4;have e35:=Yc c34 hp5;have e36:=Yc c35 hp6;have e45:=Yc a4 hp5;have e46:=Yc c45 hp6;have e56:=Yc a5 hp6;simp[KA6.ds,A',e12,e13,e14,e15,e16,e23,e24,e25,e26,e34,e35,e36,e45,e46,e56]
 have kd:KD H6 C A' ⟨[],[],[],[],[],[]⟩:=⟨x6,c16,c26,c36,c46,c56,a6,ndA⟩
 have new:∀b,b∈A'.ds->H b=none:=fun b hb=>by
  cases e:H b with
  |none=>rfl
  |some o=>
   simp only[KA6.ds,A',Zd,List.not_mem_nil,or_false]at hb;rcases hb with z|z|z|z|z|z
   .subst z;rw[hp1]at e;cases e
   .subst z;rw[r1 _ _ n2 e]at hp2;cases hp2
   .subst z;rw[r2 _ _ n3 (r1 _ _ n3 e)]at hp3;cases hp3
   .subst z;rw[r3 _ _ n4 (r2 _ _ n4 (r1 _ _ n4 e))]at hp4;cases hp4
   .subst z;rw[r4 _ _ n5 (r3 _ _ n5 (r2 _ _ n5 (r1 _ _ n5 e)))]at hp5;cases hp5
   .subst z;rw[r5 _ _ n6 (r4 _ _ n6 (r3 _ _ n6 (r2 _ _ n6 (r1 _ _ n6 e))))]at hp6;cases hp6
 have lnx:l≠x:=JR hl hx (by intro z;cases z);have hl6:=frame _ _ lnx hl;have tl06:TL H H6:=⟨fun b ys h=>frame _ _ (JR h hx (by intro z;cases z)) h,fun b ys h=>frame _ _ (JR h hx (by intro z;cases z)) h⟩;have hx6:=HasL.tl tl06 _ hxs;refine⟨⟨_,Z3 hl6⟩,?_⟩
 let I:Nat->St->Hp->Prop:=fun i U H'=>∃S z1 z2,KFr A' H6 H'/\KD H' C A' S/\KR H' S (ks.take i) d/\U=[some (.ref x),some (.ref l),z1,z2]
 refine Dt (xs:=xs) I ⟨_,_,_,KFr.refl _ _,kd,?_,rfl⟩ ?_ ?_ ?_
 .rw [List.take_zero]
  exact⟨rfl,fun y s e=>by simp[VR]at e,fun y hy=>by simp at hy,fun y hy=>by simp at hy,fun y hy=>by simp at hy,fun y=>rfl,fun a b=>rfl,by decide⟩
 .rintro i U H' _ ⟨S,z1,z2,fr,kd',kr',rfl⟩
  exact Z3 ((fr.tl kd).2 _ _ hl6)
 .rintro BB RR i v U H' hv ⟨S,z1,z2,fr,kd',kr',rfl⟩
  have ilt:=(ZF.mp hv).1;obtain⟨dv,hdv,hhv⟩:=hx6.get hv;rw[ZH]at hdv
  cases hk:ks[i]? with
  |none=>rw[hk]at hdv;cases hdv
  |some ys=>
   rw[hk]at hdv;cases hdv;obtain⟨y,sh⟩:=ys;have tl6:=fr.tl kd;obtain⟨a,v2,rfl,ha,hv2⟩:=TX (Has.tl tl6 _ hhv);have my:y∈ks.map (·.1):=ZW.mpr ⟨_,ZJ hk,rfl⟩
   have ny:y∉(ks.take i).map (·.1):=fun hm=>by
    have q':((ks.take i++[(y,sh)]).map (·.1)).Nodup:=by rw[<-take_snoc hk];exact nd.sublist ((List.take_sublist _ _).map _)
    rw[ZK]at q';exact(List.nodup_append.mp q').2.2 y hm y (by simp) rfl
   refine⟨_,Z2 ha,rfl,?_⟩;refine⟨_,_,kd'.ins,An A',A',S,y,v2,sh,ks.take i,c,d,rfl,kd',kr',kk.take i,kk i y sh hk,ny,⟨(kg.nm.len y my).1,(kg.nm.len y my).2,kg.nm.abc y my⟩,fun ts e=>?_,kg.ntk hk,kg.npk hk,hv2,by rw[ZN];omega,fun H2 S2 f2 kd2 kr2=>?_⟩
   .subst e
    exact kg.tags (ZJ hk)
   .rw [<-take_snoc hk]at kr2
    exact⟨S2,_,_,fr.trans f2,kd2,kr2,rfl⟩
 .rintro U H' ⟨S,z1,z2,fr,kd',kr',rfl⟩
  rw[Zg (by omega)]at kr';refine q H' (fun b o hb h=>fr b o (fun hm=>?_) (frame b o hb h)) ⟨A',S,rfl,kd',kr'⟩;rw[new b hm]at h;cases h
end
end K4
namespace L2
open PySem
theorem Th{α:Type}{p:α->Bool}{l:List α}{x:α}(h:(l.take i).find? p=none)(e:l[i]?=some x)(hp:p x=true):l.find? p=some x:=by
 have hi:=(ZF.mp e).1;have e2:l.drop i=x::l.drop (i+1):=by rw[List.drop_eq_getElem_cons hi,(ZF.mp e).2]
 rw[<-List.take_append_drop i l,List.find?_append,h,e2,List.find?_cons,hp]
 rfl
theorem Os(h:VR ks y=some s):∃i:Nat,ks[i]?=some (y,s):=List.mem_iff_getElem?.mp (Xs h)
theorem Nw(g:KG ks)(h:VR ks y=some (.tags ts))(m:t∈ts):JD ks t=some y:=by
 obtain⟨i,hi⟩:=Os h;have ht:JI t (.tags ts)=true:=by unfold JI;exact decide_eq_true m
 have n:=g.ntk hi t ht;unfold JD at n |-
 rw[Th (by cases e:(ks.take i).find? fun k=>JI t k.2 with
  |none=>rfl
  |some k=>rw[e]at n;cases n) hi ht]
 rfl
theorem NM(g:KG ks)(h:VR ks y=some (.pair a b)):Vz ks a b=some y:=by
 obtain⟨i,hi⟩:=Os h;have ht:V5 a b (.pair a b)=true:=by unfold V5;simp
 have n:=g.npk hi a b ht;unfold Vz at n |-
 rw[Th (by cases e:(ks.take i).find? fun k=>V5 a b k.2 with
  |none=>rfl
  |some k=>rw[e]at n;cases n) hi ht]
 rfl
theorem KB(h:Has H v (.tup [.str b,d])):∃a u,v=.ref a/\H a=some (.tup [.str b,u])/\Has H u d:=by
 obtain⟨t,ys,rfl,ht,hl⟩:=Yr h;obtain⟨x1,r1,rfl,h1,hlA⟩:=Yb hl;obtain⟨x2,r2,rfl,h2,hlB⟩:=Yb hlA;obtain rfl:=Y8 hlB;obtain rfl:=has_str h1;exact⟨t,x2,rfl,ht,h2⟩
def Ew:List (Option Str)->Option (List Str)
 |[]=>some []
 |none::_=>none
 |some x::r=>(Ew r).map (x:: ·)
theorem Nq:∀zs:List Str,Ew (zs.map some)=some zs
 |[]=>rfl
 |z::zs=>by show(Ew (zs.map some)).map (z:: ·)=_;rw[Nq zs];rfl
theorem Rm:∀{l:List (Option Str)},none∈l->Ew l=none
 |none::l,_=>rfl
 |some y::l,h=>by
  show(Ew l).map (y:: ·)=none;rw[Rm ((Zd.mp h).resolve_left fun e=>nomatch e)];rfl
theorem D8:∀{l:List (Option Str)},none∉l->∃zs,l=List.map some zs
 |[],_=>⟨[],rfl⟩
 |none::_,h=>Zr Za h
 |some y::l,h=>let⟨zs,e⟩:=D8 (l:=l) fun m=>h (ZM _ m);⟨y::zs,by rw[e];rfl⟩
def K8:V->Option Str
 |.str y=>some y
 |_=>none
open Classical in
noncomputable def own (ks:List (Str×Shp)) (hd:Hds) (kv:List (Key×V)):Bd->List Str->Option Str
 |.tag t,_=>JD ks t
 |.name x,_=>(VF kv (Sum.inr x)).bind K8
 |.pair _ _,zs=>match zs with|[a,b]=>Vz ks a b|_=>none
 |.one _,zs=>match zs with|[z]=>(match VR ks z with|some (.pair a _)=>some a|_=>none)|_=>none
 |.other _,zs=>match zs with|[z]=>(match VR ks z with|some (.pair _ b)=>some b|_=>none)|_=>none
 |.choose _ ts _,zs=>match zs with|z::y::r=>if VR ks z=some (.tags ts)/\∀u∈r,u=y then some y else none|_=>none
 |.ask f _,zs=>match hd f with|some (ps,k)=>if ps.map (·.2)=zs then some k else none|none=>none
 |.letb _ z _ _,zs=>match zs with|[a,y]=>if a=z then some y else none|_=>none
def Jm(ks:List (Str×Shp))(kv:List (Key×V)):Bd->Prop
 |.letb x z _ _=>(VF kv (Sum.inr x)).isSome=true\/z∉ks.map (·.1)
 |_=>False
open Classical in
noncomputable def kdn (ks:List (Str×Shp)) (hd:Hds):Nat->List (Key×V)->Bd->Option Str
 |0,_,_=>none
 |n+1,kv,b=>if Jm ks kv b then none else(Ew (b.parts.map (kdn ks hd n (wth kv b)))).bind (own ks hd kv b)
theorem Gb(h:Jm ks kv b):kdn ks hd (n+1) kv b=none:=by unfold kdn;exact Zp h
theorem TU(h:none∈b.parts.map (kdn ks hd n (wth kv b))):kdn ks hd (n+1) kv b=none:=by
 unfold kdn;split
 .rfl
 .rw [Rm h];rfl
theorem Mh(h:¬Jm ks kv b)(e:b.parts.map (kdn ks hd n (wth kv b))=zs.map some):kdn ks hd (n+1) kv b=own ks hd kv b zs:=by unfold kdn;rw[Zq h,e,Nq];rfl
def NK(ns:List Str)(kv:List (Key×V)):Prop:=∀q∈kv,∃(x k:Str),q=(Sum.inr x,V.str k)/\k∈ns
def HK(ns:List Str)(hd:Hds):Prop:=∀f ps k,hd f=some (ps,k)->k∈ns
theorem NK.wth(h:NK (ks.map (·.1)) kv)(nb:¬Jm ks kv b):NK (ks.map (·.1)) (wth kv b):=by
 cases b with
 |letb x z e g=>
  intro q hq;rcases Fs hq with m|rfl
  .exact h q m
  .exact ⟨x,z,rfl,Classical.not_not.mp fun m=>nb (.inr m)⟩
 |_=>exact h
theorem Nf{ks:List (Str×Shp)}{p:Str×Shp->Bool}(h:(ks.find? p).map (·.1)=some y):y∈ks.map (·.1):=by
 obtain⟨k,hk,rfl⟩:=Zj.mp h;exact ZW.mpr ⟨k,List.mem_of_find?_eq_some hk,rfl⟩
theorem NK.at(h:NK ns kv)(e:VF kv (Sum.inr x)=some v):∃k,v=.str k/\k∈ns:=by
 obtain⟨q,m,_,rfl⟩:=FB e;obtain⟨_,k,rfl,hk⟩:=h q m;exact⟨k,rfl,hk⟩
theorem Li(kk:KK 30 c d ks)(nk:NK (ks.map (·.1)) kv)(hk:HK (ks.map (·.1)) hd)(hz:∀z∈zs,z∈ks.map (·.1))(h:own ks hd kv b zs=some y):y∈ks.map (·.1):=by
 cases b with
 |tag t=>exact Nf h
 |name x=>
  obtain⟨v,hv,e⟩:=Option.bind_eq_some_iff.mp (show(VF kv (Sum.inr x)).bind K8=some y from h);obtain⟨k,rfl,m⟩:=nk.at hv;cases e;exact m
 |pair a b=>
  unfold own at h;dsimp only at h;split at h
  .exact Nf h
  .cases h
 |one e=>
  unfold own at h;dsimp only at h;split at h
  .split at h
   .rename_i hs;cases h;exact(kk.at hs).1
   .cases h
  .cases h
 |other e=>
  unfold own at h;dsimp only at h;split at h
  .split at h
   .rename_i hs;cases h;exact(kk.at hs).2.1
   .cases h
  .cases h
 |choose e ts bs=>
  unfold own at h;dsimp only at h;split at h
  .split at h
   .cases h;exact hz _ (by simp)
   .cases h
  .cases h
 |ask f as=>
  unfold own at h;dsimp only at h;split at h
  .split at h
   .rename_i hf _;cases h;exact hk _ _ _ hf
   .cases h
  .cases h
 |letb x z e g=>
  unfold own at h;dsimp only at h;split at h
  .split at h
   .cases h;exact hz _ (by simp)
   .cases h
  .cases h
theorem Dn(kk:KK 30 c d ks)(hk:HK (ks.map (·.1)) hd):∀(n:Nat)(kv:List (Key×V))(b:Bd)(y:Str),NK (ks.map (·.1)) kv->kdn ks hd n kv b=some y->y∈ks.map (·.1)
 |0,_,_,_,_,h=>nomatch h
 |n+1,kv,b,y,nk,h=>by
  by_cases nb:Jm ks kv b
  .rw [Gb nb]at h;cases h
  by_cases hn:none∈b.parts.map (kdn ks hd n (wth kv b))
  .rw [TU hn]at h;cases h
  obtain⟨zs,ez⟩:=D8 hn;rw[Mh nb ez]at h;refine Li kk nk hk (fun z hz=>?_) h;have m:some z∈b.parts.map (kdn ks hd n (wth kv b)):=by rw[ez];exact ZW.mpr ⟨z,hz,rfl⟩
  obtain⟨p,_,e⟩:=ZW.mp m;exact Dn kk hk n _ p z (nk.wth nb) e
theorem QI(kg:KG ks)(b0:∀e ts bs,b=.choose e ts bs->1<=bs.length)(h:Kr ks hd kv y b zs):own ks hd kv b zs=some y:=by
 cases b with
 |tag t=>obtain⟨_,ts,k1,k2⟩:=h;exact Nw kg k1 k2
 |name x=>obtain⟨_,k1⟩:=h;show(VF kv (Sum.inr x)).bind K8=_;rw[k1];rfl
 |pair a b=>obtain⟨a',b',rfl,k1⟩:=h;exact NM kg k1
 |one e=>obtain⟨z,b',rfl,k1⟩:=h;show(match VR ks z with|some (.pair a _)=>some a|_=>none)=_;rw[k1]
 |other e=>obtain⟨z,b',rfl,k1⟩:=h;show(match VR ks z with|some (.pair _ b)=>some b|_=>none)=_;rw[k1]
 |choose e ts bs=>
  obtain⟨z,rfl,k1,lb⟩:=h;have:=b0 e ts bs rfl;obtain⟨m,em⟩:∃m,bs.length=m+1:=⟨bs.length-1,by omega⟩;rw[em,List.replicate_succ];exact Zp ⟨k1,fun u hu=>List.eq_of_mem_replicate hu⟩
 |ask f as=>
  obtain⟨ps,k1,rfl⟩:=h;unfold own;dsimp only;rw[k1];exact Zp rfl
 |letb x z e g=>obtain⟨rfl,_,_⟩:=h;exact Zp rfl
theorem Kd.kdn(kg:KG ks)(nt:∀z ts,VR ks z=some (.tags ts)->1<=ts.length):∀(n:Nat)(kv:List (Key×V))(b:Bd)(y:Str),Kd ks hd kv y b->b.dep<n->L2.kdn ks hd n kv b=some y
 |0,_,_,_,_,h=>nomatch h
 |n+1,kv,b,y,h,hn=>by
  obtain⟨zs,kr,lz,kp⟩:=h.inv
  have nb:¬Jm ks kv b:=by
   cases b with
   |letb x z e g=>obtain⟨_,k1,k2⟩:=kr;exact fun m=>m.elim (fun m=>by rw[k1]at m;cases m) (fun m=>m k2)
   |_=>exact id
  have e:b.parts.map (L2.kdn ks hd n (L2.wth kv b))=zs.map some:=by
   refine List.ext_getElem? fun i=>?_;rw[ZH,ZH]
   cases hp:b.parts[i]? with
   |none=>
    have:zs[i]?=none:=List.getElem?_eq_none_iff.mpr (by rw[lz];exact List.getElem?_eq_none_iff.mp hp);rw[this];rfl
   |some p=>
    have il:i<zs.length:=by rw[lz];exact(ZF.mp hp).1
    have hz:zs[i]?=some zs[i]:=ZD il;have:=Bd.dep_mem (ZJ hp);rw[hz];exact congrArg some (Kd.kdn kg nt n _ p _ (kp i p _ hp hz) (by omega))
  rw[Mh nb e];refine QI kg (fun e' ts bs eb=>?_) kr;subst eb;obtain⟨z,_,k1,lb⟩:=kr;rw[lb];exact nt _ _ k1
def wrs(f:Bd->List (List Int)):Nat->List Bd->List (List Int)
 |_,[]=>[]
 |k,c::cs=>(f c).map (((k:Nat):Int):: ·)++ wrs f (k+1) cs
open Classical in
noncomputable def wr (ks:List (Str×Shp)) (hd:Hds):Nat->List (Key×V)->Bd->List (List Int)
 |0,_,_=>[]
 |n+1,kv,b=>if Jm ks kv b then[[]]else if none∈b.parts.map (kdn ks hd n (wth kv b))then wrs (wr ks hd n (wth kv b)) 0 b.parts else if kdn ks hd (n+1) kv b=none then[[]]else[]
theorem Rp{f:Bd->List (List Int)}:∀(k:Nat)(xs ys:List Bd),wrs f k (xs++ ys)=wrs f k xs++ wrs f (k+xs.length) ys
 |k,[],ys=>by simp[wrs]
 |k,x::xs,ys=>by
  have e:k+1+xs.length=k+(xs.length+1):=by omega
  simp[wrs,Rp (k+1) xs ys,e]
theorem Ey{f:Bd->List (List Int)}{bs:List Bd}(h:bs[i]?=some c):wrs f 0 (bs.take (i+1))=wrs f 0 (bs.take i)++ (f c).map (((i:Nat):Int):: ·):=by
 have il:=(ZF.mp h).1;rw[take_snoc h,Rp];simp[wrs,ZN,Nat.min_eq_left (Zh il)]
theorem Ro{f:Bd->List (List Int)}:∀(k:Nat)(xs:List Bd),wrs f k xs=[]↔∀c∈xs,f c=[]
 |k,[]=>by simp[wrs]
 |k,x::xs=>by simp[wrs,Ro (k+1) xs]
theorem Rq:∀(n:Nat)(kv:List (Key×V))(b:Bd),b.dep<n->(wr ks hd n kv b=[]↔kdn ks hd n kv b≠none)
 |0,_,_,h=>Zr h (Zw _)
 |n+1,kv,b,h=>by
  unfold wr
  by_cases c1:Jm ks kv b
  .rw [Zp c1,Gb c1];simp
  .rw [Zq c1]
   by_cases c2:none∈b.parts.map (kdn ks hd n (wth kv b))
   .rw [Zp c2,TU c2]
    refine⟨fun e=>?_,fun e=>Zr rfl e⟩;obtain⟨c,hc,e2⟩:=ZW.mp c2;have dc:=Bd.dep_mem hc;exact Zr e2 ((Rq n (wth kv b) c (by omega)).mp ((Ro 0 _).mp e c hc))
   .rw [Zq c2]
    by_cases c3:kdn ks hd (n+1) kv b=none
    .rw [Zp c3];simp[c3]
    .rw [Zq c3];simp[c3]
theorem Ky(h:¬Jm ks kv b)(e:none∈b.parts.map (kdn ks hd n (wth kv b))):wr ks hd (n+1) kv b=wrs (wr ks hd n (wth kv b)) 0 b.parts:=by
 unfold wr;rw[Zq h,Zp e]
theorem E1(h:Jm ks kv b):[[]]=wr ks hd (n+1) kv b:=by unfold wr;rw[Zp h]
theorem PR(h:¬Jm ks kv b)(e:none∉b.parts.map (kdn ks hd n (wth kv b)))(k:kdn ks hd (n+1) kv b=none):[[]]=wr ks hd (n+1) kv b:=by unfold wr;rw[Zq h,Zq e,Zp k]
theorem Ez{bs:List Bd}(h:∀c∈bs,c.dep<n):wrs (wr ks hd n kv) k bs=[]↔none∉bs.map (kdn ks hd n kv):=by
 rw[Ro]
 constructor
 .intro z m
  obtain⟨c,hc,e⟩:=ZW.mp m;exact(Rq n kv c (h c hc)).mp (z c hc) e
 .intro z c hc
  exact(Rq n kv c (h c hc)).mpr fun e=>z (ZW.mpr ⟨c,hc,e⟩)
theorem EA{f:Bd->List (List Int)}{bs:List Bd}(h:bs[i]?=some c)(e:wrs f 0 (bs.take i)=[])(hw:f c=w::r):∃t,wrs f 0 bs=(((i:Nat):Int)::w)::t:=by
 refine⟨r.map (((i:Nat):Int):: ·)++ wrs f (0+(bs.take (i+1)).length) (bs.drop (i+1)),?_⟩
 conv=>lhs;rw[<-List.take_append_drop (i+1) bs]
 rw[Rp,Ey h,e,hw];simp
end L2
namespace L2
open PySem PySem.Spec PyProof.Rows
section
variable{X:Cx}{CX:CXT}{k:Nat}{E:XK}{ta ti:TE}{t:TA}
def Pf(X:Cx)(CX:CXT)(k:Nat)(E:XK)(ta:TE)(t:TA):TE:=fun U H Q=>ta U H fun v H1=>∃(f:Addr)(fd:FuncData)(ps:List Str)(sp:Sp),v=.ref f/\Yf X.prog X.w X.K X.mg X.base CX k f fd ps sp/\W.keepIn X.K (.ref f)=true/\Binds X.K fd ps []/\M8 sp [] E t U H1 Q
theorem IA(hf:PE X (.Name x p) ta)(hr:Vs k X.A)(hx:Ul CX X E)(ha:PA X (e::es) t)(he:starEach (e::es) X.env=(false,eval e X.env)::starEach es X.env:=by rfl)(hpl:(backTo pos (starEach es X.env)).any (·.1)=false:=by rfl):
  PE X (.Call (.Name x p) (e::es) [] pos) (Pf X CX k E ta t):=by
 intro pins s U H Q I h;refine wpAny_Call_Name_kw (thn (hf pins s U H _ I h) fun u s1 ⟨v,H1,I1,r1,f,fd,ps,sp,ev,F,hk,hb,q⟩=>?_);subst ev;obtain rfl:u=Value.ref f:=r1;refine W.callWith_K (h₀:=X.base) I1.ok.mod.kin hk (thn (ha pos pins s1 U H1 _ I1 q) fun us s2 ⟨vs,H2,I2,r2,q2⟩=>⟨I2.kIn,?_⟩) he hpl;exact Gz F hr hb .nil hx I2 r2 q2
def SQ(a:Addr)(m:Key->Option Value)(ti:TE):TE:=fun U H Q=>ti U H fun v H1=>∃(q:Key)(u:Value)(y:V),v=kV q/\m q=some u/\RelV y u/\Q y H1
theorem Ld(hg:Gl X x)(hm:X.mg x=some (.ref a))(hM:X.base.MapOf (Y9 X.prog X.w) a m)(hu:X.A.units+1<cLine)(hi:PE X i ti)(hs:Q5 i)(hdb:(x==("__debug__":Str))=false:=by decide):
  PE X (.Subscript (.Name x p) i pos) (SQ a m ti):=by
 intro pins s U H Q I h;refine DU PySem.F.slot_dict_getitem.lookup hs (GZ I hg hm ?_ hdb);refine thn (hi pins s U H _ I h) fun iv s2 ⟨v,H2,I2,ry,q,u,y,ev,hv,rel,q2⟩=>?_;subst ev;have M2:s2.heap.MapOf (Y9 X.prog X.w) a m:=let⟨o,es,ep,h1,r⟩:=hM;⟨o,es,ep,I2.bk _ _ h1,r⟩
 have T2:s2.TypeIs (.ref a) "dict":=M2.typeIs;refine⟨T2,?_⟩;exact wpAny_getItem_of (U4 ry) M2 hv ⟨y,H2,I2.tok _,rel,q2⟩
end
end L2
namespace L2
open PySem
structure BA where
 t:Addr
 dx:Addr
 so:Addr
 td:Addr
 rd:Addr
 tn:Addr
def UF(A:BA):List (Str×V):=[("sorts",.ref A.so),("told",.ref A.td),("rows",.ref A.rd),("turns",.ref A.tn)]
def psD(ps:List (Str×Str)):Dat:=.tup (ps.map fun p=>.tup [.str p.1,.str p.2])
def Ut(x:Dd):Dat:=.tup [psD x.1.2.1,.str x.1.2.2,x.2.dat]
structure BD(H:Hp)(C CK:Addr)(A:BA)(kv:List (Key×V))(ks:List (Str×Shp))(d:Str->Nat)(ds:List Dd):Prop where
 ins:H A.t=some (.ins C A.dx (UF A))
 so:KI H CK A.so ks d
 td:H A.td=some (.dK kv)
 ke:kv.map (·.1)=ds.map (fun x=>(Sum.inr x.1.1:Key))
 va:HasL H (kv.map (·.2)) (ds.map Ut)
 nd:(ds.map fun x=>x.1.1).Nodup
def BI(H:Hp)(C CK t:Addr)(ks:List (Str×Shp))(d:Str->Nat)(ds:List Dd):Prop:=∃A kv,A.t=t/\BD H C CK A kv ks d ds
theorem BI.mono(b:BI H C CK t ks d ds)(e:Same H H'):BI H' C CK t ks d ds:=by
 obtain⟨A,kv,h,k⟩:=b;exact⟨A,kv,h,e _ _ k.ins,k.so.mono e,e _ _ k.td,k.ke,k.va.mono e,k.nd⟩
structure BCl(K:W.Frag)(C:Addr):Prop where
 cl:Cls K C
 so:VH K C "sorts"
 td:VH K C "told"
 rd:VH K C "rows"
 tn:VH K C "turns"
theorem KO(A:BA):(UF A).lookup ("sorts":Str)=some (V.ref A.so):=rfl
theorem Ek(A:BA):(UF A).lookup ("told":Str)=some (V.ref A.td):=rfl
theorem Qr(A:BA):(UF A).lookup ("told_of":Str)=none:=rfl
theorem BD.at(b:BD H C CK A kv ks d ds)(h:x∈ds):∃v,Vh H A.td (.str x.1.1) (some v)/\Has H v (Ut x):=by
 obtain⟨i,hi⟩:=List.mem_iff_getElem?.mp h;have e1:(kv.map (·.1))[i]?=(ds.map (fun x=>(Sum.inr x.1.1:Key)))[i]?:=by rw[b.ke]
 rw[ZH,ZH,hi]at e1
 cases ek:kv[i]? with
 |none=>rw[ek]at e1;cases e1
 |some q=>
  rw[ek]at e1;have e2:q.1=Sum.inr x.1.1:=ZT e1
  have nk:(kv.map (·.1)).Nodup:=by
   rw[b.ke];have nd:=b.nd;unfold List.Nodup at nd |-;rw[List.pairwise_map]at nd |-;exact nd.imp fun hab z=>hab (Sum.inr.inj z)
  obtain⟨dd,d1,d2⟩:=b.va.get (show(kv.map (·.2))[i]?=some q.2 by rw[ZH,ek];rfl);rw[ZH,hi]at d1;cases d1;refine⟨q.2,?_,d2⟩;have e3:=DL nk (ZJ ek);rw[e2]at e3;rw[<-e3];exact Vh.k (k:=Sum.inr x.1.1) b.td
theorem X4(h:Has H v (Ut x)):∃a u w,v=.ref a/\H a=some (.tup [u,.str x.1.2.2,w])/\Has H u (psD x.1.2.1)/\Has H w x.2.dat:=by
 unfold Ut at h;obtain⟨t,ys,rfl,ht,hl⟩:=Yr h;obtain⟨x1,r1,rfl,h1,hlA⟩:=Yb hl;obtain⟨x2,r2,rfl,h2,hlB⟩:=Yb hlA;obtain⟨x3,r3,rfl,h3,hlC⟩:=Yb hlB;obtain rfl:=Y8 hlC;obtain rfl:=has_str h2;exact⟨t,x1,x3,rfl,ht,h1,h3⟩
end L2
namespace K4
open PySem L2
section
variable{f g C CK:Addr}
def JU(C CK:Addr):Sp:=fun vs H Q _=>∃(t:Addr)(ks:List (Str×Shp))(d:Str->Nat)(ds:List Dd),vs=[.ref t]/\BI H C CK t ks d ds/\∀so,KI H CK so ks d->Q (.ref so) H
theorem Fe:Yi ["self"] ["self"] (Yd MV):=Y2
theorem Ec(T:BCl K C)(F:Fun K "kinds" "Book.kinds" MV f fd):Yf P w K mg base CX0 (n+1) f fd ["self"] (JU C CK):=by
 refine F.oq Fe fun cdv A outer s H vs Q E hr h=>?_;obtain⟨t,ks,d,ds,rfl,⟨A',kv,rfl,b⟩,q⟩:=h;refine⟨_,YZ (Yh (Yz (pv 0) rfl)),?_⟩;exact⟨C,_,_,_,b.ins,T.cl,T.so,KO _,q _ b.so⟩
def Uv(C CK:Addr):Sp:=fun vs H Q _=>∃(t:Addr)(ks:List (Str×Shp))(d:Str->Nat)(ds:List Dd),vs=[.ref t]/\BI H C CK t ks d ds/\∀l H',Same H H'->H l=none->H' l=some (.lst (ds.map fun x=>V.str x.1.1))->Q (.ref l) H'
theorem Fd:Yi ["self"] ["self"] (Yd MU):=Y2
theorem Eb(B:Blt mg)(T:BCl K C)(F:Fun K "names" "Book.names" MU f fd):Yf P w K mg base CX0 (n+1) f fd ["self"] (Uv C CK):=by
 refine F.oq Fd fun cdv A outer s H vs Q E hr h=>?_;obtain⟨t,ks,d,ds,rfl,⟨A',kv,rfl,b⟩,q⟩:=h;refine⟨_,YZ (Yh (VL (U7 rfl) rfl B.list JC (pa1 (Yz (pv 0) rfl)))),?_⟩;refine⟨C,_,_,_,b.ins,T.cl,T.td,Ek _,_,_,rfl,b.td,fun l hl=>?_⟩;refine q l _ (Yo hl _) hl ?_;rw[Ye];have e:(kv.map fun q=>kV q.1)=(kv.map (·.1)).map kV:=by rw[List.map_map];rfl
 rw[e,b.ke,List.map_map]
 rfl
def Gn(C CK:Addr):Sp:=fun vs H Q _=>∃(t:Addr)(ks:List (Str×Shp))(d:Str->Nat)(ds:List Dd)(x:Dd),vs=[.ref t,.str x.1.1]/\BI H C CK t ks d ds/\x∈ds/\∀v,Has H v (Ut x)->Q v H
theorem LP:Yi ["self","F"] ["self","F"] (Yd BP):=Y2
theorem Lo(B:Blt mg)(T:BCl K C)(F:Fun K "told_of" "Book.told_of" BP f fd):Yf P w K mg base CX0 (n+1) f fd ["self","F"] (Gn C CK):=by
 refine F.oq LP fun cdv A outer s H vs Q E hr h=>?_;obtain⟨t,ks,d,ds,x,rfl,⟨A',kv,rfl,b⟩,hx,q⟩:=h;have hu:=JF hr;obtain⟨v,h1,h2⟩:=b.at hx;refine⟨_,YY (Y0 (PW.pt (UQ (JH (Ve (Uc rfl B.isi rfl B.str Wm (pv 1)))) (Jl (Jx (WT hu (pv 1) (Yz (pv 0) rfl)))))) (YZ V8) Yl)
  (YZ (Yh (Vc hu (Yz (pv 0) rfl) (pv 1) (fun _ _=>rfl)))),?_⟩
 show let a:=_;let b:=_;Yk (VC _ b _) a _ _ _
 intros
 refine⟨_,_,_,_,rfl,.str _,TQ K "str",_,rfl,Yy (by simp) ?_⟩;refine⟨C,_,_,_,b.ins,T.cl,T.td,Ek _,_,h1,_,rfl,Yy (by simp) ?_⟩;exact⟨C,_,_,_,b.ins,T.cl,T.td,Ek _,v,h1,q v h2⟩
end
end K4
namespace L2
open PySem
def WV(o:Option Str):V:=(o.map V.str).getD .non
theorem Ab{α:Type}{zs:List α}(h:zs.length=1):∃a,zs=[a]:=match zs,h with|[a],_=>⟨a,rfl⟩
theorem Aa{α:Type}{zs:List α}(h:zs.length=2):∃a b,zs=[a,b]:=match zs,h with|[a,b],_=>⟨a,b,rfl⟩
def Bd.word:Bd->Str
 |.tag _=>"tag"
 |.name _=>"name"
 |.pair _ _=>"pair"
 |.one _=>"one"
 |.other _=>"other"
 |.choose _ _ _=>"choose"
 |.ask _ _=>"ask"
 |.letb _ _ _ _=>"let"
theorem KH{b:Bd}(h:Has H v b.dat):∃a ys,v=.ref a/\H a=some (.tup (.str b.word::ys)):=by
 obtain⟨ds,e⟩:∃ds,b.dat=.tup (.str b.word::ds):=by cases b <;> exact⟨_,by unfold Bd.dat;rfl⟩
 rw[e]at h;obtain⟨t,ys,rfl,ht,hl⟩:=Yr h;obtain⟨x1,r1,rfl,h1,_⟩:=Yb hl;obtain rfl:=has_str h1;exact⟨t,r1,rfl,ht⟩
theorem Dq(h:Has H v (Bd.letb x k e b).dat):∃a u1 u2,v=.ref a/\H a=some (.tup [.str "let",.str x,.str k,u1,u2]):=by
 unfold Bd.dat at h;obtain⟨t,ys,rfl,ht,hl⟩:=Yr h;obtain⟨x1,r1,rfl,h1,hlA⟩:=Yb hl;obtain⟨x2,r2,rfl,h2,hlB⟩:=Yb hlA;obtain⟨x3,r3,rfl,h3,hlC⟩:=Yb hlB;obtain⟨x4,r4,rfl,h4,hlD⟩:=Yb hlC;obtain⟨x5,r5,rfl,h5,hlE⟩:=Yb hlD;obtain rfl:=Y8 hlE;obtain rfl:=has_str h1;obtain rfl:=has_str h2;obtain rfl:=has_str h3;exact⟨t,x4,x5,rfl,ht⟩
end L2
namespace K4
open PySem L2
section
variable{f g C CK:Addr}
def Gp(C CK:Addr):Sp:=fun vs H Q _=>∃(t:Addr)(ks:List (Str×Shp))(d:Str->Nat)(ds:List Dd)(x:Dd),vs=[.ref t,.str x.1.1]/\BI H C CK t ks d ds/\x∈ds/\∀v,Has H v (psD x.1.2.1)->Q v H
def Rz(C CK:Addr):Sp:=fun vs H Q _=>∃(t:Addr)(ks:List (Str×Shp))(d:Str->Nat)(ds:List Dd)(x:Dd),vs=[.ref t,.str x.1.1]/\BI H C CK t ks d ds/\x∈ds/\Q (.str x.1.2.2) H
theorem P2:Yi ["self","F"] ["self","F"] (Yd BR):=Y2
theorem LI:Yi ["self","F"] ["self","F"] (Yd BS):=Y2
theorem Lr(T:BCl K C)(F:Fun K "parameters" "Book.parameters" BR f fd)(m:VO K C "told_of" g)(G:Yf P w K mg base CX0 n g gd ["self","F"] (Gn C CK))(bG:Binds K gd ["self","F"] []):Yf P w K mg base CX0 (n+1) f fd ["self","F"] (Gp C CK):=by
 refine F.oq P2 fun cdv A outer s H vs Q E hr h=>?_;obtain⟨t,ks,d,ds,x,rfl,b,hx,q⟩:=h;obtain⟨A',kv,rfl,b'⟩:=id b;refine⟨_,YZ (Yh (Yj Ym (Y6 (pv 0) T.cl m G hr bG .nil Y4 (pa1 (pv 1))) Ya)),?_⟩;refine⟨_,_,b'.ins,Qr _,A'.t,ks,d,ds,x,rfl,b,hx,fun v hv=>?_⟩;obtain⟨a,u,w',rfl,ha,hu,_⟩:=X4 hv;exact⟨_,_,Z2 ha,rfl,q u hu⟩
theorem IU(T:BCl K C)(F:Fun K "kind_of" "Book.kind_of" BS f fd)(m:VO K C "told_of" g)(G:Yf P w K mg base CX0 n g gd ["self","F"] (Gn C CK))(bG:Binds K gd ["self","F"] []):Yf P w K mg base CX0 (n+1) f fd ["self","F"] (Rz C CK):=by
 refine F.oq LI fun cdv A outer s H vs Q E hr h=>?_;obtain⟨t,ks,d,ds,x,rfl,b,hx,q⟩:=h;obtain⟨A',kv,rfl,b'⟩:=id b;refine⟨_,YZ (Yh (Yj Ym (Y6 (pv 0) T.cl m G hr bG .nil Y4 (pa1 (pv 1))) Ya)),?_⟩;refine⟨_,_,b'.ins,Qr _,A'.t,ks,d,ds,x,rfl,b,hx,fun v hv=>?_⟩;obtain⟨a,u,w',rfl,ha,hu,_⟩:=X4 hv;exact⟨_,_,Z2 ha,rfl,q⟩
def Xq(C CK:Addr)(p:Bd->Prop):Sp:=fun vs H Q _=>∃(t a fl:Addr)(v:V)(ks:List (Str×Shp))(c d:Str->Nat)(ds:List Dd)(kv:List (Key×V))(b:Bd)(zs:List Str),
 vs=[.ref t,.ref a,v,.ref fl]/\BI H C CK t ks d ds/\KK 30 c d ks/\NK (ks.map (·.1)) kv/\(∀x∈ds,x.1.2.1.length<=3)/\Rd H a (.dK kv)/\Has H v b.dat/\b.ok/\p b/\H fl=some (.lst (zs.map V.str))/\zs.length=b.parts.length/\(∀z∈zs,z∈ks.map (·.1))/\∀H',Same H H'->Q (WV (own ks (JA (ds.map (·.1))) kv b zs)) H'
abbrev rps:List Str:=["book","around","body","found"]
theorem P3:Yi ["book","around","body","found"] ["book","around","body","found"] (Yd Fj):=Y2
theorem LL:Yi ["book","around","body","found"] ["book","around","body","found"] (Yd BN):=Y2
theorem LK:Yi ["book","around","body","found"] ["book","around","body","found"] (Yd BM):=Y2
theorem P5:Yi ["book","around","body","found"] ["book","around","body","found"] (Yd Fl):=Y2
theorem Ls(TB:BCl K C)(TK:KCl K CK)(F:Fun K "kind_of_tag_body" "kind_of_tag_body" Fj f fd)(m1:VO K C "kinds" g1)(G1:Yf P w K mg base CX0 n g1 d1 ["self"] (JU C CK))(b1:Binds K d1 ["self"] [])(m2:VO K CK "kind_of_tag" g2)(G2:Yf P w K mg base CX0 n g2 d2 ["self","tag"] (Gq CK))(b2:Binds K d2 ["self","tag"] []):Yf P w K mg base CX0 (n+1) f fd rps (Xq C CK fun b=>∃t,b=.tag t):=by
 refine F.oq P3 fun cdv A outer s H vs Q E hr h=>?_;obtain⟨t,a,fl,v,ks,c,d,ds,kv,b,zs,rfl,bi,kk,nk,pl,ha,hv,ok,⟨tg,rfl⟩,hf,lz,hz,q⟩:=h;obtain⟨A',kt,rfl,b'⟩:=id bi;refine⟨_,YZ (Yh (Y6 (Vf (pv 0) TB.cl m1 G1 hr b1 .nil Y4) TK.cl m2 G2 hr b2 .nil Y4 (pa1 (Yj Ym (pv 2) Ya)))),?_⟩;unfold Bd.dat at hv;obtain⟨bt,rfl,hb⟩:=X3 hv;refine⟨_,_,b'.ins,rfl,A'.t,ks,d,ds,rfl,bi,fun so ki=>?_⟩;obtain⟨AK,SK,rfl,kd,kr⟩:=id ki;exact⟨_,_,kd.ins,rfl,_,_,Z2 hb,rfl,AK.t,ks,d,tg,rfl,ki,q H (Z8 _)⟩
theorem IT(F:Fun K "kind_of_name_body" "kind_of_name_body" BN f fd):Yf P w K mg base CX0 (n+1) f fd rps (Xq C CK fun b=>∃x,b=.name x):=by
 refine F.oq LL fun cdv A outer s H vs Q E hr h=>?_;obtain⟨t,a,fl,v,ks,c,d,ds,kv,b,zs,rfl,bi,kk,nk,pl,ha,hv,ok,⟨x,rfl⟩,hf,lz,hz,q⟩:=h;have hu:=JF hr;refine⟨_,YZ (Yh (TH hu (pv 1) (Yj Ym (pv 2) Ya) ⟨rfl,rfl,rfl,rfl⟩)),?_⟩;unfold Bd.dat at hv;obtain⟨bt,rfl,hb⟩:=X3 hv;refine⟨.inl ⟨kv,ha⟩,_,_,Z2 hb,rfl,_,.inl ⟨kv,Sum.inr x,ha,rfl,rfl⟩,?_⟩;have q1:Q (WV ((VF kv (Sum.inr x)).bind K8)) H:=q H (Z8 _)
 cases e:VF kv (Sum.inr x)with
 |none=>rw[e]at q1;exact q1
 |some v=>
  obtain⟨k,rfl,_⟩:=nk.at e;rw[e]at q1;exact q1
theorem IS(TB:BCl K C)(TK:KCl K CK)(F:Fun K "kind_of_pair_body" "kind_of_pair_body" BM f fd)(m1:VO K C "kinds" g1)(G1:Yf P w K mg base CX0 n g1 d1 ["self"] (JU C CK))(b1:Binds K d1 ["self"] [])(m2:VO K CK "kind_of_pair" g2)(G2:Yf P w K mg base CX0 n g2 d2 ["self","one","other"] (WH CK))(b2:Binds K d2 ["self","one","other"] []):Yf P w K mg base CX0 (n+1) f fd rps (Xq C CK fun b=>∃e g,b=.pair e g):=by
 refine F.oq LK fun cdv A outer s H vs Q E hr h=>?_;obtain⟨t,a,fl,v,ks,c,d,ds,kv,b,zs,rfl,bi,kk,nk,pl,ha,hv,ok,⟨e,g,rfl⟩,hf,lz,hz,q⟩:=h;obtain⟨z1,z2,rfl⟩:=Aa lz;obtain⟨A',kt,rfl,b'⟩:=id bi;refine⟨_,YZ (Yh (Y6 (Vf (pv 0) TB.cl m1 G1 hr b1 .nil Y4) TK.cl m2 G2 hr b2 .nil Y4 (pa2 (Yj VA (pv 3) Ya) (Yj VA (pv 3) Ya)))),?_⟩;refine⟨_,_,b'.ins,rfl,A'.t,ks,d,ds,rfl,bi,fun so ki=>?_⟩;obtain⟨AK,SK,rfl,kd,kr⟩:=id ki;exact⟨_,_,kd.ins,rfl,_,_,Z3 hf,rfl,_,_,Z3 hf,rfl,AK.t,ks,d,z1,z2,rfl,ki,q⟩
theorem Lv(F:Fun K "kind_of_let_body" "kind_of_let_body" Fl f fd):Yf P w K mg base CX0 (n+1) f fd rps (Xq C CK fun b=>∃x k e g,b=.letb x k e g):=by
 refine F.oq P5 fun cdv A outer s H vs Q E hr h=>?_;obtain⟨t,a,fl,v,ks,c,d,ds,kv,b,zs,rfl,bi,kk,nk,pl,ha,hv,ok,⟨x,k,e,g,rfl⟩,hf,lz,hz,q⟩:=h;obtain⟨z1,z2,rfl⟩:=Aa lz;refine⟨_,YY (Y0 (Yn Up (Yj VA (pv 3) Ya) (Yj Ym (pv 2) Ya) (Yv _)) (YZ (Yh VI)) Yl)
  (YZ (Yh (Yj VA (pv 3) Ya))),?_⟩
 obtain⟨bt,u1,u2,rfl,hb⟩:=Dq hv;have q1:Q (WV (if z1=k then some z2 else none)) H:=q H (Z8 _);refine⟨_,_,Z3 hf,rfl,_,_,Z2 hb,rfl,rfl,_,rfl,?_⟩
 by_cases c1:z1=k
 .rw [Zp c1]at q1
  exact Yy (by simp[c1]) ⟨_,_,Z3 hf,rfl,q1⟩
 .rw [Zq c1]at q1
  exact VE (by simpa using c1) q1
def W9(C CK:Addr):Sp:=fun vs H Q _=>∃(t:Addr)(ks:List (Str×Shp))(d:Str->Nat)(ds:List Dd)(z:Str)(s:Shp)(i:Nat),vs=[.ref t,.str z,.int i]/\BI H C CK t ks d ds/\VR ks z=some s/\(∀ts,s=.tags ts->Q .non H)/\∀a b,s=.pair a b->(i=1/\Q (.str a) H\/i=2/\Q (.str b) H)
theorem Dc:Yi ["book","kind","at","shape"] ["book","kind","at"] (Yd BL):=Y2
theorem IR(TB:BCl K C)(TK:KCl K CK)(F:Fun K "kind_of_part" "kind_of_part" BL f fd)(m1:VO K C "kinds" g1)(G1:Yf P w K mg base CX0 n g1 d1 ["self"] (JU C CK))(b1:Binds K d1 ["self"] [])(m2:VO K CK "shape_of" g2)(G2:Yf P w K mg base CX0 n g2 d2 ["self","kind"] (U9 CK))(b2:Binds K d2 ["self","kind"] []):Yf P w K mg base CX0 (n+1) f fd ["book","kind","at"] (W9 C CK):=by
 refine F.oq Dc fun cdv A outer s H vs Q E hr h=>?_;obtain⟨t,ks,d,ds,z,s',i,rfl,bi,hz,qt,qp⟩:=h;obtain⟨A',kt,rfl,b'⟩:=id bi;refine⟨_,YY (Yu 3 Dc.nd (Y6 (Vf (pv 0) TB.cl m1 G1 hr b1 .nil Y4) TK.cl m2 G2 hr b2 .nil Y4 (pa1 (pv 1))))
  (YY (Y0 (Yn Up (Yj Ym (pv 3) Ya) Yw (Yv _)) (YZ (Yh VI)) Yl)
  (YZ (Yh (Yj Ym (pv 3) (pv 2) (fun _ _=>rfl))))),?_⟩
 refine⟨_,_,b'.ins,rfl,A'.t,ks,d,ds,rfl,bi,fun so ki=>?_⟩;obtain⟨AK,SK,rfl,kd,kr⟩:=id ki;refine⟨_,_,kd.ins,rfl,AK.t,ks,d,z,_,rfl,ki,hz,fun v hv=>?_⟩
 cases s' with
 |tags ts=>
  obtain⟨ps,l,rfl,hp,hl⟩:=U5 hv;exact⟨_,_,Z2 hp,rfl,rfl,_,rfl,VE (by decide +kernel) (qt ts rfl)⟩
 |pair a b=>
  obtain⟨ps,rfl,hp⟩:=J0 hv;refine⟨_,_,Z2 hp,rfl,rfl,_,rfl,Yy (by decide +kernel) ?_⟩;rcases qp a b rfl with⟨rfl,q⟩|⟨rfl,q⟩
  .exact ⟨_,_,Z2 hp,rfl,q⟩
  .exact ⟨_,_,Z2 hp,rfl,q⟩
theorem P4:Yi ["book","around","body","found"] ["book","around","body","found"] (Yd Fk):=Y2
theorem FY:Yi ["book","around","body","found"] ["book","around","body","found"] (Yd MR):=Y2
theorem Lu(F:Fun K "kind_of_one_body" "kind_of_one_body" Fk f fd)(DP:Df P w K mg base n "kind_of_part" ["book","kind","at"] (W9 C CK)):Yf P w K mg base CX0 (n+1) f fd rps (Xq C CK fun b=>∃e,b=.one e):=by
 refine F.oq P4 fun cdv A outer s H vs Q E hr h=>?_;obtain⟨t,a,fl,v,ks,c,d,ds,kv,b,zs,rfl,bi,kk,nk,pl,ha,hv,ok,⟨e,rfl⟩,hf,lz,hz,q⟩:=h;obtain⟨z,rfl⟩:=Ab lz;refine⟨_,YZ (Yh (VJ DP hr (pa3 (pv 0) (Yj VA (pv 3) Ya) Ya))),?_⟩;obtain⟨s',hs⟩:=Vl (hz z (by simp));have q1:Q (WV (match VR ks z with|some (.pair a _)=>some a|_=>none)) H:=q H (Z8 _);rw[hs]at q1;exact⟨_,_,Z3 hf,rfl,t,ks,d,ds,z,s',1,rfl,bi,hs,fun ts e=>by rw[e]at q1;exact q1,fun a b e=>.inl ⟨rfl,by rw[e]at q1;exact q1⟩⟩
theorem EY(F:Fun K "kind_of_other_body" "kind_of_other_body" MR f fd)(DP:Df P w K mg base n "kind_of_part" ["book","kind","at"] (W9 C CK)):Yf P w K mg base CX0 (n+1) f fd rps (Xq C CK fun b=>∃e,b=.other e):=by
 refine F.oq FY fun cdv A outer s H vs Q E hr h=>?_;obtain⟨t,a,fl,v,ks,c,d,ds,kv,b,zs,rfl,bi,kk,nk,pl,ha,hv,ok,⟨e,rfl⟩,hf,lz,hz,q⟩:=h;obtain⟨z,rfl⟩:=Ab lz;refine⟨_,YZ (Yh (VJ DP hr (pa3 (pv 0) (Yj VA (pv 3) Ya) Ya))),?_⟩;obtain⟨s',hs⟩:=Vl (hz z (by simp));have q1:Q (WV (match VR ks z with|some (.pair _ b)=>some b|_=>none)) H:=q H (Z8 _);rw[hs]at q1;exact⟨_,_,Z3 hf,rfl,t,ks,d,ds,z,s',2,rfl,bi,hs,fun ts e=>by rw[e]at q1;exact q1,fun a b e=>.inr ⟨rfl,by rw[e]at q1;exact q1⟩⟩
end
end K4
namespace L2
open PySem
theorem OJ(h:Has H v (Bd.ask fn as).dat):∃a u,v=.ref a/\H a=some (.tup [.str "ask",.str fn,u])/\Has H u (.tup (Bd.dats as)):=by
 unfold Bd.dat at h;obtain⟨t,ys,rfl,ht,hl⟩:=Yr h;obtain⟨x1,r1,rfl,h1,hlA⟩:=Yb hl;obtain⟨x2,r2,rfl,h2,hlB⟩:=Yb hlA;obtain⟨x3,r3,rfl,h3,hlC⟩:=Yb hlB;obtain rfl:=Y8 hlC;obtain rfl:=has_str h1;obtain rfl:=has_str h2;exact⟨t,x3,rfl,ht,h3⟩
theorem Dp(h:JA hs fn=some (ps,y)):(fn,ps,y)∈hs:=by
 unfold JA at h
 cases e:hs.find? (fun h=>decide (h.1=fn))with
 |none=>rw[e]at h;cases h
 |some g=>
  rw[e]at h;have m:=List.mem_of_find?_eq_some e;have q:g.1=fn:=by simpa using List.find?_some e
  have e2:g.2=(ps,y):=ZT h;obtain⟨g1,g2⟩:=g;dsimp only at q e2;subst q e2;exact m
theorem G9:∀zs ws:List Str,Dat.pqs (zs.map Dat.str) (ws.map Dat.str)=decide (zs=ws)
 |[],[]=>by unfold List.map Dat.pqs;rfl
 |[],w::ws=>by unfold List.map Dat.pqs;rfl
 |z::zs,[]=>by unfold List.map Dat.pqs;rfl
 |z::zs,w::ws=>by
  rw[ZV,ZV];unfold Dat.pqs;rw[G9 zs ws,Bool.eq_iff_iff];simp[Dat.pq]
theorem Qo{ds:List Dd}(nd:(ds.map fun x=>x.1.1).Nodup)(h:x∈ds):JA (ds.map (·.1)) x.1.1=some x.1.2:=
 I0 (h:=x.1) (by rw[List.map_map];exact nd) (ZW.mpr ⟨x,h,rfl⟩)
theorem Qn{ds:List Dd}(h:fn∉ds.map fun x=>x.1.1):JA (ds.map (·.1)) fn=none:=by
 cases e:JA (ds.map (·.1)) fn with
 |none=>rfl
 |some p=>
  obtain⟨x,hx,ex⟩:=ZW.mp (Dp e);exact Zr (ZW.mpr ⟨x,hx,by rw[ex]⟩) h
end L2
namespace K4
open PySem L2
section
theorem P6:Yi ["book","around","body","found"] ["book","around","body","found"] (Yd Fm):=Y2
theorem Ij:List.Nodup [("name":Str),"kind"]:=by decide +kernel
theorem Lw(TB:BCl K C)(F:Fun K "kind_of_ask_body" "kind_of_ask_body" Fm f fd)(m1:VO K C "names" g1)(G1:Yf P w K mg base CX0 (n+2) g1 d1 ["self"] (Uv C CK))(b1:Binds K d1 ["self"] [])(m2:VO K C "parameters" g2)(G2:Yf P w K mg base CX0 (n+2) g2 d2 ["self","F"] (Gp C CK))(b2:Binds K d2 ["self","F"] [])(m3:VO K C "kind_of" g3)(G3:Yf P w K mg base CX0 (n+2) g3 d3 ["self","F"] (Rz C CK))(b3:Binds K d3 ["self","F"] []):
  Yf P w K mg base CX0 (n+2+1) f fd rps (Xq C CK fun b=>∃fn as,b=.ask fn as):=by
 refine F.oq P6 fun cdv A outer s H vs Q E hr h=>?_;obtain⟨t,a,fl,v,ks,c,d,ds,kv,b,zs,rfl,bi,kk,nk,pl,ha,hv,ok,⟨fn,as,rfl⟩,hf,lz,hz,q⟩:=h;have hr2:=hr.mono (show 2<=n+2 by omega);refine⟨_,YY (Y0 (Yn Jp (Yj Ym (pv 2) Ya) (Vf (pv 0) TB.cl m1 G1 hr b1 .nil Y4) rfl) (YZ (Yh VI)) Yl)
  (YY (Y0 (Yn (Bi hr2) (V6 ["name","kind"] [] (JV (Y6 (pv 0) TB.cl m2 G2 hr b2 .nil Y4 (pa1 (Yj Ym (pv 2) Ya)))) TY (fun cl C fp s H=>Vi (n:=2) rfl (Yx (Yp 0 Ij rfl (Or.inl rfl) (Or.inr rfl)) (Yx (Yp 1 Ij rfl (Or.inl rfl) (Or.inr rfl)) VW)))
    (fun cl C fp s H=>pv 1)) (pv 3) (Yv _)) (YZ (Yh VI)) Yl)
  (YZ (Yh (Y6 (pv 0) TB.cl m3 G3 hr b3 .nil Y4 (pa1 (Yj Ym (pv 2) Ya)))))),?_⟩
 show let a:=_;let b:=_;let c:=Yk (VC _ b _) a;let d:=_;Yk (VC _ d _) c _ _ _
 intros
 obtain⟨bt,ub,rfl,hb,_⟩:=OJ hv;obtain⟨A',kt,rfl,b'⟩:=id bi;have qo:∀H',Same H H'->Q (WV (match JA (ds.map (·.1)) fn with|some (ps,k)=>if ps.map (·.2)=zs then some k else none|none=>none)) H':=q;refine⟨_,_,Z2 hb,rfl,_,_,b'.ins,rfl,A'.t,ks,d,ds,rfl,bi,fun l H1 s1 hl g1=>?_⟩;have el:(ds.map fun x=>V.str x.1.1)=(ds.map fun x=>x.1.1).map V.str:=by rw[List.map_map];rfl
 rw[el]at g1;refine⟨l,_,rfl,.inl (Z3 g1),rfl,Js _,_,rfl,?_⟩;rw[US]
 by_cases mf:fn∈ds.map fun x=>x.1.1
 case neg=>
  rw[Qn mf]at qo;exact VE (by simp only[if_true,Bool.not_eq_true',decide_eq_false_iff_not];exact mf) (qo _ s1)
 refine Yy (by simp only[if_true,Bool.not_eq_true',decide_eq_false_iff_not,Classical.not_not];exact mf) ?_;obtain⟨x,hx,ex1⟩:=ZW.mp mf;have hd1:=Qo b'.nd hx;rw[ex1]at hd1;rw[hd1]at qo;obtain⟨⟨_,ps,y⟩,bx⟩:=x;dsimp only at ex1 qo;subst ex1;have lps:ps.length<=3:=pl _ hx;have bi1:=bi.mono s1;refine⟨_,_,s1 _ _ b'.ins,rfl,_,_,Z2 (s1 _ _ hb),rfl,A'.t,ks,d,ds,_,rfl,bi1,hx,fun v hv2=>?_⟩;unfold psD at hv2;dsimp only at hv2;obtain⟨pa,pxs,rfl,hpa,hps⟩:=Yr hv2;have lp:=hps.length;rw[ZA]at lp;refine⟨⟨_,Z2 hpa⟩,?_⟩;refine V0 pxs.length (Yq (by omega)) (fun j vs H'=>Same H1 H'/\vs.length=j/\vs=((ps.map (·.2)).take j).map V.str) ⟨Z8 _,rfl,rfl⟩ (fun j vs H' z=>z.2.1) ?_ ?_ ?_ ?_
 .intro j vs H' hj z
  exact⟨pxs,pxs[j],Z2 (z.1 _ _ hpa),by simp[hj]⟩
 .intro vs H' z
  exact⟨pxs,Z2 (z.1 _ _ hpa),ZG _⟩
 .intro j vs H' u H'' R hj z yl hR
  obtain⟨rfl,yy⟩:=yl;obtain⟨dd,hd1,hd2⟩:=hps.get (yy pxs (Z2 (z.1 _ _ hpa)));rw[ZH]at hd1
  cases hp:ps[j]? with
  |none=>rw[hp]at hd1;cases hd1
  |some pr=>
   rw[hp]at hd1;cases hd1;obtain⟨t2,rfl,ht2⟩:=X3 hd2;refine⟨_,Z2 (z.1 _ _ ht2),rfl,?_⟩;refine hR _ _ ⟨z.1,by rw[ZL,z.2.1];rfl,?_⟩;rw[z.2.2,show(ps.map (·.2)).take (j+1)=(ps.map (·.2)).take j++[pr.2]from take_snoc (by rw[ZH,hp];rfl),ZK]
   rfl
 .intro vs H' l2 z hl2
  obtain⟨z1,_,rfl⟩:=z;rw[Zg (by rw[ZA];omega)];refine up_in hl2 _ fun H2 s2 g2=>?_;have s02:=(s1.trans z1).trans s2;refine⟨.lst ((ps.map (·.2)).map Dat.str),.lst (zs.map Dat.str),AZ g2,AZ (s02 _ _ hf),NB _,_,rfl,?_⟩;unfold Dat.pq;rw[G9]
  by_cases cz:ps.map (·.2)=zs
  .rw [Zp cz]at qo
   refine Yy (by simp[cz]) ?_;exact⟨_,_,s02 _ _ b'.ins,rfl,_,_,Z2 (s02 _ _ hb),rfl,A'.t,ks,d,ds,_,rfl,bi.mono s02,hx,qo H2 s02⟩
  .rw [Zq cz]at qo
   exact VE (by simp[cz]) (qo H2 s02)
end
end K4
namespace L2
open PySem PySem.Spec PyProof.Rows
theorem Re(hc:X.calm=true):Jb X (.builtin "any") (fun xs H Q=>∃(p:Addr)(bs:List Bool),xs=[.ref p]/\SqL X.K H p (bs.map V.bl)/\Q (.bl (bs.any id)) H):=by
 intro pins s U H xs us Q I r h;obtain⟨p,bs,rfl,hq,q⟩:=h;obtain⟨u,rfl,ru⟩:=vals1 r;cases ru;obtain⟨its,r',pl,hz⟩:=I.list hq;have hp:p<s.heap.objs.size:=let⟨o,_,e,_⟩:=pl;ZP e
 have ln:=r'.length;rw[ZA]at ln
 have no:((List.range its.toArray.size).any fun i=>(bs[i]?).getD false)=bs.any id:=by
  rw[Bool.eq_iff_iff,List.any_eq_true,List.any_eq_true]
  constructor
  .rintro ⟨i,_,h⟩
   cases e:bs[i]? with
   |none=>rw[e]at h;cases h
   |some b=>rw[e]at h;exact⟨b,ZJ e,h⟩
  .rintro ⟨b,hb,h⟩
   obtain⟨i,hi⟩:=List.mem_iff_getElem?.mp hb;exact⟨i,by have:=(ZF.mp hi).1;simp;omega,by rw[hi];exact h⟩
 refine call_any_walk (wpAny_pyIter_list pl.isList ⟨s.heap.objs.size,_,_,its.toArray.size,_,_,fun i=>(bs[i]?).getD false,rfl,Walks.list (A:=X.A.in1) (I.ok.hd hc) _ p (Ze hp) its.toArray,⟨⟨_,ZY _ rfl,rfl,rfl⟩,pl.isList.push _⟩,?_,?_⟩)
 .intro i v s' Q' E' hP hQ
  obtain⟨b,e,rfl⟩:=Wp r' i v (by simpa using hP);dsimp only at hQ;rw[e]at hQ;exact wpAny_truthy_bool hQ
 .intro h' tk hk
  rw[no];refine⟨.bl (bs.any id),H,I.kept fun b o e=>hk b o (fun hm=>?_) (ZE _ e),rfl,q⟩;have e':b=s.heap.objs.size:=by simpa using hm
  rw[e']at e;exact Nat.lt_irrefl _ (ZP e)
end L2
namespace L2
open PySem
theorem By(h:Has H v (Bd.choose e ts bs).dat):∃a u l xs,v=.ref a/\H a=some (.tup [.str "choose",u,.ref l])/\H l=some (.tup xs)/\HasL H xs (Bd.brs bs ts):=by
 unfold Bd.dat at h;obtain⟨t,ys,rfl,ht,hl⟩:=Yr h;obtain⟨x1,r1,rfl,h1,hlA⟩:=Yb hl;obtain⟨x2,r2,rfl,h2,hlB⟩:=Yb hlA;obtain⟨x3,r3,rfl,h3,hlC⟩:=Yb hlB;obtain rfl:=Y8 hlC;obtain rfl:=has_str h1;obtain⟨l,xs,rfl,h4,h5⟩:=Yr h3;exact⟨t,x2,l,xs,rfl,ht,h4,h5⟩
theorem brs_len:∀{bs:List Bd}{ts:List Str},bs.length=ts.length->(Bd.brs bs ts).length=ts.length
 |[],[],_=>by simp[Bd.brs]
 |[],_::_,h=>by simp at h
 |_::_,[],h=>by simp at h
 |b::bs,t::ts,h=>by
  unfold Bd.brs;have:=brs_len (bs:=bs) (ts:=ts) (by simpa using h);simp[this]
theorem brs_get:∀{bs:List Bd}{ts:List Str}{i:Nat}{d:Dat},(Bd.brs bs ts)[i]?=some d->∃t b,ts[i]?=some t/\d=.tup [.str t,Bd.dat b]
 |[],ts,i,d,h=>by unfold Bd.brs at h;simp at h
 |b::bs,[],i,d,h=>by unfold Bd.brs at h;simp at h
 |b::bs,t::ts,0,d,h=>by
  unfold Bd.brs at h;exact⟨t,b,rfl,(ZT h).symm⟩
 |b::bs,t::ts,i+1,d,h=>by
  unfold Bd.brs at h;exact brs_get (bs:=bs) (ts:=ts) h
theorem zA{z y:Str}{r:List Str}:UU ((z::y::r).map V.str) (some 2) none=r.map V.str:=by
 have e:HT.sIx ((z::y::r).map V.str).length 0 (some 2)=2:=by
  unfold HT.sIx;simp
  try omega
 unfold UU;rw[e];simp[HT.sIx];exact Zg (by rw[ZA];exact ZG _)
theorem Lj(h:VR ks z=some (.tags ts))(g:∀u∈r,u=y):own ks hd kv (.choose e ts bs) (z::y::r)=some y:=Zp ⟨h,g⟩
theorem Mb(h:¬(VR ks z=some (.tags ts)/\∀u∈r,u=y)):own ks hd kv (.choose e ts bs) (z::y::r)=none:=Zq h
theorem Ks(y:Str)(r:List Str):((r.map fun u=>!decide (V.str u=V.str y)).any id=false)↔∀u∈r,u=y:=by
 rw[List.any_eq_false]
 constructor
 .intro h u hu
  have:=h _ (ZW.mpr ⟨u,hu,rfl⟩);simpa using this
 .intro h b hb
  obtain⟨u,hu,rfl⟩:=ZW.mp hb;simp[h u hu]
end L2
namespace K4
open PySem L2
section
theorem Rh:bootBuiltins "any"=some (.builtin "any"):=by decide +kernel
theorem WK:Yi ["book","around","body","found","shape","kind"] ["book","around","body","found"] (Yd Gy):=Y2
theorem Ih:List.Nodup [("tag":Str),"branch"]:=by decide +kernel
theorem AV:List.Nodup [("other":Str),"kind"]:=by decide +kernel
theorem Bl(B:Blt mg)(ma:mg "any"=none)(TB:BCl K C)(TK:KCl K CK)(F:Fun K "kind_of_choose_body" "kind_of_choose_body" Gy f fd)(m1:VO K C "kinds" g1)(G1:Yf P w K mg base CX0 (n+2) g1 d1 ["self"] (JU C CK))(b1:Binds K d1 ["self"] [])(m2:VO K CK "shape_of" g2)(G2:Yf P w K mg base CX0 (n+2) g2 d2 ["self","kind"] (U9 CK))(b2:Binds K d2 ["self","kind"] []):Yf P w K mg base CX0 (n+2+1) f fd rps (Xq C CK fun b=>∃e ts bs,b=.choose e ts bs/\1<=bs.length):=by
 refine F.oq WK fun cdv A outer s H vs Q E hr h=>?_;obtain⟨t,a,fl,v,ks,c,d,ds,kv,b,zs,rfl,bi,kk,nk,pl,ha,hv,ok,⟨e,ts,bs,rfl,b0⟩,hf,lz,hz,q⟩:=h;have hr2:=hr.mono (show 2<=n+2 by omega);refine⟨_,YY (Yu 4 WK.nd (Y6 (Vf (pv 0) TB.cl m1 G1 hr b1 .nil Y4) TK.cl m2 G2 hr b2 .nil Y4 (pa1 (Yj VA (pv 3) Ya))))
  (YY (Y0 (PW.pt (UQ (Yn Up (Yj Ym (pv 4) Ya) Yw (Yv _)) (Jl (Yn (Bi hr2) (VL Vq rfl B.tuple VN (pa1 (V6 ["tag","branch"] [] (JV (Yj Ym (pv 2) Ya)) TY (fun cl C fp s H=>Vi (n:=2) rfl (Yx (Yp 0 Ih rfl (Or.inl rfl) (Or.inr rfl)) (Yx (Yp 1 Ih rfl (Or.inl rfl) (Or.inr rfl)) VW))) (fun cl C fp s H=>pv 0)))) (Yj Ym (pv 4) Ya) (Yv _))))) (YZ (Yh VI)) Yl)
  (YY (Yu 5 WK.nd (hx:=Or.inr rfl) (Yj VA (pv 3) Ya))
  (YY (Y0 (Ve (Y7 (Re rfl) rfl ma Rh (pa1 (V6 ["other"] [5] (JL (V3 MH (pv 3) (JJ Ya) JK)) (Vu (i:=0) (by decide)) (fun cl C fp s H=>Yp 0 AV rfl (Or.inl rfl) (Or.inr rfl)) (fun cl C fp s H=>V7 Up (pv 0) (pv 1) rfl))))) (YZ (Yh VI)) Yl)
  (YZ (Yh (pv 5)))))),?_⟩
 dsimp only[Vb,Cx.nox,Cx.wish];show let a:=_;let b:=_;let c:=Yk (VC _ b _) a;let d:=Yk _ c;let e:=_;let f:=Yk (VC _ e _) d;Yk _ f _ _ _
 intros
 obtain⟨bt,ub,bl,xs,rfl,hb,hbl,hxs⟩:=By hv;obtain⟨A',kt,rfl,b'⟩:=id bi;unfold Bd.ok at ok;obtain⟨_,lb,l7,_⟩:=ok;have lx:=hxs.length;rw[brs_len lb]at lx;obtain⟨z,zr,rfl⟩:∃z zr,zs=z::zr:=match zs,lz with|z::zr,_=>⟨z,zr,rfl⟩
 have lr:zr.length=bs.length:=Nat.succ.inj lz;obtain⟨y,r,rfl⟩:∃y r,zr=y::r:=match zr,lr with|[],e=>by rw[<-e]at b0;exact Zr b0 (by decide)|y::r,_=>⟨y,r,rfl⟩
 rw[Zf]at lr;obtain⟨sz,hsz⟩:=Vl (hz z (by simp));refine⟨_,_,b'.ins,rfl,A'.t,ks,d,ds,rfl,bi,fun so ki=>?_⟩;obtain⟨AK,SK,rfl,kd,kr⟩:=id ki;refine⟨_,_,kd.ins,rfl,_,_,Z3 hf,Y5 (j:=0) rfl,AK.t,ks,d,z,sz,rfl,ki,hsz,fun v hv2=>?_⟩
 cases sz with
 |pair pa pb=>
  obtain⟨ps,rfl,hp⟩:=J0 hv2;rw[Mb (fun z=>by rw[hsz]at z;cases z.1)]at q;exact⟨_,_,Z2 hp,rfl,rfl,_,rfl,VE (by decide +kernel) (q H (Z8 _))⟩
 |tags us=>
 obtain⟨ps,l,rfl,hp,hl⟩:=U5 hv2;refine⟨_,_,Z2 hp,rfl,rfl,_,rfl,Yy (by decide +kernel) ?_⟩;refine⟨_,_,Z2 hb,rfl,⟨_,Z2 hbl⟩,?_⟩;refine V0 xs.length (Yq (by omega)) (fun j vs H'=>Same H H'/\vs.length=j/\vs=(ts.take j).map V.str) ⟨Z8 _,rfl,rfl⟩ (fun j vs H' z=>z.2.1) ?_ ?_ ?_ ?_
 .intro j vs H' hj z
  exact⟨xs,xs[j],Z2 (z.1 _ _ hbl),by simp[hj]⟩
 .intro vs H' z
  exact⟨xs,Z2 (z.1 _ _ hbl),ZG _⟩
 .intro j vs H' u H'' R hj z yl hR
  obtain⟨rfl,yy⟩:=yl;obtain⟨dd,hd1,hd2⟩:=hxs.get (yy xs (Z2 (z.1 _ _ hbl)));obtain⟨tg,bb,ht,rfl⟩:=brs_get hd1;obtain⟨t2,ub2,rfl,ht2,_⟩:=KB hd2;refine⟨_,Z2 (z.1 _ _ ht2),rfl,?_⟩;refine hR _ _ ⟨z.1,by rw[ZL,z.2.1];rfl,?_⟩;rw[z.2.2,take_snoc ht,ZK]
  rfl
 .intro vs H1 l2 z hl2
  obtain⟨z1,_,rfl⟩:=z;rw[Zg (by omega)];refine up_in hl2 (.lst (ts.map V.str)) fun H2 s2 g2=>?_;refine⟨l2,_,rfl,.inl ⟨Z3 g2,fun t3 ht3=>?_⟩⟩;refine up_in ht3 (.tup (ts.map V.str)) fun H3 s3 g3=>?_;have s03:=(z1.trans s2).trans s3;refine⟨_,_,Z2 (s03 _ _ hp),rfl,.tup (ts.map Dat.str),.tup (us.map Dat.str),Y1 g3 (UP ts),Y1 (s03 _ _ hl) (UP us),?_,_,rfl,?_⟩
  .have:=NB ts
   unfold Dat.dep at this |-;exact this
  unfold Dat.pq;rw[G9]
  by_cases ct:ts=us
  case neg=>
   rw[Mb (fun z=>ct (by have z1:=hsz.symm.trans z.1;injection z1 with z2;injection z2 with z3;exact z3.symm))]at q;exact VE (by simp[ct]) (q H3 s03)
  subst ct;refine Yy (by simp) ?_;have hf3:=s03 _ _ hf;refine⟨_,.str y,Z3 hf3,Y5 (j:=1) rfl,?_⟩;refine⟨2,rfl,fl,_,rfl,Z3 hf3,fun l4 hl4=>?_⟩;rw[zA];refine up_in hl4 (.lst (r.map V.str)) fun H4 s4 g4=>?_;refine⟨⟨_,Z3 g4⟩,?_⟩;refine V0 r.length (Yq (by omega)) (fun j vs H'=>Same H4 H'/\vs=((r.take j).map fun u=>!decide (V.str u=V.str y)).map V.bl/\vs.length=j) ⟨Z8 _,rfl,rfl⟩ (fun j vs H' z=>z.2.2) ?_ ?_ ?_ ?_
  .intro j vs H' hj z
   exact⟨_,.str r[j],Z3 (z.1 _ _ g4),by rw[ZH,ZD hj];rfl⟩
  .intro vs H' z
   exact⟨_,Z3 (z.1 _ _ g4),by rw[ZA];exact ZG _⟩
  .intro j vs H' u H'' R hj z yl hR
   obtain⟨rfl,yy⟩:=yl;have e5:=yy _ (Z3 (z.1 _ _ g4));rw[ZH,ZD hj]at e5;cases ZT e5;refine⟨rfl,hR _ _ ⟨z.1,?_,by rw[ZL,z.2.2];rfl⟩⟩;rw[z.2.1,take_snoc (ZD hj),ZK,ZK]
   rfl
  .intro vs H5 l6' z hl6
   obtain⟨z5,rfl,_⟩:=z;rw[List.take_length];refine up_in hl6 (.lst ((r.map fun u=>!decide (V.str u=V.str y)).map V.bl)) fun H6 s6 g6=>?_;have s06:=((s03.trans s4).trans z5).trans s6;refine⟨l6',_,rfl,Z3 g6,_,rfl,?_⟩
   by_cases cu:∀u∈r,u=y
   .rw [Lj hsz cu]at q
    exact Yy (by rw[(Ks y r).mpr cu];simp) (q H6 s06)
   .rw [Mb (fun z=>cu z.2)]at q
    refine VE ?_ (q H6 s06)
    cases ea:(r.map fun u=>!decide (V.str u=V.str y)).any id with
    |true=>rfl
    |false=>exact Zr ((Ks y r).mp ea) cu
end
end K4
namespace L2
open PySem
theorem Te{g:TG}{tb:TS}{D:Ends}(Pv:Nat->St->Hp->Prop)(h0:Pv 0 U H)(hl:∀i U H,i<=xs.length->Pv i U H->Sq K tp H a xs)(hs:∀i x U H r,xs[i]?=some x->Pv i U H->H r=none->g (.ref r) U (upd H r (.tup [.int ((i:Nat):Int),x])) fun σ2 H2=>tb {D with nx:=Pv (i+1),ct:=Pv (i+1),bk:=D.nx} σ2 H2)(hd:∀U H,Pv xs.length U H->D.nx U H):
  ∃W:Nat->Nat->St->Hp->Prop,(∃m,W 0 m U H)/\∀i m U H,W i m U H->
   ((Ite K tp a).stop i H/\D.nx U H)\/((Ite K tp a).go i H/\∃N:St->Hp->Prop,(∀U' H',N U' H'->∃m',m'<m/\W (i+1) m' U' H')/\∀x H',(Ite K tp a).yld i H x H'->g x U H' fun σ2 H2=>tb {D with nx:=N,ct:=N,bk:=D.nx} σ2 H2):=by
 refine⟨fun i m U H=>m=xs.length-i/\i<=xs.length/\Pv i U H,⟨xs.length,by simp,Zc _,h0⟩,fun i m U H z=>?_⟩;obtain⟨rfl,hi,p⟩:=z;have q:=hl i U H hi p;rcases Nat.lt_or_ge i xs.length with hlt|hge
 .refine .inr ⟨⟨xs,xs[i],q,ZD hlt⟩,Pv (i+1),fun U' H' p'=>⟨xs.length-(i+1),by omega,rfl,hlt,p'⟩,fun x H' y=>?_⟩
  obtain⟨r,x1,rfl,hr,rfl,hx⟩:=y;exact hs i x1 U H r (hx xs q) p hr
 .have e:i=xs.length:=by omega
  exact .inl ⟨⟨xs,q,by omega⟩,by subst e;exact hd U H p⟩
theorem Dv{g:TG}{tb:TS}{D:Ends}(Pv:Nat->St->Hp->Prop)(h0:Pv 0 U H)(hl:∀i U H,i<=xs.length->Pv i U H->Sq K tp H a xs)(hs:∀(B:St->Hp->Prop)(R:VK) i x U H r,xs[i]?=some x->Pv i U H->H r=none->g (.ref r) U (upd H r (.tup [.int ((i:Nat):Int),x])) fun σ2 H2=>tb {nx:=Pv (i+1),rt:=R,bk:=B,ct:=Pv (i+1)} σ2 H2)(hd:∀U H,Pv xs.length U H->D.nx U H):
  ∃W:Nat->Nat->St->Hp->Prop,(∃m,W 0 m U H)/\∀i m U H,W i m U H->
   ((Ite K tp a).stop i H/\D.nx U H)\/((Ite K tp a).go i H/\∃N:St->Hp->Prop,(∀U' H',N U' H'->∃m',m'<m/\W (i+1) m' U' H')/\∀x H',(Ite K tp a).yld i H x H'->g x U H' fun σ2 H2=>tb {D with nx:=N,ct:=N,bk:=D.nx} σ2 H2):=
 Te Pv h0 hl (fun i x U H r hx p hr=>hs _ _ i x U H r hx p hr) hd
theorem Rd.same(r:Rd H a u)(e:Same H H'):Rd H' a u:=r.imp (fun h=>e _ _ h) (fun⟨o,h⟩=>⟨o,e _ _ h⟩)
theorem Kx(kv:List (Key×V))(b:Bd):(wth kv b).length<=kv.length+1:=by
 cases b with
 |letb x z e g=>exact NI kv _ _
 |_=>exact Nat.le_succ _
theorem WU{o:Option Str}(h:o=none):WV o=.non:=by rw[h];rfl
end L2
namespace K4
open PySem L2
section
variable{f g C CK:Addr}
def RJ(C CK:Addr)(n:Nat):Sp:=fun vs H Q _=>∃(t a:Addr)(v:V)(ks:List (Str×Shp))(c d:Str->Nat)(ds:List Dd)(kv:List (Key×V))(b:Bd),
 vs=[.ref t,.ref a,v]/\BI H C CK t ks d ds/\KK 30 c d ks/\HK (ks.map (·.1)) (JA (ds.map (·.1)))/\NK (ks.map (·.1)) kv/\(∀x∈ds,x.1.2.1.length<=3)/\Rd H a (.dK kv)/\kv.length+b.dep<=500/\Has H v b.dat/\b.ok/\b.dep<n/\n<=500/\
 ∀r p H',Same H H'->H' r=some (.tup [WV (kdn ks (JA (ds.map (·.1))) n kv b),p])->(kdn ks (JA (ds.map (·.1))) n kv b=none->∃l w r,p=.ref l/\H' l=some (.tup (List.map V.int w))/\w.length<=n/\wr ks (JA (ds.map (·.1))) n kv b=w::r)->Q (.ref r) H'
theorem Tz:Yi ["book","around","body","within","found","number","part","kind","place","rule"] ["book","around","body"] (Yd sKP):=Y2
theorem DY(h:U[i]?=some (some v))(k:u D (U.set j (some v)) H):Yk (EG (Nx i) (Vo j)) u D U H:=by
 show E9 U[i]? _;rw[h];exact k
theorem S1(B:Blt mg)(me:mg "enumerate"=none)(TB:BCl K C)(TC:KCl K CK)(F:Fun K "kind_or_place" "kind_or_place" sKP f fd)(G:Yf P w K mg base CX0 (L+3) f fd ["book","around","body"] (RJ C CK n))(bG:Binds K fd ["book","around","body"] [])(mG:mg "kind_or_place"=some (.ref f))(m1:VO K C "kinds" g1)(G1:Yf P w K mg base CX0 (L+3) g1 d1 ["self"] (JU C CK))(b1:Binds K d1 ["self"] [])(m2:VO K CK "names" g2)(G2:Yf P w K mg base CX0 (L+3) g2 d2 ["self"] (XA CK))(b2:Binds K d2 ["self"] [])(DP:Df P w K mg base (L+3) "parts" ["body"] Xr)(mU:mg "RULES"=some (.ref aR))(hM:base.MapOf (Y9 P w) aR mR)(hR:∀b:Bd,(∀e ts bs,b=.choose e ts bs->1<=bs.length)->∃(g:Addr)(gd:FuncData)(p:Bd->Prop),mR (Sum.inr b.word)=some (.ref g)/\Yf P w K mg base CX0 (L+3) g gd rps (Xq C CK p)/\p b/\W.keepIn K (.ref g)=true/\Binds K gd rps []):
  Yf P w K mg base CX0 (L+3+1) f fd ["book","around","body"] (RJ C CK (n+1)):=by
 refine F.oq Tz fun cdv A outer s H vs Q E hr h=>?_;obtain⟨t,a,v,ks,c,d,ds,kv,b,rfl,bi,kk,hk,nk,pl,ha,kl,hv,ok,dn,n5,q⟩:=h;have hu:=JF hr;have DG:Df P w K mg base (L+3) "kind_or_place" ["book","around","body"] (RJ C CK n):=⟨f,fd,mG,F.kp,bG,G⟩;refine⟨_,YY (Yu 3 Tz.nd (pv 1))
  (YY (Y0 (Yn VQ (Yj Ym (pv 2) Ya) Yw (Yv _))
   (YY (Y0 (PW.pt (UQ (Jx (Uy hu (Yj Ym (pv 2) Ya) (pv 1))) (Jl (Yn Jp (Yj Ym (pv 2) Ya) (Vf (Vf (pv 0) TB.cl m1 G1 hr b1 .nil Y4) TC.cl m2 G2 hr b2 .nil Y4) rfl)))) (YZ (Yh (Yt (pa2 VI (Yt Vj))))) Yl)
   (YY (Yu 3 Tz.nd (VL B5 rfl B.dict Uk (pa1 (pv 1))))
   (YZ (Vt hu (pv 3) (Yj Ym (pv 2) Ya) (Yj Ym (pv 2) Ya) rfl)))) Yl)
  (YY (Yu 4 Tz.nd (Vg Vj))
  (YY (V1 Zv rfl (GQ rfl me (pa1 (VJ DP hr (pa1 (pv 2))))) (Vi (n:=2) rfl (Yx (Yp 5 Tz.nd) (Yx (Yp 6 Tz.nd) VW)))
   (YY (UI (VJ DG hr (pa3 (pv 0) (pv 3) (pv 6))) (Vi (n:=2) rfl (Yx (Yp 7 Tz.nd) (Yx (Yp 8 Tz.nd) VW))))
   (YY (Y0 (Yn Ud (pv 7) VI (Yv _)) (YZ (Yh (Yt (pa2 VI (VB Md (Yt (pa1 (pv 5))) (pv 8)))))) Yl)
   (YZ (Vm (XU Zz Z0 Z1 Je (pv 4) (pa1 (pv 7))))))))
  (YY (Yu 9 Tz.nd (Ld rfl mU hM hu (Yj Ym (pv 2) Ya) (fun _ _=>rfl)))
  (YY (Yu 7 Tz.nd (IA (pv 9) hr Y4 (pa4 (pv 0) (pv 1) (pv 2) (pv 4))))
  (YY (Y0 (Yn Ud (pv 7) VI (Yv _)) (YZ (Yh (Yt (pa2 VI (Yt Vj))))) Yl)
  (YZ (Yh (Yt (pa2 (pv 7) VI)))))))))),?_⟩
 dsimp only[Vb,Cx.nox,Cx.wish];show let a:=_;let b:=_;let c:=Yk (VC _ b _) a;let d:=Yk _ c;let e:=Yk _ d;let f:=_;let g:=_;let h:=Yk (VC _ g _) f;let i:=Yk _ h;let j:=Yk (UH _ _ i) e;let k:=Yk _ j;let l:=_;let m:=Yk _ l;let n:=_;let o:=Yk (VC _ n _) m;let p:=Yk (VC _ o _) k;Yk _ p _ _ _
 intros
 obtain⟨bt,ys,rfl,hb⟩:=KH hv;have few:=Bd.few ok
 have bad:kdn ks (JA (ds.map (·.1))) (n+1) kv b=none->[[]]=wr ks (JA (ds.map (·.1))) (n+1) kv b->∀H1,Same H H1->∀t0 r0,H1 t0=none->(upd H1 t0 (.tup [])) r0=none->Q (.ref r0) (upd (upd H1 t0 (.tup [])) r0 (.tup [.non,.ref t0])):=fun e hw0 H1 s1 t0 r0 h0 h1=>by
  have s2:=Yo h0 (.tup []);have g2:upd H1 t0 (.tup []) t0=some (.tup []):=Ye;refine q r0 (.ref t0) _ ((s1.trans s2).trans (Yo h1 _)) (by rw[WU e];exact Ye) fun _=>⟨t0,[],[],rfl,(Yo h1 _) _ _ g2,Zc _,hw0.symm⟩
 refine DY rfl ?_;refine XC (fun U' H1=>∃wa,Same H H1/\ ¬Jm ks kv b/\Rd H1 wa (.dK (wth kv b))/\U'=[some (.ref t),some (.ref a),some (.ref bt),some (.ref wa),none,none,none,none,none,none]) ?_ ?_
 .rintro U' H1 ⟨wa,s1,nb,hw,rfl⟩
  have nkw:=nk.wth nb;refine⟨sl 0,fun fl hfl=>?_⟩;refine up_in hfl _ fun H2 s2 g2=>?_;refine⟨.ref bt,b,rfl,(hv.mono s1).mono s2,ok,fun u H3 s3 hu3=>?_⟩;obtain⟨pa,xs,rfl,hpa,hxs⟩:=Yr hu3;have lx:=hxs.length;rw[Z9,ZA]at lx;refine⟨pa,true,xs,rfl,Z2 hpa,?_⟩
  let I:Nat->St->Hp->Prop:=fun i U Hi=>Same H1 Hi/\Hi pa=some (.tup xs)/\HasL Hi xs (Bd.dats b.parts)/\(∃zs:List Str,(b.parts.take i).map (kdn ks (JA (ds.map (·.1))) n (wth kv b))=zs.map some/\Hi fl=some (.lst (zs.map V.str)))/\∃z5 z6 z7 z8,U=[some (.ref t),some (.ref a),some (.ref bt),some (.ref wa),some (.ref fl),z5,z6,z7,z8,none]
  refine Te (tp:=true) (xs:=xs) I ⟨s2.trans s3,hpa,hxs,⟨[],rfl,s3 _ _ g2⟩,_,_,_,_,rfl⟩ (fun i U Hi _ z=>Z2 z.2.1) ?_ ?_
  .rintro i x U Hi r hx ⟨si,hai,hxi,⟨zs,ez,hfi⟩,z5,z6,z7,z8,rfl⟩ hr'
   refine up_in hr' _ fun HR sR gR=>?_;obtain⟨dd,hd1,hd2⟩:=hxi.get hx;rw[Z9,ZH]at hd1
   cases hc:b.parts[i]? with
   |none=>rw[hc]at hd1;cases hd1
   |some c'=>
    rw[hc]at hd1;cases hd1;have hcm:=ZJ hc;have dc:=Bd.dep_mem hcm;have il:=(ZF.mp hc).1;have wl:=Kx kv b;have sHR:=(s1.trans si).trans sR
    have lz:zs.length<=i:=by
     have:=congrArg List.length ez;rw[ZA,ZA,ZN]at this;omega
    refine⟨_,Z2 gR,rfl,?_⟩;refine⟨t,wa,x,ks,c,d,ds,wth kv b,c',rfl,bi.mono sHR,kk,hk,nkw,pl,hw.same (si.trans sR),by omega,hd2.mono sR,Bd.ok_parts ok c' hcm,by omega,by omega,fun r2 p2 H4 s4 h4 hp=>?_⟩;refine⟨_,Z2 h4,rfl,?_⟩
    cases ek:kdn ks (JA (ds.map (·.1))) n (wth kv b) c' with
    |none=>
     have en:kdn ks (JA (ds.map (·.1))) (n+1) kv b=none:=TU (ZW.mpr ⟨c',hcm,ek⟩);obtain⟨l2,ws,wt,rfl,hl2,lw,ew⟩:=hp ek;have pn:none∈b.parts.map (kdn ks (JA (ds.map (·.1))) n (wth kv b)):=ZW.mpr ⟨c',hcm,ek⟩;obtain⟨wt2,ew2⟩:=EA (f:=wr ks (JA (ds.map (·.1))) n (wth kv b)) hc ((Ez fun e he=>by have:=Bd.dep_mem (Zk he);omega).mpr (by rw[ez];simp)) ew;have ew3:=(Ky nb pn).trans ew2;refine⟨rfl,_,rfl,VE (by simp[WV]) ?_⟩;refine⟨sl 1,fun t1 ht1=>?_⟩;refine up_in ht1 _ fun H5 s5 g5=>?_;refine⟨t1,l2,_,_,rfl,rfl,Z2 g5,Z2 (s5 _ _ hl2),by simp,Zh (Yq (by show 1+(ws.map V.int).length<=1000;rw[ZA];omega)),fun e0=>?_,fun e0 t2 ht2=>?_⟩
     .refine ⟨sl 2,fun r6 hr6=>?_⟩
      exact q r6 _ _ (((sHR.trans s4).trans s5).trans (Yo hr6 _)) (by rw[WU en];exact Ye) fun _=>⟨t1,[((i:Nat):Int)],wt2,rfl,(Yo hr6 _) _ _ g5,by show 1<=n+1;omega,by rw[ew3];cases ws with|nil=>rfl|cons _ _=>cases e0⟩
     .refine up_in ht2 _ fun H6 s6 g6=>?_
      refine⟨sl 2,fun r6 hr6=>?_⟩;exact q r6 _ _ ((((sHR.trans s4).trans s5).trans s6).trans (Yo hr6 _)) (by rw[WU en];exact Ye) fun _=>⟨t2,((i:Nat):Int)::ws,wt2,rfl,(Yo hr6 _) _ _ g6,by rw[Zf];omega,ew3⟩
    |some zk=>
     refine⟨rfl,_,rfl,Yy (by simp[WV]) ?_⟩;have hf4:=s4 _ _ (sR _ _ hfi);refine⟨.inl ⟨rfl,_,Z3 hf4⟩,fl,_,_,rfl,rfl,hf4,Yq (by rw[ZA];omega),?_⟩;have hp4:=s4 _ _ (sR _ _ hai);have tk:TK H4 (upd H4 fl (.lst (zs.map V.str++[WV (some zk)]))):=fun b us h=>by rw[Yg (fun e=>by rw[e,hf4]at h;cases h)];exact h
     refine⟨((si.trans sR).trans s4).putN hfl,tk _ _ hp4,XN tk _ (Bd.sts _) ((hxi.mono sR).mono s4),⟨zs++[zk],?_,?_⟩,_,_,_,_,rfl⟩
     .rw [take_snoc hc,ZK,ZK,ez]
      show _++[kdn _ _ _ _ _]=_;rw[ek];rfl
     .rw [Ye,ZK];rfl
  .rintro U Hi ⟨si,hai,hxi,⟨zs,ez,hfi⟩,z5,z6,z7,z8,rfl⟩
   rw[Zg (by omega)]at ez;have sH:=s1.trans si;have a0:atI (V.str b.word::ys) 0=some (.str b.word):=Y5 (j:=0) rfl
   obtain⟨gr,gdr,pr,r1,r2,r3,r4,r5⟩:=hR b (fun e' ts' bs' eb=>by
    subst eb;unfold Bd.ok at ok;rw[ok.2.1];exact ok.2.2.1.1)
   have lz:zs.length=b.parts.length:=by
    have:=congrArg List.length ez;rw[ZA,ZA]at this;exact this.symm
   have mz:∀z∈zs,z∈ks.map (·.1):=fun z hz=>by
    have m:some z∈b.parts.map (kdn ks (JA (ds.map (·.1))) n (wth kv b)):=by rw[ez];exact ZW.mpr ⟨z,hz,rfl⟩
    obtain⟨p,_,e⟩:=ZW.mp m;exact Dn kk hk n _ p z nkw e
   have eo:=Mh nb ez;refine⟨_,_,Z2 (sH _ _ hb),a0,Sum.inr b.word,_,.ref gr,rfl,r1,rfl,?_⟩;refine⟨gr,gdr,rps,Xq C CK pr,rfl,r2,r4,r5,t,a,fl,.ref bt,ks,c,d,ds,kv,b,zs,rfl,bi.mono sH,kk,nk,pl,ha.same sH,hv.mono sH,ok,r3,hfi,lz,mz,fun H5 s5=>?_⟩;rw[<-eo];have s05:=sH.trans s5
   cases ek:kdn ks (JA (ds.map (·.1))) (n+1) kv b with
   |none=>exact⟨rfl,_,rfl,VE (by simp[WV]) ⟨sl 0,fun t0 ht0=>⟨sl 2,fun r6 hr6=>bad ek (PR nb (by rw[ez];simp) ek) H5 s05 t0 r6 ht0 hr6⟩⟩⟩
   |some y=>
    refine⟨rfl,_,rfl,Yy (by simp[WV]) ⟨sl 2,fun r6 hr6=>?_⟩⟩;exact q r6 _ _ (s05.trans (Yo hr6 _)) (by rw[ek];exact Ye) fun e=>by rw[ek]at e;cases e
 .intro N key
  have a0:atI (V.str b.word::ys) 0=some (.str b.word):=Y5 (j:=0) rfl;refine⟨_,_,Z2 hb,a0,rfl,_,rfl,?_⟩
  cases b with
  |letb x k e g=>
   obtain⟨bt',u1,u2,e1,hb'⟩:=Dq hv;cases e1;obtain⟨A',kt,rfl,b'⟩:=id bi;refine VE (decide_eq_true rfl) ?_;refine⟨_,_,Z2 hb',rfl,_,.inl ⟨kv,Sum.inr x,ha,rfl,rfl⟩,_,rfl,?_⟩
   by_cases kn:(VF kv (Sum.inr x)).isSome=true
   .exact VE (by rw[kn]) ⟨sl 0,fun t0 ht0=>⟨sl 2,fun r6 hr6=>bad (Gb (.inl kn)) (E1 (.inl kn)) H (Z8 _) t0 r6 ht0 hr6⟩⟩
   refine Yy (by simpa using kn) ?_;refine⟨_,_,Z2 hb',rfl,_,_,b'.ins,rfl,A'.t,ks,d,ds,rfl,bi,fun so ki=>?_⟩;obtain⟨AK,SK,rfl,kd',kr'⟩:=id ki;refine⟨_,_,kd'.ins,rfl,AK.t,ks,d,rfl,ki,fun l H1 s1 hl g1=>?_⟩;have el:(ks.map fun k=>V.str k.1)=(ks.map (·.1)).map V.str:=by rw[List.map_map];rfl
   rw[el]at g1;refine⟨l,_,rfl,.inl (Z3 g1),rfl,Js _,_,rfl,?_⟩;rw[US]
   by_cases km:k∈ks.map (·.1)
   case neg=>exact VE (by simp only[if_true,Bool.not_eq_true',decide_eq_false_iff_not];exact km) ⟨sl 0,fun t0 ht0=>⟨sl 2,fun r6 hr6=>bad (Gb (.inr km)) (E1 (.inr km)) H1 s1 t0 r6 ht0 hr6⟩⟩
   refine Yy (by simp only[if_true,Bool.not_eq_true',decide_eq_false_iff_not,Classical.not_not];exact km) ?_;refine⟨a,kv,rfl,ha.same s1,fun l2 hl2=>?_⟩;refine up_in hl2 _ fun H2 s2 g2=>?_;have hb2:=s2 _ _ (s1 _ _ hb');refine⟨_,_,Z2 hb2,rfl,_,_,Z2 hb2,rfl,_,J5.k (k:=Sum.inr x) g2 (Yq (by omega)),?_⟩;exact key _ _ ⟨l2,(s1.trans s2).putN (s1.free hl2),fun z=>z.elim (fun z=>kn z) (fun z=>z km),.inl Ye,rfl⟩
  |_=>exact Yy (fun z=>by have z1:=Zt z;injection z1 with z2;exact Zr z2 (by dsimp only[Bd.word];decide +kernel)) (key _ _ ⟨a,Z8 _,fun z=>z,ha,rfl⟩)
end
end K4
namespace L2
open PySem
def Um(ks:List (Str×Shp))(ps:List (Str×Str)):List (List W):=ps.foldl (fun rows p=>rows.flatMap fun r=>(Ys ks 3 p.2).map fun u=>r++[u]) [[]]
def WQ(r:List W):Dat:=.tup (r.map W.dat)
theorem BY(ks:List (Str×Shp))(ps:List (Str×Str))(p:Str×Str):Um ks (ps++[p])=(Um ks ps).flatMap fun r=>(Ys ks 3 p.2).map fun u=>r++[u]:=by
 unfold Um;rw[List.foldl_append]
 rfl
theorem RY{α β:Type}(f:α->List β)(k:Nat):∀l:List α,(∀a∈l,(f a).length=k)->(l.flatMap f).length=l.length*k
 |[],_=>by simp
 |a::l,h=>by
  rw[List.flatMap_cons,ZL,h a Za,RY f k l (fun b hb=>h b (ZM _ hb)),Zf,Nat.succ_mul,Nat.add_comm]
theorem Ub(c:Str->Nat):∀(ps:List (Str×Str))(n:Nat),ps.foldl (fun r p=>r*c p.2) n=n*Vd c ps
 |[],n=>by unfold Vd;simp
 |p::ps,n=>by
  unfold Vd;rw[List.foldl_cons,List.foldl_cons,Ub c ps (n*c p.2),Ub c ps (1*c p.2),Nat.one_mul,Nat.mul_assoc]
theorem G0(h:∀p∈ps,0<c p.2)(i:Nat):Vd c (ps.take i)<=Vd c ps/\0<Vd c ps:=by
 have pos:∀qs:List (Str×Str),(∀p∈qs,0<c p.2)->0<Vd c qs:=fun qs=>by
  induction qs with
  |nil=>intro _;exact Nat.one_pos
  |cons q qs ih=>
   intro hq;unfold Vd;rw[List.foldl_cons,Ub,Nat.one_mul];exact Nat.mul_pos (hq q Za) (ih fun p hp=>hq p (ZM _ hp))
 refine⟨?_,pos ps h⟩
 have e:Vd c ps=Vd c (ps.take i)*Vd c (ps.drop i):=by
  conv=>lhs;rw[<-List.take_append_drop i ps]
  unfold Vd;rw[List.foldl_append,Ub]
  rfl
 rw[e];exact Nat.le_mul_of_pos_right _ (pos _ fun p hp=>h p (List.mem_of_mem_drop hp))
theorem KK.c0(h:KK 30 c d ks)(hy:y∈ks.map (·.1)):(Ys ks 3 y).length=c y/\0<c y:=by
 have s:=h.small hy;obtain⟨a,b,_⟩:=V4 h 3 y hy (by omega);exact⟨a,b⟩
theorem EO(h:KK 30 c d ks)(ps:List (Str×Str))(hp:∀p∈ps,p.2∈ks.map (·.1)):(Um ks ps).length=Vd c ps:=by
 have go:∀(ps:List (Str×Str))(rows:List (List W)),(∀p∈ps,p.2∈ks.map (·.1))->(ps.foldl (fun rows p=>rows.flatMap fun r=>(Ys ks 3 p.2).map fun u=>r++[u]) rows).length=ps.foldl (fun r p=>r*c p.2) rows.length:=fun ps=>by
  induction ps with
  |nil=>intro rows _;rfl
  |cons p ps ih=>
   intro rows hq;rw[List.foldl_cons,List.foldl_cons,ih _ fun q m=>hq q (ZM _ m),RY _ (c p.2) rows fun a _=>by rw[ZA];exact(h.c0 (hq p Za)).1]
 exact go ps [[]] hp
theorem BZ(ps:List (Str×Str)):∀r∈Um ks ps,r.length=ps.length:=by
 have go:∀(ps:List (Str×Str))(n:Nat)(rows:List (List W)),(∀r∈rows,r.length=n)->∀r∈ps.foldl (fun rows p=>rows.flatMap fun r=>(Ys ks 3 p.2).map fun u=>r++[u]) rows,r.length=n+ps.length:=fun ps=>by
  induction ps with
  |nil=>intro n rows h r hr;exact h r hr
  |cons p ps ih=>
   intro n rows h r hr
   have:=ih (n+1) _ (fun r hr=>by
    obtain⟨r0,m0,m1⟩:=List.mem_flatMap.mp hr;obtain⟨u,_,rfl⟩:=ZW.mp m1;rw[ZL,h r0 m0];rfl) r hr
   rw[this,Zf];omega
 intro r hr;have:=go ps 0 [[]] (fun r hr=>by rw[ZQ.mp hr];rfl) r hr;omega
theorem Oa(hx:Has H x (WQ r))(hb:H b=some (.tup [wv]))(hw:Has H wv u.dat)(hr:r.length<=3)(q:∀v H',Same H H'->Has H' v (WQ (r++[u]))->Q v H'):
  Ux K x (.ref b) H Q\/Uw K x (.ref b) H Q:=by
 unfold WQ at hx q;obtain⟨a,xs,rfl,ha,hl⟩:=Yr hx;have ll:=hl.length;rw[ZA]at ll
 cases r with
 |nil=>
  obtain rfl:=Y8 hl;exact .inl ⟨a,b,[wv],rfl,rfl,Z2 ha,Z2 hb,q _ _ (Z8 _) (Y1 hb (Z5 hw))⟩
 |cons y r=>
  refine .inr ⟨a,b,xs,[wv],rfl,rfl,Z2 ha,Z2 hb,(fun z=>by subst z;cases ll),Zh (Yq (by simp only[List.length_singleton];omega)),(fun z=>nomatch z),fun _ p hp=>?_⟩;have s:=Yo hp (.tup (xs++[wv]));refine q _ _ s (Y1 Ye ?_);rw[ZK];exact Z7 (hl.mono s) (Z5 (hw.mono s))
theorem Be{ps:List (Str×Str)}{i:Nat}(h:HasL H xs (ps.map fun p=>.tup [.str p.1,.str p.2]))(hx:xs[i]?=some x):∃p t,ps[i]?=some p/\x=.ref t/\H t=some (.tup [.str p.1,.str p.2]):=by
 obtain⟨d,h1,h2⟩:=h.get hx;rw[ZH]at h1
 cases e:ps[i]? with
 |none=>rw[e]at h1;cases h1
 |some p=>
  rw[e]at h1;cases h1;obtain⟨t,rfl,ht⟩:=X3 h2;exact⟨p,t,rfl,rfl,ht⟩
end L2
namespace K4
open PySem L2
section
variable{f g C CK:Addr}
def MC(CK:Addr):Sp:=fun vs H Q _=>∃(so:Addr)(ks:List (Str×Shp))(d:Str->Nat)(ps:List (Str×Str))(v:V),vs=[.ref so,v]/\KI H CK so ks d/\ks.length<=6/\Has H v (psD ps)/\ps.length<=3/\(∀p∈ps,p.2∈ks.map (·.1))/\(ps.map (·.1)).Nodup/\(∀p∈ps,WdS p.1)/\
 ∀H',Same H H'->Q (.bl true) H'
theorem GE:Yi ["kinds","parameters","seen","name","kind"] ["kinds","parameters"] (Yd BX):=Y2
theorem IZ(B:Blt mg)(TC:KCl K CK)(F:Fun K "are_parameters" "are_parameters" BX f fd)(hM:mg "MOST_PARAMETERS"=some u)(rM:RelV (.int 3) u)(DN:Df P w K mg base n "is_name" ["text"] (Uu 97))(m2:VO K CK "names" g)(G2:Yf P w K mg base CX0 n g gd ["self"] (XA CK))(b2:Binds K gd ["self"] []):Yf P w K mg base CX0 (n+1) f fd ["kinds","parameters"] (MC CK):=by
 refine F.oq GE fun cdv A outer s H vs Q E hr h=>?_;obtain⟨so,ks,d,ps,v,rfl,ki,k6,hv,l3,pk,nd,spl,q⟩:=h;have hu:=JF hr;unfold psD at hv;obtain⟨pa,xs,rfl,hpa,hxs⟩:=Yr hv;have lx:=hxs.length;rw[ZA]at lx;refine⟨_,YY (Y0 (Yn X1 (Y7 Y3 rfl B.len Zu (pa1 (pv 1))) (JE rfl hM rM) (Yv _)) (YZ V8) Yl)
  (YY (Yu 2 GE.nd Vy)
  (YY (V1 Zv rfl (JV (pv 1)) (Vi (n:=2) rfl (Yx (Yp 3 GE.nd) (Yx (Yp 4 GE.nd) VW)))
   (YY (Y0 (PW.pt (UQ (JH (Ve (VJ DN hr (pa1 (pv 3))))) (UQ (Jx (Uy hu (pv 3) (pv 2))) (Jl (Yn Jp (pv 4) (Vf (pv 0) TC.cl m2 G2 hr b2 .nil Y4) rfl))))) (YZ V8) Yl)
   (YZ (Vt hu (pv 2) (pv 3) Uo rfl))))
  (YZ (Yh Uo)))),?_⟩
 dsimp only[Vb,Cx.nox,Cx.wish];show let a:=_;let b:=_;let c:=_;let d:=Yk (VC _ c _) b;let e:=Yk (UH _ _ d) a;let f:=Yk _ e;let g:=_;Yk (VC _ g _) f _ _ _
 intros
 refine⟨pa,_,rfl,.inr (Z2 hpa),_,rfl,Yy (by simp;omega) ?_⟩;intro sd hsd;refine up_in hsd _ fun H1 s1 g1=>?_;refine⟨⟨_,Z2 (s1 _ _ hpa)⟩,?_⟩
 let I:Nat->St->Hp->Prop:=fun i U Hi=>Same H Hi/\∃kv z3 z4,Hi sd=some (.dK kv)/\kv.map (·.1)=(ps.take i).map (fun p=>(Sum.inr p.1:Key))/\U=[some (.ref so),some (.ref pa),some (.ref sd),z3,z4]
 refine Tg (xs:=xs) I ⟨s1,[],_,_,g1,rfl,rfl⟩ (fun i U Hi _ z=>Z2 (z.1 _ _ hpa)) ?_ ?_
 .rintro BB RR i x U Hi hx ⟨si,kv,z3,z4,hk,ek,rfl⟩
  obtain⟨p,t,hp,rfl,ht⟩:=Be hxs hx;have hpm:=ZJ hp;have i3:=(ZF.mp hp).1;obtain⟨w1,w2,w3⟩:=spl p hpm
  have nk:VF kv (Sum.inr p.1)=none:=Rr (by
   rw[ek];intro z;obtain⟨q1,hq1,e1⟩:=ZW.mp z;exact RO nd (show(ps.map (·.1))[i]?=some p.1 by rw[ZH,hp];rfl) (by rw[<-List.map_take];exact ZW.mpr ⟨q1,hq1,Sum.inr.inj e1⟩))
  refine⟨_,Z2 (si _ _ ht),rfl,?_⟩;refine⟨p.1,rfl,w1,w2,w3,fun H2 s2=>⟨_,rfl,Yy (by simp) ?_⟩⟩;refine⟨_,(show Vh H2 sd (.str p.1) none by rw[<-nk];exact Vh.k (k:=Sum.inr p.1) (s2 _ _ hk)),_,rfl,Yy (by simp) ?_⟩;have ki2:=ki.mono (si.trans s2);obtain⟨AK,SK,e1,kd,kr⟩:=id ki2;refine⟨_,_,by rw[<-e1];exact kd.ins,rfl,so,ks,d,rfl,ki2,fun l H3 s3 hl g3=>?_⟩;have el:(ks.map fun k=>V.str k.1)=(ks.map (·.1)).map V.str:=by rw[List.map_map];rfl
  rw[el]at g3;refine⟨l,_,rfl,.inl (Z3 g3),rfl,Js _,_,rfl,Yy ?_ ?_⟩
  .rw [US]
   simp only[if_true,Bool.not_eq_true',decide_eq_false_iff_not,Classical.not_not];exact pk p hpm
  have lk:kv.length<=3:=by
   have:=congrArg List.length ek;rw[ZA,ZA,ZN]at this;omega
  refine⟨_,J5.k (k:=Sum.inr p.1) (s3 _ _ (s2 _ _ hk)) (Yq (by omega)),?_⟩;refine⟨((si.trans s2).trans s3).putN hsd,_,_,_,Ye,?_,rfl⟩;rw[Xx _ nk,ZK,ek,take_snoc hp,ZK]
  rfl
 .rintro U Hi ⟨si,_⟩
  exact q Hi si
def Xa(CK:Addr):Sp:=fun vs H Q _=>∃(so:Addr)(ks:List (Str×Shp))(c d:Str->Nat)(ps:List (Str×Str))(v:V),vs=[.ref so,v]/\KI H CK so ks d/\KK 30 c d ks/\Has H v (psD ps)/\(∀p∈ps,p.2∈ks.map (·.1))/\Vd c ps<=1000/\
 ∀H',Same H H'->Q (.int (Vd c ps:Nat)) H'
theorem Jw:Yi ["kinds","parameters","count","name","kind"] ["kinds","parameters"] (Yd WO):=Y2
theorem NP(B:Blt mg)(TC:KCl K CK)(F:Fun K "row_count" "row_count" WO f fd)(m2:VO K CK "worths_of" g)(G2:Yf P w K mg base CX0 n g gd ["self","kind"] (Ju CK))(b2:Binds K gd ["self","kind"] []):Yf P w K mg base CX0 (n+1) f fd ["kinds","parameters"] (Xa CK):=by
 refine F.oq Jw fun cdv A outer s H vs Q E hr h=>?_;obtain⟨so,ks,c,d,ps,v,rfl,ki,kk,hv,pk,top,q⟩:=h;unfold psD at hv;obtain⟨pa,xs,rfl,hpa,hxs⟩:=Yr hv;have lx:=hxs.length;rw[ZA]at lx;refine⟨_,YY (Yu 2 Jw.nd Ya)
  (YY (V1 Zv rfl (JV (pv 1)) (Vi (n:=2) rfl (Yx (Yp 3 Jw.nd) (Yx (Yp 4 Jw.nd) VW)))
   (YZ (Fu (i:=2) Jw.nd rfl (Or.inl rfl) (Y7 Y3 rfl B.len Zu (pa1 (Y6 (pv 0) TC.cl m2 G2 hr b2 .nil Y4 (pa1 (pv 4))))) OD)))
  (YZ (Yh (pv 2)))),?_⟩
 dsimp only[Vb,Cx.nox,Cx.wish];show let a:=_;let b:=_;let c:=Yk (UH _ _ b) a;Yk _ c _ _ _
 intros
 refine PL ?_;refine⟨⟨_,Z2 hpa⟩,?_⟩
 let I:Nat->St->Hp->Prop:=fun i U Hi=>Same H Hi/\∃z3 z4,U=[some (.ref so),some (.ref pa),some (.int (Vd c (ps.take i):Nat)),z3,z4]
 refine Tg (xs:=xs) I ⟨Z8 _,_,_,rfl⟩ (fun i U Hi _ z=>Z2 (z.1 _ _ hpa)) ?_ ?_
 .rintro BB RR i x U Hi hx ⟨si,z3,z4,rfl⟩
  obtain⟨p,t,hp,rfl,ht⟩:=Be hxs hx;have hk:=pk p (ZJ hp);refine⟨_,Z2 (si _ _ ht),rfl,?_⟩;have ki2:=ki.mono si;obtain⟨AK,SK,e1,kd,kr⟩:=id ki2;refine⟨_,rfl,_,_,by rw[<-e1];exact kd.ins,rfl,so,ks,d,p.2,rfl,ki2,hk,fun l ys H3 s3 hl g3 hy=>?_⟩;have ly:=hy.length;obtain⟨c1,c2⟩:=kk.c0 hk;rw[ZA,c1]at ly;have le:=(G0 (c:=c) (ps:=ps) (fun p hp=>(kk.c0 (pk p hp)).2) i).1;refine⟨l,_,rfl,.inl (Z3 g3),.inl ⟨by omega,by omega⟩,?_⟩;have e:((Vd c (ps.take i):Nat):Int)*((ys.length:Nat):Int)=((Vd c (ps.take (i+1)):Nat):Int):=by rw[take_snoc hp,G4,ly,Int.natCast_mul]
  exact⟨si.trans s3,some (.str p.1),some (.str p.2),by rw[<-e];rfl⟩
 .rintro U Hi ⟨si,z3,z4,rfl⟩
  rw[Zg (by omega)];exact q Hi si
def XZ(CK:Addr):Sp:=fun vs H Q _=>∃(so:Addr)(ks:List (Str×Shp))(c d:Str->Nat)(ps:List (Str×Str))(v:V),vs=[.ref so,v]/\KI H CK so ks d/\KK 30 c d ks/\Has H v (psD ps)/\(∀p∈ps,p.2∈ks.map (·.1))/\ps.length<=3/\Vd c ps<=1000/\
 ∀l xs H',Same H H'->H l=none->H' l=some (.lst xs)->HasL H' xs ((Um ks ps).map WQ)->Q (.ref l) H'
theorem Jv:Yi ["kinds","parameters","rows","name","kind"] ["kinds","parameters"] (Yd WN):=Y2
theorem O4:List.Nodup [("row":Str),"worth","kinds","kind"]:=by decide +kernel
theorem NO(B:Blt mg)(TC:KCl K CK)(F:Fun K "rows_over" "rows_over" WN f fd)(m2:VO K CK "worths_of" g)(G2:Yf P w K mg base CX0 n g gd ["self","kind"] (Ju CK))(b2:Binds K gd ["self","kind"] []):Yf P w K mg base CX0 (n+1) f fd ["kinds","parameters"] (XZ CK):=by
 refine F.oq Jv fun cdv A outer s H vs Q E hr h=>?_;obtain⟨so,ks,c,d,ps,v,rfl,ki,kk,hv,pk,l3,top,q⟩:=h;unfold psD at hv;obtain⟨pa,xs,rfl,hpa,hxs⟩:=Yr hv;have lx:=hxs.length;rw[ZA]at lx;refine⟨_,YY (Yu 2 Jv.nd (Vg (pa1 (Yt Vj))))
  (YY (V1 Zv rfl (JV (pv 1)) (Vi (n:=2) rfl (Yx (Yp 3 Jv.nd) (Yx (Yp 4 Jv.nd rfl (Or.inr rfl)) VW)))
   (YZ (LV (i0:=2) (wi2:=Iy K (FF CK "worths_of" (Ju CK) [] E (Nx 2) (JT (Nx 3) Rx))) [0,4] Jv.nd rfl (Or.inl rfl) (JL (pv 2))
    (fun cl C fp s H=>Yp 0 O4 rfl (Or.inl rfl) (Or.inr rfl)) (fun cl C fp s H=>JL (Y6 (pv 2) TC.cl m2 G2 hr b2 .nil Y4 (pa1 (pv 3)))) (fun cl C fp s H=>Yp 1 O4 rfl (Or.inl rfl) (Or.inr rfl))
    (fun cl C fp s H=>VB (r:=fun x y H Q=>Ux K x y H Q\/Uw K x y H Q) Ue (pv 0) (Yt (pa1 (pv 1)))))))
  (YZ (Yh (pv 2)))),?_⟩
 dsimp only[Vb,Cx.nox,Cx.wish];show let a:=_;let b:=_;let c:=Yk (UH _ _ b) a;Yk _ c _ _ _
 intros
 refine⟨sl 0,fun t0 ht0=>⟨sl 1,fun l0 hl0=>?_⟩⟩;have s1:=Yo ht0 (.tup []);have g1:upd H t0 (.tup []) t0=some (.tup []):=Ye;generalize upd H t0 (.tup [])=H1 at s1 g1 hl0 |-;refine up_in hl0 _ fun H2 s2 g2=>?_;have s02:=s1.trans s2;refine⟨⟨_,Z2 (s02 _ _ hpa)⟩,?_⟩;refine Tg (xs:=xs) (fun i U Hi=>Same H Hi/\∃l ys z3 z4,H l=none/\Hi l=some (.lst ys)/\HasL Hi ys ((Um ks (ps.take i)).map WQ)/\U=[some (.ref so),some (.ref pa),some (.ref l),z3,z4]) ⟨s02,l0,_,_,_,s1.free hl0,g2,Z5 (Y1 (s2 _ _ g1) Z6),rfl⟩ (fun i U Hi _ z=>Z2 (z.1 _ _ hpa)) ?_ ?_
 .rintro BB RR i x U Hi hx ⟨si,l,ys,z3,z4,fl,hl,hy,rfl⟩
  obtain⟨p,t,hp,rfl,ht⟩:=Be hxs hx;have hk:=pk p (ZJ hp);obtain⟨c1,c2⟩:=kk.c0 hk;have i3:=(ZF.mp hp).1;have lR:=EO kk (ps.take i) fun p hp=>pk p (Zk hp);have rl:=BZ (ks:=ks) (ps.take i);have le:=(G0 (c:=c) (ps:=ps) (fun p hp=>(kk.c0 (pk p hp)).2) (i+1)).1;have eR:Um ks (ps.take (i+1))=(Um ks (ps.take i)).flatMap fun r=>(Ys ks 3 p.2).map fun u=>r++[u]:=by rw[take_snoc hp,BY]
  rw[take_snoc hp,G4,<-lR,<-c1]at le;rw[eR];have ly:=hy.length;rw[ZA]at ly;rw[ZN]at rl;generalize Um ks (ps.take i)=R at lR rl le hy ly |-;generalize hus:Ys ks 3 p.2=us at le |-;refine⟨_,Z2 (si _ _ ht),rfl,?_⟩;refine⟨⟨ys,Z3 hl⟩,?_⟩;refine Tq ys.length (fun i' zs H'=>Same Hi H'/\zs.length=i'*us.length/\i'<=R.length/\HasL H' zs (((R.take i').flatMap fun r=>us.map fun u=>r++[u]).map WQ)) ⟨Z8 _,by simp,Zc _,by rw[List.take_zero];exact Z6⟩
   (fun i' zs H' z=>Yq (by rw[z.2.1];have:i'*us.length<=R.length*us.length:=Nat.mul_le_mul_right _ z.2.2.1;omega)) ?_ ?_ ?_ ?_
  .intro i' zs H' hi z
   exact⟨ys,ys[i'],Z3 (z.1 _ _ hl),by simp[hi]⟩
  .intro zs H' z
   exact⟨ys,Z3 (z.1 _ _ hl),ZG _⟩
  .intro i' zs H' x H'' RR' hi z yl hR
   obtain⟨rfl,yy⟩:=yl;obtain⟨dx,hdx,hhx⟩:=hy.get (yy ys (Z3 (z.1 _ _ hl)));rw[ZH]at hdx
   cases hr1:R[i']? with
   |none=>rw[hr1]at hdx;cases hdx
   |some r=>
    rw[hr1]at hdx;cases hdx;have ri:=rl r (ZJ hr1);have ki2:=ki.mono (si.trans z.1);obtain⟨AK,SK,e1,kd,kr⟩:=id ki2;refine⟨_,_,by rw[<-e1];exact kd.ins,rfl,so,ks,d,p.2,rfl,ki2,hk,fun lw xw H3 s3 hlw gw hw=>⟨⟨xw,Z3 gw⟩,?_⟩⟩;rw[hus]at hw;have lw':=hw.length;rw[ZA]at lw';have hhx3:=(hhx.mono z.1).mono s3;refine NX xw.length (fun j ws H4=>Same H3 H4/\ws.length=i'*us.length+j/\j<=us.length/\HasL H4 ws (((R.take i').flatMap fun r=>us.map fun u=>r++[u]).map WQ++ ((us.take j).map fun u=>r++[u]).map WQ)) ⟨Z8 _,by rw[z.2.1];rfl,Zc _,by rw[List.take_zero,List.map_nil,List.map_nil,List.append_nil];exact z.2.2.2.mono s3⟩
     (fun j ws H4 y3=>Yq (by
      rw[y3.2.1];have:(i'+1)*us.length<=R.length*us.length:=Nat.mul_le_mul_right _ (by omega);rw[Nat.succ_mul]at this;have:=y3.2.2.1;omega)) ?_ ?_ ?_ ?_
    .intro j ws H4 hj y3
     exact⟨xw,xw[j],Z3 (y3.1 _ _ gw),by simp[hj]⟩
    .intro ws H4 y3
     exact⟨xw,Z3 (y3.1 _ _ gw),ZG _⟩
    .intro j ws H4 x2 H5 T2 hj y3 yl2 hT
     obtain⟨rfl,yy2⟩:=yl2;obtain⟨dz,hdz,hhz⟩:=hw.get (yy2 xw (Z3 (y3.1 _ _ gw)));rw[ZH]at hdz
     cases hv1:us[j]? with
     |none=>rw[hv1]at hdz;cases hdz
     |some v=>
      rw[hv1]at hdz;cases hdz;refine⟨sl 1,fun b hb=>?_⟩;have sb:=Yo hb (.tup [x2]);have gb:upd H5 b (.tup [x2]) b=some (.tup [x2]):=Ye;refine Oa ((hhx3.mono y3.1).mono sb) gb ((hhz.mono y3.1).mono sb) (by omega) fun v' H6 s6 h6=>hT _ _ ?_;have s46:=sb.trans s6;refine⟨y3.1.trans s46,by rw[ZL,y3.2.1];rfl,(ZF.mp hv1).1,?_⟩;rw[take_snoc hv1,ZK,ZK,<-List.append_assoc];exact Z7 (y3.2.2.2.mono s46) (Z5 h6)
    .intro ws H4 y3
     refine hR _ _ ⟨z.1.trans (s3.trans y3.1),by rw[y3.2.1,lw',Nat.succ_mul],(ZF.mp hr1).1,?_⟩;have y4:=y3.2.2.2;rw[show us.take xw.length=us from Zg (by omega)]at y4;rw[take_snoc hr1,List.flatMap_append,ZK];simp only[List.flatMap_cons,List.flatMap_nil,List.append_nil];exact y4
  .intro zs H' p3 z hp3
   have s3:=Yo hp3 (.lst zs);have z4:=z.2.2.2;rw[Zg (by omega)]at z4;exact⟨si.trans (z.1.trans s3),p3,zs,_,_,(si.trans z.1).free hp3,Ye,z4.mono s3,rfl⟩
 .rintro U Hi ⟨si,l,ys,z3,z4,fl,hl,hy,rfl⟩
  rw[Zg (by omega)]at hy;exact q l ys Hi si fl hl hy
end
end K4
namespace L2
open PySem
def X0(H:Hp)(x:Addr):Hp:=fun b=>if b=x then none else H b
structure BB(Hm H:Hp)(C CK:Addr)(A:BA)(ks:List (Str×Shp))(d:Str->Nat):Prop where
 ins:H A.t=some (.ins C A.dx (UF A))
 sm:Same Hm H
 so:KI Hm CK A.so ks d
 nd:Hm A.td=none
 nr:Hm A.rd=none
 ne:A.td≠A.rd
 n1:A.t≠A.td
 n2:A.t≠A.rd
theorem BB.same(b:BB Hm H C CK A ks d)(s:Same H H'):BB Hm H' C CK A ks d:=⟨s _ _ b.ins,b.sm.trans s,b.so,b.nd,b.nr,b.ne,b.n1,b.n2⟩
theorem BB.td(b:BB Hm H C CK A ks d)(o:HO):BB Hm (upd H A.td o) C CK A ks d:=⟨by rw[Yg b.n1];exact b.ins,b.sm.putN b.nd,b.so,b.nd,b.nr,b.ne,b.n1,b.n2⟩
theorem BB.rd(b:BB Hm H C CK A ks d)(o:HO):BB Hm (upd H A.rd o) C CK A ks d:=⟨by rw[Yg b.n2];exact b.ins,b.sm.putN b.nr,b.so,b.nd,b.nr,b.ne,b.n1,b.n2⟩
structure BT(H:Hp)(A:BA)(kv rv:List (Key×V))(ks:List (Str×Shp))(ds:List Dd):Prop where
 td:H A.td=some (.dK kv)
 rd:H A.rd=some (.dK rv)
 ke:kv.map (·.1)=ds.map (fun x=>(Sum.inr x.1.1:Key))
 va:HasL H (kv.map (·.2)) (ds.map Ut)
 ro:∀x∈ds,∃l xs,VF rv (Sum.inr x.1.1)=some (.ref l)/\H l=some (.lst xs)/\HasL H xs ((Um ks x.1.2.1).map WQ)
 ln:rv.length<=ds.length
theorem BT.same(b:BT H A kv rv ks ds)(s:Same H H'):BT H' A kv rv ks ds:=
 ⟨s _ _ b.td,s _ _ b.rd,b.ke,b.va.mono s,fun x hx=>let⟨l,xs,h1,h2,h3⟩:=b.ro x hx;⟨l,xs,h1,s _ _ h2,h3.mono s⟩,b.ln⟩
theorem Mm(e:TK H H'):∀(u:W){v:V},Has H v u.dat->Has H' v u.dat
 |.non,_,h=>by unfold W.dat Has at h |-;exact h
 |.tag _,_,h=>by unfold W.dat Has at h |-;exact h
 |.pair a b,_,h=>by
  obtain⟨p,x1,x2,rfl,hp,h1,h2⟩:=J1 h;unfold W.dat Has;exact⟨p,_,rfl,e _ _ hp,Z4 (Mm e a h1) (Z5 (Mm e b h2))⟩
theorem Mn{α:Type}{D:α->Dat}(e:∀u {v:V},Has H v (D u)->Has H' v (D u)):∀{us:List α}{xs:List V},HasL H xs (us.map D)->HasL H' xs (us.map D)
 |[],[],_=>Z6
 |[],_::_,h=>by rw[List.map_nil]at h;unfold HasL at h;exact h.elim
 |_::_,[],h=>by rw[ZV]at h;unfold HasL at h;exact h.elim
 |u::us,x::xs,h=>by
  rw[ZV]at h |-;unfold HasL at h;exact Z4 (e u h.1) (Mn e h.2)
theorem Dr(e:TK H H'){rs:List (List W)}(h:HasL H xs (rs.map WQ)):HasL H' xs (rs.map WQ):=Mn (fun u v hv=>by
 unfold WQ Has at hv |-;obtain⟨a,ys,h1,h2,h3⟩:=hv;exact⟨a,ys,h1,e _ _ h2,Mn (fun u {v}=>Mm e u) h3⟩) h
theorem M7(x:Dd):(Ut x).st=true:=by
 unfold Ut psD;simp[Dat.st,Dat.sts,Di,Bd.st]
theorem Gi:∀ds:List Dd,Dat.sts (ds.map Ut)=true
 |[]=>by unfold List.map Dat.sts;rfl
 |x::ds=>by rw[ZV];unfold Dat.sts;rw[Gi ds,M7];rfl
theorem OI(h:Has H v (Ki x)):∃a u w,v=.ref a/\H a=some (.tup [.str x.1.1,u,.str x.1.2.2,w])/\Has H u (psD x.1.2.1)/\Has H w x.2.dat:=by
 unfold Ki at h;obtain⟨t,ys,rfl,ht,hl⟩:=Yr h;obtain⟨x1,r1,rfl,h1,hlA⟩:=Yb hl;obtain⟨x2,r2,rfl,h2,hlB⟩:=Yb hlA;obtain⟨x3,r3,rfl,h3,hlC⟩:=Yb hlB;obtain⟨x4,r4,rfl,h4,hlD⟩:=Yb hlC;obtain rfl:=Y8 hlD;obtain rfl:=has_str h1;obtain rfl:=has_str h3;exact⟨t,x2,x4,rfl,ht,h2,h4⟩
theorem C2(A:BA):(UF A).lookup ("is_head":Str)=none:=rfl
theorem C0(A:BA):(UF A).lookup ("rows":Str)=some (V.ref A.rd):=rfl
theorem Lc(hc:X.calm=true)(h1:PG X (.Name x1 p1) t1)(h2:PG X (.Name x2 p2) t2)(h3:PG X (.Name x3 p3) t3)(h4:PG X (.Name x4 p4) t4):
  PG X (.Tuple [.Name x1 p1,.Name x2 p2,.Name x3 p3,.Name x4 p4] k pos) (Nd X.K 4 (JY t1 (JY t2 (JY t3 (JY t4 Tc))))):=
 Vi (n:=4) hc (Yx h1 (Yx h2 (Yx h3 (Yx h4 VW))))
theorem BT.put(b:BT H0 A kv rv ks ds)(ne:A.td≠A.rd)(nx:x.1.1∉ds.map fun y=>y.1.1)(e2:H2=upd H0 A.td (.dK (putK kv (Sum.inr x.1.1) v)))(hv:Has H0 v (Ut x))(s:Same H2 Hb)(hl:Hb l=some (.lst xs))(hx:HasL Hb xs ((Um ks x.1.2.1).map WQ))(e4:H4=upd Hb A.rd (.dK (putK rv (Sum.inr x.1.1) (.ref l)))):
  BT H4 A (putK kv (Sum.inr x.1.1) v) (putK rv (Sum.inr x.1.1) (.ref l)) ks (ds++[x]):=by
 have nk:VF kv (Sum.inr x.1.1)=none:=Rr (by
  rw[b.ke];intro z;obtain⟨q1,hq1,e1⟩:=ZW.mp z;exact nx (ZW.mpr ⟨q1,hq1,Sum.inr.inj e1⟩))
 have td2:H2 A.td=some (.dK (putK kv (Sum.inr x.1.1) v)):=by rw[e2];exact Ye
 have rd2:Hb A.rd=some (.dK rv):=s _ _ (by rw[e2,Yg (Zs ne)];exact b.rd);have tk1:TK H0 H2:=by rw[e2];exact WB b.td fun ys z=>nomatch z
 have tk3:TK Hb H4:=by rw[e4];exact WB rd2 fun ys z=>nomatch z
 have tk:TK H0 H4:=fun b us h=>tk3 _ _ (s _ _ (tk1 _ _ h))
 have ls:∀b us,H0 b=some (.lst us)->H4 b=some (.lst us):=fun c us h=>by
  have n1:c≠A.td:=JR h b.td (by intro z;cases z);have h2:Hb c=some (.lst us):=s _ _ (by rw[e2,Yg n1];exact h);have n2:c≠A.rd:=JR h2 rd2 (by intro z;cases z);rw[e4,Yg n2];exact h2
 have ll:H4 l=some (.lst xs):=by
  rw[e4,Yg (JR hl rd2 (by intro z;cases z))];exact hl
 refine⟨by rw[e4,Yg ne];exact s _ _ td2,by rw[e4];exact Ye,by rw[Xx _ nk,ZK,b.ke,ZK];rfl,?_,fun y hy=>?_,?_⟩
 .rw [Xx _ nk,ZK,ZK]
  exact Z7 (XN tk _ (Gi ds) b.va) (Z5 (Xj tk _ (M7 x) hv))
 .rw [Jt]
  rcases ZX.mp hy with m|m
  .have ny:¬(Sum.inr y.1.1:Key)=Sum.inr x.1.1:=fun z=>nx (ZW.mpr ⟨y,m,Sum.inr.inj z⟩)
   rw[Zq ny];obtain⟨l',xs',h1,h2,h3⟩:=b.ro y m;exact⟨l',xs',h1,ls _ _ h2,Dr tk h3⟩
  .cases ZQ.mp m
   rw[Zp rfl];exact⟨l,xs,rfl,ll,Dr tk3 hx⟩
 .have:=NI rv (Sum.inr x.1.1) (.ref l)
  have:=b.ln;rw[ZL,List.length_singleton];omega
end L2
namespace K4
open PySem L2
section
variable{f g C CK:Addr}
def MA(C CK:Addr):Sp:=fun vs H Q _=>∃(A:BA)(kv:List (Key×V))(ks:List (Str×Shp))(d:Str->Nat)(y k:Str)(ps:List (Str×Str))(v:V),vs=[.ref A.t,.str y,v,.str k]/\H A.t=some (.ins C A.dx (UF A))/\H A.td=some (.dK kv)/\KI H CK A.so ks d/\ks.length<=6/\VF kv (Sum.inr y)=none/\WdS y/\
 Has H v (psD ps)/\ps.length<=3/\(∀p∈ps,p.2∈ks.map (·.1))/\(ps.map (·.1)).Nodup/\(∀p∈ps,WdS p.1)/\k∈ks.map (·.1)/\∀H',Same H H'->Q (.bl true) H'
theorem LR:Yi ["self","name","parameters","kind"] ["self","name","parameters","kind"] (Yd BV):=Y2
theorem IY(TB:BCl K C)(TC:KCl K CK)(F:Fun K "is_head" "Book.is_head" BV f fd)(DN:Df P w K mg base n "is_name" ["text"] (Uu 97))(DA:Df P w K mg base n "are_parameters" ["kinds","parameters"] (MC CK))(m2:VO K CK "names" g)(G2:Yf P w K mg base CX0 n g gd ["self"] (XA CK))(b2:Binds K gd ["self"] []):Yf P w K mg base CX0 (n+1) f fd ["self","name","parameters","kind"] (MA C CK):=by
 refine F.oq LR fun cdv A outer s H vs Q E hr h=>?_;obtain⟨A',kv,ks,d,y,k,ps,v,rfl,hi,ht,ki,k6,nk,⟨w1,w2,w3⟩,hv,l3,pk,nd,spl,hk,q⟩:=h;have hu:=JF hr;refine⟨_,YY (Y0 (PW.pt (UQ (JH (Ve (VJ DN hr (pa1 (pv 1))))) (Jl (Jx (Uy hu (pv 1) (Yz (pv 0) rfl)))))) (YZ V8) Yl)
  (YZ (Yh (WR (VJ DA hr (pa2 (Yz (pv 0) rfl) (pv 2))) (Xe (V7 XF (pv 3) (Vf (Yz (pv 0) rfl) TC.cl m2 G2 hr b2 .nil Y4) rfl))))),?_⟩
 dsimp only[Vb,Cx.nox,Cx.wish];refine⟨y,rfl,w1,w2,w3,fun H1 s1=>⟨_,rfl,Yy (by simp) ?_⟩⟩;refine⟨C,_,_,_,s1 _ _ hi,TB.cl,TB.td,Ek _,_,(show Vh H1 A'.td (.str y) none by rw[<-nk];exact Vh.k (k:=Sum.inr y) (s1 _ _ ht)),_,rfl,Yy (by simp) ?_⟩;refine⟨C,_,_,_,s1 _ _ hi,TB.cl,TB.so,KO _,A'.so,ks,d,ps,v,rfl,ki.mono s1,k6,hv.mono s1,l3,pk,nd,spl,fun H2 s2=>⟨true,rfl,VE rfl ?_⟩⟩;have s02:=s1.trans s2;have ki2:=ki.mono s02;obtain⟨AK,SK,e1,kd,kr⟩:=id ki2;refine⟨C,_,_,_,s02 _ _ hi,TB.cl,TB.so,KO _,_,_,by rw[<-e1];exact kd.ins,rfl,A'.so,ks,d,rfl,ki2,fun l H3 s3 hl g3=>?_⟩;have el:(ks.map fun k=>V.str k.1)=(ks.map (·.1)).map V.str:=by rw[List.map_map];rfl
 rw[el]at g3;refine⟨l,_,rfl,.inl (Z3 g3),rfl,Js _,?_⟩;rw[US];have e:decide (k∈ks.map (·.1))=true:=decide_eq_true hk;dsimp only[rI0,rI,Ui];rw[e];exact q H3 (s02.trans s3)
end
section
variable{f g C CK:Addr}
def FR(C CK:Addr):Sp:=fun vs H Q _=>∃(Hm:Hp)(A:BA)(dl:Addr)(zs:List V)(ks:List (Str×Shp))(c d:Str->Nat)(ds:List Dd),vs=[.ref A.t,.ref dl]/\BB Hm H C CK A ks d/\BT H A [] [] ks []/\KK 30 c d ks/\ks.length<=6/\Hm dl=some (.lst zs)/\HasL Hm zs (ds.map Ki)/\0<ds.length/\ds.length<=2/\
 Wds 97 (ds.map fun x=>x.1.1)/\(∀x∈ds,Ku (ks.map (·.1)) c 200 x.1)/\∀H' kv rv,BB Hm H' C CK A ks d->BT H' A kv rv ks ds->Q .non H'
theorem Xt:Yi ["self","definitions","in_all","number","name","parameters","kind","body","count"] ["self","definitions"] (Yd BQ):=Y2
theorem IW(B:Blt mg)(me:mg "enumerate"=none)(TB:BCl K C)(F:Fun K "take_heads" "Book.take_heads" BQ f fd)(h1:mg "MOST_DEFINITIONS"=some u1)(r1:RelV (.int 8) u1)(h2:mg "MOST_ROWS"=some u2)(r2:RelV (.int 200) u2)(h3:mg "MOST_ROWS_IN_ALL"=some u3)(r3:RelV (.int 400) u3)(mH:VO K C "is_head" g)(GH:Yf P w K mg base CX0 n g gd ["self","name","parameters","kind"] (MA C CK))(bH:Binds K gd ["self","name","parameters","kind"] [])(DC:Df P w K mg base n "row_count" ["kinds","parameters"] (Xa CK))(DO:Df P w K mg base n "rows_over" ["kinds","parameters"] (XZ CK)):Yf P w K mg base CX0 (n+1) f fd ["self","definitions"] (FR C CK):=by
 refine F.oq Xt fun cdv A outer s H vs Q E hr h=>?_;obtain⟨Hm,A',dl,zs,ks,c,d,ds,rfl,bb,bt,kk,k6,hdl,hzs,d0,d8,wd,ho,q⟩:=h;have hu:=JF hr;have lz:=hzs.length;rw[ZA]at lz;refine⟨_,YY (Y0 (Yn VQ (Y7 Y3 rfl B.len Zu (pa1 (pv 1))) Ya (Yv _)) (YZ V8) Yl)
  (YY (Yu 2 Xt.nd Ya)
  (YZ (V1 Zv rfl (GQ rfl me (pa1 (pv 1))) (Vi (n:=2) rfl (Yx (Yp 3 Xt.nd) (Yx (Lc rfl (Yp 4 Xt.nd) (Yp 5 Xt.nd) (Yp 6 Xt.nd) (Yp 7 Xt.nd)) VW)))
   (YY (Y0 (PW.pt (UQ (Yn O0 (pv 3) (JE rfl h1 r1) (Yv _)) (Jl (JH (Ve (Y6 (pv 0) TB.cl mH GH hr bH .nil Y4 (pa3 (pv 4) (pv 5) (pv 6)))))))) (YZ V8) Yl)
   (YY (Yu 8 Xt.nd (VJ DC hr (pa2 (Yz (pv 0) rfl) (pv 5))))
   (YY (Fu (i:=2) Xt.nd rfl (Or.inl rfl) (pv 8) OE)
   (YY (Y0 (PW.pt (UQ (Yn X1 (pv 8) (JE rfl h2 r2) (Yv _)) (Jl (Yn X1 (pv 2) (JE rfl h3 r3) (Yv _))))) (YZ V8) Yl)
   (YY (Vt hu (Yz (pv 0) rfl) (pv 4) (Yt (pa3 (pv 5) (pv 6) (pv 7))) rfl)
   (YZ (Vt hu (Yz (pv 0) rfl) (pv 4) (VJ DO hr (pa2 (Yz (pv 0) rfl) (pv 5))) rfl)))))))))),?_⟩
 dsimp only[Vb,Cx.nox,Cx.wish];show let a:=_;let b:=Yk _ a;let c:=_;let d:=Yk (VC _ c _) b;let e:=Yk _ d;let f:=Yk _ e;let g:=_;let h:=Yk (VC _ g _) f;let i:=UH _ _ h;let j:=Yk _ i;let k:=_;Yk (VC _ k _) j _ _ _
 intros
 refine⟨dl,_,rfl,.inl (Z3 (bb.sm _ _ hdl)),rfl,_,rfl,Yy (fun z=>by have z1:=Zt z;injection z1 with z2;omega) ?_⟩;refine PL ?_;refine⟨dl,false,zs,rfl,Z3 (bb.sm _ _ hdl),?_⟩
 let I:Nat->St->Hp->Prop:=fun i U Hi=>BB Hm Hi C CK A' ks d/\∃(kv rv:List (Key×V))(n:Nat)(z3 z4 z5 z6 z7 z8:Option V),BT Hi A' kv rv ks (ds.take i)/\n<=200*i/\U=[some (.ref A'.t),some (.ref dl),some (.int (n:Nat)),z3,z4,z5,z6,z7,z8]
 refine Dv (tp:=false) (xs:=zs) I
  ⟨bb,[],[],0,_,_,_,_,_,_,bt,ZG _,rfl⟩ (fun i U Hi _ z=>Z3 (z.1.sm _ _ hdl)) ?_ ?_
 .rintro BB' RR i x U Hi r hx ⟨bbi,kv,rv,n',z3,z4,z5,z6,z7,z8,bti,n40,rfl⟩ hr'
  obtain⟨dd,hd1,hd2⟩:=hzs.get hx;rw[ZH]at hd1
  cases hc:ds[i]? with
  |none=>rw[hc]at hd1;cases hd1
  |some dx=>
   rw[hc]at hd1;cases hd1;have i8:=(ZF.mp hc).1;have hm:=ZJ hc;obtain⟨p3,pk,hk,psn,psw,psr⟩:=ho dx hm;refine up_in hr' _ fun HR sR gR=>?_;have bbR:=bbi.same sR;have btR:=bti.same sR;obtain⟨ta,u,wv,rfl,hta,hup,hwb⟩:=OI (hd2.mono bbR.sm)
   have nx:dx.1.1∉(ds.take i).map fun y=>y.1.1:=by
    rw[List.map_take];exact RO wd.nd (show(ds.map fun y:Dd=>y.1.1)[i]?=some dx.1.1 by rw[ZH,hc];rfl)
   have nk:VF kv (Sum.inr dx.1.1)=none:=Rr (by
    rw[bti.ke];intro z;obtain⟨q1,hq1,e1⟩:=ZW.mp z;exact nx (ZW.mpr ⟨q1,hq1,Sum.inr.inj e1⟩))
   have lk:kv.length<=8:=by
    have:=congrArg List.length bti.ke;rw[ZA,ZA,ZN]at this;omega
   have lr:=bti.ln;rw[ZN]at lr;refine⟨_,Z2 gR,rfl,⟨_,Z2 hta,rfl,?_⟩⟩;refine⟨_,rfl,Yy (by simp;omega) ?_⟩;refine⟨_,_,bbR.ins,C2 _,A',kv,ks,d,dx.1.1,dx.1.2.2,dx.1.2.1,u,rfl,bbR.ins,btR.td,bbR.so.mono bbR.sm,k6,nk,wd.wdS (ZW.mpr ⟨dx,hm,rfl⟩),hup,p3,pk,psn,psw,hk,fun H1 s1=>⟨_,rfl,Yy (by simp) ?_⟩⟩;have bb1:=bbR.same s1;have bt1:=btR.same s1;have hu1:=hup.mono s1;refine⟨C,_,_,_,bb1.ins,TB.cl,TB.so,KO _,A'.so,ks,c,d,dx.1.2.1,u,rfl,bb1.so.mono bb1.sm,kk,hu1,pk,by omega,fun H2 s2=>?_⟩;have bb2:=bb1.same s2;have bt2:=bt1.same s2;refine⟨_,rfl,?_⟩;refine⟨_,rfl,Yy (by simp;omega) ?_⟩;refine⟨_,rfl,Yy (by simp;omega) ?_⟩;refine⟨sl 3,fun tt htt=>?_⟩;refine up_in htt _ fun H3 s3 g3=>?_;have bb3:=bb2.same s3;have bt3:=bt2.same s3;have hv3:Has H3 (.ref tt) (Ut dx):=Y1 g3 (Z4 ((hu1.mono s2).mono s3) (Z4 VD (Z5 (((hwb.mono s1).mono s2).mono s3))));refine⟨C,_,_,_,bb3.ins,TB.cl,TB.td,Ek _,_,J5.k (k:=Sum.inr dx.1.1) bt3.td (Yq (by omega)),?_⟩;have bb4:=bb3.td (.dK (putK kv (Sum.inr dx.1.1) (.ref tt)));obtain⟨H4,e4⟩:∃H4,H4=upd H3 A'.td (.dK (putK kv (Sum.inr dx.1.1) (.ref tt))):=⟨_,rfl⟩;have tk4:TK H3 H4:=by rw[e4];exact WB bt3.td fun ys z=>nomatch z
   have rd4:H4 A'.rd=some (.dK rv):=by rw[e4,Yg (Zs bb.ne)];exact bt3.rd
   rw[<-e4]at bb4;dsimp only[rI0,rI,Ui];rw[<-e4];refine⟨C,_,_,_,bb4.ins,TB.cl,TB.so,KO _,A'.so,ks,c,d,dx.1.2.1,u,rfl,bb4.so.mono bb4.sm,kk,Xj tk4 _ (by unfold psD;unfold Dat.st;exact Di _) ((hu1.mono s2).mono s3),pk,p3,by omega,fun l xs H5 s5 fl hl hxs=>?_⟩;have bb5:=bb4.same s5;refine⟨C,_,_,_,bb5.ins,TB.cl,TB.rd,C0 _,_,J5.k (k:=Sum.inr dx.1.1) (s5 _ _ rd4) (Yq (by omega)),?_⟩;have fin:=bt3.put bb.ne nx e4 hv3 s5 hl hxs rfl;rw[<-take_snoc hc]at fin;exact⟨bb5.rd _,_,_,n'+Vd c dx.1.2.1,_,_,_,_,_,_,fin,by omega,rfl⟩
 .rintro U Hi ⟨bbi,kv,rv,n',z3,z4,z5,z6,z7,z8,bti,n40,rfl⟩
  rw[Zg (by omega)]at bti;exact q Hi kv rv bbi bti
end
end K4
namespace L2
open PySem
theorem BD.mono(k:BD H C CK A kv ks d ds)(e:Same H H'):BD H' C CK A kv ks d ds:=⟨e _ _ k.ins,k.so.mono e,e _ _ k.td,k.ke,k.va.mono e,k.nd⟩
theorem Bg(n:b≠x)(h:H b=some o):X0 H x b=some o:=by unfold X0;rw[Zq n];exact h
theorem KI.out(k:KI H CK t ks d)(hx:H x=some (.ins C dx [])):KI (X0 H x) CK t ks d:=by
 obtain⟨A,S,rfl,kd,kr⟩:=k;have go:∀{b:Addr}{o:HO},H b=some o->o≠.ins C dx []->X0 H x b=some o:=fun{b o} h n=>Bg (JR h hx n) h;have tl:TL H (X0 H x):=⟨fun b xs h=>go h (by intro z;cases z),fun b xs h=>go h (by intro z;cases z)⟩;refine⟨A,S,rfl,⟨go kd.ins (fun z=>?_),go kd.sh (fun z=>by cases z),go kd.wo (fun z=>by cases z),go kd.he (fun z=>by cases z),go kd.pd (fun z=>by cases z),go kd.tk (fun z=>by cases z),go kd.pk (fun z=>by cases z),kd.nd⟩,kr.tl tl⟩;injection z with _ _ z;unfold Wf at z;cases z
end L2
namespace K4
open PySem L2
section
variable{f g C CK N fI:Addr}
structure zD(x:Dd):Prop where
 ok:x.2.ok
 dep:x.2.dep<=12
 size:x.2.size<=100
theorem Jj:Yi ["self","number","name","parameters","kind","body","found","place"] ["self"] (Yd MX):=Y2
theorem Am(A:BA):(UF A).lookup ("names":Str)=none:=rfl
theorem LQ:Yi ["self","kinds","definitions"] ["self","kinds","definitions"] (Yd BU):=Y2
theorem Cz(A:BA):(UF A).lookup ("take_heads":Str)=none:=rfl
theorem C3(A:BA):(UF A).lookup ("check_bodies":Str)=none:=rfl
end
end K4
namespace L2
open PySem
theorem L9{K:W.Frag}(X:K.In h)(hl:K.lookup a=some ⟨.type "dict",none,.dict es n,#[]⟩)(hk:W.KeysLit w.params es.toList):h.MapOf (Y9 P w) a fun k=>findBy JS es k:=by
 have keys:KeysOf (Y9 P w) es:=fun d hd=>by
  have⟨x,t,kx,hx⟩:=W.KeysLit.all hk d (by simpa using hd);refine⟨Sum.inr x,?_,hx⟩;show JS (Sum.inr x) d.key=true;rw[kx,RT]
 exact⟨_,es,n,X a _ hl,⟨rfl,rfl,rfl⟩,rfl,keys,fun k=>rfl⟩
theorem U0(hl:K.lookup a=some ⟨.type "dict",none,.dict es n,#[]⟩)(e:W.nsIn K a x=some (some v)):findBy JS es (Sum.inr x)=some v:=by
 have q:=W.find_K hl e;exact q
end L2
namespace K4
open PySem L2
section
variable{f g C CK:Addr}
abbrev wps:List Str:=["book","around","body"]
def RA(P:Program)(w:World)(K:W.Frag)(mg:Str->Option Value)(base:Heap)(C CK:Addr)(mR:Key->Option Value)(x:Str)(p:Bd->Prop):Prop:=∃g gd,mR (Sum.inr x)=some (.ref g)/\Yf P w K mg base CX0 3 g gd rps (Xq C CK p)/\W.keepIn K (.ref g)=true/\Binds K gd rps []
theorem RA.at(r:RA P w K mg base C CK mR x p)(L:Nat)(e:b.word=x)(h:p b):∃(g:Addr)(gd:FuncData)(p:Bd->Prop),mR (Sum.inr b.word)=some (.ref g)/\Yf P w K mg base CX0 (L+3) g gd rps (Xq C CK p)/\p b/\W.keepIn K (.ref g)=true/\Binds K gd rps []:=by
 obtain⟨g,gd,h1,h2,h3,h4⟩:=r;exact⟨g,gd,p,by rw[e];exact h1,h2.mono (by omega),h,h3,h4⟩
theorem Fp(L:Nat)(r1:RA P w K mg base C CK mR "tag" fun b=>∃t,b=.tag t)(r2:RA P w K mg base C CK mR "name" fun b=>∃x,b=.name x)(r3:RA P w K mg base C CK mR "pair" fun b=>∃e g,b=.pair e g)(r4:RA P w K mg base C CK mR "one" fun b=>∃e,b=.one e)(r5:RA P w K mg base C CK mR "other" fun b=>∃e,b=.other e)(r6:RA P w K mg base C CK mR "choose" fun b=>∃e ts bs,b=.choose e ts bs/\1<=bs.length)(r7:RA P w K mg base C CK mR "ask" fun b=>∃fn as,b=.ask fn as)(r8:RA P w K mg base C CK mR "let" fun b=>∃x k e g,b=.letb x k e g):
  ∀b:Bd,(∀e ts bs,b=.choose e ts bs->1<=bs.length)->∃(g:Addr)(gd:FuncData)(p:Bd->Prop),mR (Sum.inr b.word)=some (.ref g)/\Yf P w K mg base CX0 (L+3) g gd rps (Xq C CK p)/\p b/\W.keepIn K (.ref g)=true/\Binds K gd rps []
 |.tag t,_=>r1.at L rfl ⟨t,rfl⟩
 |.name x,_=>r2.at L rfl ⟨x,rfl⟩
 |.pair e g,_=>r3.at L rfl ⟨e,g,rfl⟩
 |.one e,_=>r4.at L rfl ⟨e,rfl⟩
 |.other e,_=>r5.at L rfl ⟨e,rfl⟩
 |.choose e ts bs,h=>r6.at L rfl ⟨e,ts,bs,rfl,h e ts bs rfl⟩
 |.ask fn as,_=>r7.at L rfl ⟨fn,as,rfl⟩
 |.letb x k e g,_=>r8.at L rfl ⟨x,k,e,g,rfl⟩
theorem O8(B:Blt mg)(me:mg "enumerate"=none)(TB:BCl K C)(TC:KCl K CK)(F:Fun K "kind_or_place" "kind_or_place" sKP f fd)(bG:Binds K fd wps [])(mG:mg "kind_or_place"=some (.ref f))(m1:VO K C "kinds" g1)(G1:Yf P w K mg base CX0 3 g1 d1 ["self"] (JU C CK))(b1:Binds K d1 ["self"] [])(m2:VO K CK "names" g2)(G2:Yf P w K mg base CX0 3 g2 d2 ["self"] (XA CK))(b2:Binds K d2 ["self"] [])(DP:Df P w K mg base 3 "parts" ["body"] Xr)(mU:mg "RULES"=some (.ref aR))(hM:base.MapOf (Y9 P w) aR mR)(hR:∀(L:Nat)(b:Bd),(∀e ts bs,b=.choose e ts bs->1<=bs.length)->∃(g:Addr)(gd:FuncData)(p:Bd->Prop),mR (Sum.inr b.word)=some (.ref g)/\Yf P w K mg base CX0 (L+3) g gd rps (Xq C CK p)/\p b/\W.keepIn K (.ref g)=true/\Binds K gd rps []):
  ∀n,Yf P w K mg base CX0 (n+3) f fd wps (RJ C CK n)
 |0=>.none fun vs H Q E h=>by
  obtain⟨_,_,_,_,_,_,_,_,_,_,_,_,_,_,_,_,_,_,_,hd,_⟩:=h;exact Zw _ hd
 |n+1=>(S1 (L:=n) B me TB TC F (O8 B me TB TC F bG mG m1 G1 b1 m2 G2 b2 DP mU hM hR n) bG mG m1 (G1.mono (by omega)) b1 m2 (G2.mono (by omega)) b2 (DP.up (by omega)) mU hM (hR n)).mono (by omega)
end
end K4
namespace L2
open PySem PySem.Spec PyProof.Rows
theorem M3:∀{Ts:List String}{us:List Value},Vals (Ts.map V.ty) us->us=Ts.map Value.type
 |[],_,r=>by cases r;rfl
 |_::_,_,r=>by
  cases r with
  |cons h t=>
   have e:_=Value.type _:=h;rw[e,M3 t];rfl
def Ox(K:W.Frag):List V->Hp->VK->Prop:=fun xs H Q=>∃(x:V)(d:Dat)(tp:Addr)(Ts:List String)(b:Bool),xs=[x,.ref tp]/\Has H x d/\H tp=some (.tup (Ts.map V.ty))/\
 W.kitAny K (.type (tyD d)) (Ts.map Value.type)=some b/\Q (.bl b) H
theorem Et:Jb X (.builtin "isinstance") (Ox X.K):=by
 intro pins s U H xs us Q I r h;obtain⟨x,d,tp,Ts,b,rfl,hd,ht,e,q⟩:=h;obtain⟨u,w',rfl,ru,rw'⟩:=vals2 r;cases rw';have fin:∀tk,EP X pins U Q (.bool b) {s with toks:=tk}:=fun tk=>⟨.bl b,H,I.tok _,rfl,q⟩;obtain⟨_,its,rv,o,h1,h2,h3,n,h4⟩:=(show VT X.prog X.w H s.heap tp (.tup (Ts.map V.ty))from I.hok tp _ ht);rw[M3 rv]at h4;obtain⟨oc,od,oda,osl⟩:=o;cases h3;cases h4;have ty:=NY (K:=X.K) hd
 cases d with
 |non=>unfold Has at hd;subst hd;cases(show u=Value.none from ru);exact W.kia_tup W.kitx_none I.kIn True.intro h1 e (fun z=>nomatch z) fin
 |bl y=>unfold Has at hd;subst hd;cases(show u=Value.bool y from ru);exact W.kia_tup W.kitx_bool I.kIn True.intro h1 e (fun z=>nomatch z) fin
 |int i=>unfold Has at hd;subst hd;obtain⟨t,q'⟩:=(show ∃t,u=Value.int i t from ru);cases q';exact W.kia_tup W.kitx_int I.kIn True.intro h1 e (fun z=>nomatch z) fin
 |str y=>unfold Has at hd;subst hd;obtain⟨t,q'⟩:=(show ∃t,u=Value.str y t from ru);cases q';exact W.kia_tup W.kitx_str I.kIn True.intro h1 e (fun z=>nomatch z) fin
 |tup ds=>
  unfold Has at hd;obtain⟨a,ys,rfl,ha,_⟩:=hd;cases(show u=Value.ref a from ru);obtain⟨_,_,_,o,g1,_,g2,_⟩:=(show VT X.prog X.w H s.heap a (.tup ys)from I.hok a _ ha);exact W.kia_tup W.kitx_tuple I.kIn ⟨o,g1,g2⟩ h1 e (fun z=>nomatch z) fin
 |lst ds=>
  unfold Has at hd;obtain⟨a,ys,rfl,ha,_⟩:=hd;cases(show u=Value.ref a from ru);obtain⟨_,_,n,_,g1⟩:=(show VT X.prog X.w H s.heap a (.lst ys)from I.hok a _ ha);exact W.kia_tup W.kitx_list I.kIn ⟨_,g1,rfl⟩ h1 e (fun z=>nomatch z) fin
theorem Qg(K:W.Frag)(d:Dat):W.kitAny K (.type (tyD d)) (["tuple","list"].map Value.type)=some (isD "tuple" d || isD "list" d):=by
 cases d <;> kernel_rfl
end L2
namespace L2
open PySem
structure Pen(K:W.Frag)(sa:Addr)(H:Hp)(p:Addr):Prop where
 ex:Vp H p
theorem Fun.oi{K:W.Frag}{st:Stmt}(F:Fun K x qual st f fd)(S:Yi N ps (Yd st))(hbody:∀(cdv:Value)(A:Around)(outer:List Env)(s:Shared)(H:Hp)(vs:List V)(Q:VK)(E:XK),Vs k (A.deeper (PyProof.Rows.envOfC qual (Yd st) s.heap.objs.size f cdv))->sp vs H Q E->
   ∃t,PSs (Vb CX0 P w K mg base N qual (Yd st) f cdv A outer s H E).nox (Vv st) t/\t {nx:=fun _ H'=>Q .non H',rt:=Q} (start N vs) H)(len:∀vs H Q E,sp vs H Q E->vs.length=ps.length:=by intro vs H Q E h;cases h;rfl):Yf P w K mg base CX0 (k+1) f fd ps sp:=F.ok S len hbody
theorem Pen.same(h:Pen K sa H p)(s:Same H H'):Pen K sa H' p:=let⟨a,b,c,d,h1⟩:=h.ex;⟨a,b,c,d,s _ _ h1⟩
theorem Pen.put(h:Pen K sa H p)(s:SameB p H H')(h':Pen K sa H' p)(e:H a=none)(n:a≠p):Pen K sa (upd H' a o) p:=by
 obtain⟨x,b,c,d,h1⟩:=h'.ex;exact⟨x,b,c,d,by rw[Yg (Zs n)];exact h1⟩
theorem Pen.ne(h:Pen K sa H p)(e:H r=none):r≠p:=fun z=>by
 obtain⟨x,b,c,d,h2⟩:=h.ex;rw[<-z,e]at h2;cases h2
theorem Pen.tup(h:Pen K sa H p)(e:H r=some (.tup xs)):r≠p:=fun z=>by
 obtain⟨x,b,c,d,h2⟩:=h.ex;rw[<-z,e]at h2;cases h2
theorem Pen.tk(h:Pen K sa H p)(s:SameB p H H'):TK H H':=fun b xs e=>s b _ (h.tup e) e
mutual
def Dat.ni:Dat->Bool
 |.int _=>false
 |.tup ds=>Dat.nis ds
 |.lst ds=>Dat.nis ds
 |_=>true
def Dat.nis:List Dat->Bool
 |[]=>true
 |d::ds=>d.ni && Dat.nis ds
end
theorem Dl:∀{ds:List Dat},(∀d∈ds,d.ni=true)->Dat.nis ds=true
 |[],_=>by unfold Dat.nis;rfl
 |d::ds,h=>by unfold Dat.nis;rw[h d Za,Dl fun e he=>h e (ZM _ he)];rfl
theorem GX{α:Type}{f:α->Dat}(h:∀a,(f a).ni=true)(l:List α):Dat.nis (l.map f)=true:=Dl fun d hd=>by
 obtain⟨a,_,rfl⟩:=ZW.mp hd;exact h a
mutual
theorem Dat.ni_of:∀{d:Dat},d.st=true->d.ni=true
 |.str _,_=>by unfold Dat.ni;rfl
 |.tup ds,t=>by
  unfold Dat.st at t;unfold Dat.ni;exact Dat.nis_of t
 |.non,_=>by unfold Dat.ni;rfl
 |.bl _,_=>by unfold Dat.ni;rfl
 |.int _,t=>by unfold Dat.st at t;cases t
 |.lst _,t=>by unfold Dat.st at t;cases t
theorem Dat.nis_of:∀{ds:List Dat},Dat.sts ds=true->Dat.nis ds=true
 |[],_=>by unfold Dat.nis;rfl
 |d::ds,t=>by
  unfold Dat.sts at t;have t':=Bool.and_eq_true_iff.mp t;unfold Dat.nis;rw[Dat.ni_of t'.1,Dat.nis_of t'.2];rfl
end
mutual
theorem Bx{K:W.Frag}{H H':Hp}(s:SameB p H H')(pn:Pen K sa H p):∀(d:Dat){v:V},d.ni=true->Has H v d->Has H' v d
 |.non,_,_,h=>by unfold Has at h |-;exact h
 |.bl _,_,_,h=>by unfold Has at h |-;exact h
 |.int _,_,t,_=>by unfold Dat.ni at t;cases t
 |.str _,_,_,h=>by unfold Has at h |-;exact h
 |.tup ds,_,t,h=>by
  unfold Has at h |-;obtain⟨a,xs,h1,h2,h3⟩:=h;unfold Dat.ni at t;exact⟨a,xs,h1,s _ _ (pn.tup h2) h2,UE s pn ds t h3⟩
 |.lst ds,_,t,h=>by
  unfold Has at h |-;obtain⟨a,xs,h1,h2,h3⟩:=h;unfold Dat.ni at t;refine⟨a,xs,h1,s _ _ (fun z=>?_) h2,UE s pn ds t h3⟩;obtain⟨x,b,c,d,e⟩:=pn.ex;rw[z,e]at h2;cases h2;obtain⟨d1,e1,g1⟩:=h3.get (i:=0) rfl;have:d1=.int x:=Has.inj _ _ g1 (by unfold Has;rfl);subst this
  match ds,e1,t with
  |_::_,e1,t=>
   cases e1;unfold Dat.nis Dat.ni at t;cases t
theorem UE{K:W.Frag}{H H':Hp}(s:SameB p H H')(pn:Pen K sa H p):∀(ds:List Dat){xs:List V},Dat.nis ds=true->HasL H xs ds->HasL H' xs ds
 |[],[],_,h=>Z6
 |[],_::_,_,h=>by unfold HasL at h;exact h.elim
 |_::_,[],_,h=>by unfold HasL at h;exact h.elim
 |d::ds,x::xs,t,h=>by
  unfold HasL at h;unfold Dat.nis at t;have t':=Bool.and_eq_true_iff.mp t;exact Z4 (Bx s pn d t'.1 h.1) (UE s pn ds t'.2 h.2)
end
theorem Pen.lst(pn:Pen K sa H p)(h:H a=some (.lst xs))(g:HasL H xs ds)(t:Dat.nis ds=true):a≠p:=fun z=>by
 obtain⟨x,b,c,d,e⟩:=pn.ex;rw[z,e]at h;cases h;obtain⟨d1,e1,g1⟩:=g.get (i:=0) rfl;have:d1=.int x:=Has.inj _ _ g1 (by unfold Has;rfl);subst this
 match ds,e1,t with
 |_::_,e1,t=>
  cases e1;unfold Dat.nis Dat.ni at t;cases t
theorem MD(h:n<=10000):n<sizeLine:=Nat.lt_of_le_of_lt h (by decide)
structure Itx(J:It)(H:Hp)(xs:List V):Prop where
 go:∀i,i<xs.length->J.go i H
 stop:J.stop xs.length H
 yld:∀i x H',J.yld i H x H'->H'=H/\xs[i]?=some x
theorem itl(h:SqL K H a xs):Itx (Itl K a) H xs:=⟨fun i hi=>⟨xs,xs[i],h,ZD hi⟩,⟨xs,h,ZG _⟩,fun i x H' y=>⟨y.1,y.2 xs h⟩⟩
theorem itt(h:SqT K H a xs):Itx (Itt K a) H xs:=⟨fun i hi=>⟨xs,xs[i],h,ZD hi⟩,⟨xs,h,ZG _⟩,fun i x H' y=>⟨y.1,y.2 xs h⟩⟩
theorem getD{α:Type}{us:List α}{D:α->Dat}{H:Hp}{xs:List V}{i:Nat}{x:V}(h:HasL H xs (us.map D))(e:xs[i]?=some x):∃u,us[i]?=some u/\Has H x (D u):=by
 obtain⟨d,h1,h2⟩:=h.get e;rw[ZH]at h1;obtain⟨u,h3,rfl⟩:=Zj.mp h1;exact⟨u,h3,h2⟩
theorem Kn{α:Type}{us:List α}{D E:α->Dat}(J':Itx J H xs)(hx:HasL H xs (us.map D))(hn:us.length<=10000)(hs:∀u x (R:V->Hp->Prop),u∈us->Has H x (D u)->(∀v,Has H v (E u)->R v H)->g x s0 H fun s2 H2=>te s2 H2 R)(hd:∀vs p H',H p=none->Same H H'->H' p=some (.lst vs)->HasL H' vs (us.map E)->Q (.ref p) H'):Tv J g te s0 Q H:=by
 have lx:=hx.length;rw[ZA]at lx;refine V0 xs.length (MD (by omega)) (fun i vs H'=>H'=H/\vs.length=i/\HasL H vs ((us.take i).map E)) ⟨rfl,rfl,Z6⟩ (fun i vs H' z=>z.2.1) ?_ ?_ ?_ ?_
 .rintro i vs H' hi ⟨rfl,_⟩
  exact J'.go i hi
 .rintro vs H' ⟨rfl,_⟩
  exact J'.stop
 .rintro i vs H' x H'' R hi ⟨rfl,z2,z3⟩ yl rT
  obtain⟨rfl,y⟩:=J'.yld i x H'' yl;obtain⟨u,hu,hv⟩:=getD hx y;refine hs u x R (ZJ hu) hv fun v hw=>rT _ _ ⟨rfl,by rw[ZL,z2];rfl,?_⟩;rw[take_snoc hu,ZK];exact Z7 z3 (Z5 hw)
 .rintro vs H' p ⟨rfl,z2,z3⟩ hp
  rw[Zg (Nat.le_of_eq lx.symm)]at z3;exact hd vs p _ hp (Yo hp _) Ye (z3.mono (Yo hp _))
def shW:Shp->Str
 |.tags _=>"tags"
 |.pair _ _=>"pair"
theorem NF{s:Shp}(h:Has H v s.dat):∃a ys,v=.ref a/\H a=some (.tup (.str (shW s)::ys)):=by
 cases s <;> (unfold Shp.dat at h;obtain⟨t,ys,rfl,ht,hl⟩:=Yr h;obtain⟨x1,r1,rfl,h1,_⟩:=Yb hl;obtain rfl:=has_str h1;exact⟨t,r1,rfl,ht⟩)
theorem EU:¬decide (V.str (shW (.pair a b))=V.str "tags")=true:=by show ¬decide (V.str "pair"=V.str "tags")=true;decide +kernel
theorem TR(k:Str×Shp):(JW k).st=true:=by
 have e:=Shp.st k.2;simp[JW,Dat.st,Dat.sts,e]
structure Lb(K:W.Frag)(sa:Addr)(H0:Hp)(p l:Addr)(ds:List Dat)(H:Hp):Prop where
 p0:Pen K sa H0 p
 fl:H0 l=none
 sb:SameB p H0 H
 pn:Pen K sa H p
 zs:∃zs,H l=some (.lst zs)/\HasL H zs ds/\Dat.sts ds=true
theorem Lb.np(b:Lb K sa H0 p l ds H):l≠p:=b.p0.ne b.fl
theorem Lb.new(pn:Pen K sa H p)(hl:H l=none):Lb K sa H p l [] (upd H l (.lst [])):=⟨pn,hl,(Yo hl _).sb,pn.same (Yo hl _),[],Ye,Z6,by unfold Dat.sts;rfl⟩
theorem Lb.mv(b:Lb K sa H0 p l ds H)(s:SameB p H H')(pn:Pen K sa H' p):Lb K sa H0 p l ds H':=
 let⟨zs,h1,h2,h3⟩:=b.zs;⟨b.p0,b.fl,b.sb.trans s,pn,zs,s _ _ b.np h1,XN (b.pn.tk s) _ h3 h2,h3⟩
theorem Lb.sm(b:Lb K sa H0 p l ds H)(s:Same H H'):Lb K sa H0 p l ds H':=b.mv s.sb (b.pn.same s)
theorem FI(h:Dat.sts ds=true)(e:d.st=true):Dat.sts (ds++[d])=true:=by
 induction ds with
 |nil=>rw[List.nil_append];unfold Dat.sts;rw[e];unfold Dat.sts;rfl
 |cons a ds ih=>
  unfold Dat.sts at h;have t:=Bool.and_eq_true_iff.mp h;rw[List.cons_append];unfold Dat.sts;rw[t.1,ih t.2];rfl
theorem Lb.ap{zs:List V}(b:Lb K sa H0 p l ds H)(h:H l=some (.lst zs))(hv:Has H v d)(e:d.st=true):Lb K sa H0 p l (ds++[d]) (upd H l (.lst (zs++[v]))):=by
 obtain⟨zs',h1,h2,h3⟩:=b.zs;rw[h]at h1;cases h1;have tk:TK H (upd H l (.lst (zs++[v]))):=WB h fun xs z=>nomatch z
 exact⟨b.p0,b.fl,b.sb.put b.fl,b.p0.put b.sb b.pn b.fl b.np,_,Ye,Z7 (XN tk _ h3 h2) (Z5 (Xj tk _ e hv)),FI h3 e⟩
theorem UV{α:Type}{us:List α}{D F:α->Dat}(J':∀H',Same H H'->Itx J H' xs)(hx:HasL H xs (us.map D))(hn:us.length<=10000)(hs:∀u x H1 (R:V->Hp->Prop),u∈us->Same H H1->Has H1 x (D u)->(∀v H3,Same H1 H3->Has H3 v (F u)->R v H3)->g x s0 H1 fun s2 H2=>te s2 H2 R)(hd:∀vs q H',H q=none->Same H H'->H' q=some (.lst vs)->HasL H' vs (us.map F)->Q (.ref q) H'):Tv J g te s0 Q H:=by
 have lx:=hx.length;rw[ZA]at lx;refine V0 xs.length (MD (by omega)) (fun i vs H'=>Same H H'/\vs.length=i/\HasL H' vs ((us.take i).map F)) ⟨Z8 _,rfl,Z6⟩ (fun i vs H' z=>z.2.1) ?_ ?_ ?_ ?_
 .rintro i vs H' hi ⟨s,_⟩
  exact(J' H' s).go i hi
 .rintro vs H' ⟨s,_⟩
  exact(J' H' s).stop
 .rintro i vs H' x H'' R hi ⟨s,z2,z3⟩ yl rT
  obtain⟨rfl,y⟩:=(J' H' s).yld i x H'' yl;obtain⟨u,hu,hv⟩:=getD hx y;refine hs u x _ R (ZJ hu) s (hv.mono s) fun v H3 s3 h3=>rT _ _ ⟨s.trans s3,by rw[ZL,z2];rfl,?_⟩;rw[take_snoc hu,ZK];exact Z7 (z3.mono s3) (Z5 h3)
 .rintro vs H' q ⟨s,z2,z3⟩ hq
  rw[Zg (Nat.le_of_eq lx.symm)]at z3;have s2:=Yo hq (.lst vs);exact hd vs q _ (s.free hq) (s.trans s2) Ye (z3.mono s2)
def Bh:Option (List Int)->Dat
 |none=>.non
 |some ws=>JG ws
def VG:W->List Int->Option (List Int)
 |.non,ws=>some ws
 |.tag _,_=>none
 |.pair a b,ws=>match VG a (ws++[0])with
  |some r=>some r
  |none=>VG b (ws++[1])
theorem XT{K:W.Frag}{Q:VK}(hx:Has H x (JG ws))(hy:Has H y (JG us))(n:us≠[])(l:ws.length+us.length<=1000)(q:∀u H',Same H H'->Has H' u (JG (ws++ us))->Q u H'):Ux K x y H Q\/Uw K x y H Q:=by
 obtain⟨a,rfl,ha⟩:=Jq hx;obtain⟨b,rfl,hb⟩:=Jq hy
 cases ws with
 |nil=>exact .inl ⟨a,b,_,rfl,rfl,Z2 ha,Z2 hb,q _ H (Z8 _) hy⟩
 |cons w ws=>
  refine .inr ⟨a,b,_,_,rfl,rfl,Z2 ha,Z2 hb,(by simp),?_,(fun z=>Zr (List.map_eq_nil_iff.mp z) n),fun _ p hp=>?_⟩
  .rw [ZA,ZA];exact Zh (Yq l)
  .exact q _ _ (Yo hp _) (U8 (by rw[Ye,ZK]))
theorem XG(h:H a=some (.tup [.int k])):Has H (.ref a) (JG [k]):=U8 h
theorem Mc(h:Has H u (Bh (some ws))):u≠.non:=fun z=>by
 obtain⟨a,e,_⟩:=Jq h;rw[z]at e;cases e
theorem XE(h:Has H u (Bh none)):u=.non:=by unfold Bh Has at h;exact h
end L2
namespace K4
open PySem L2
section
theorem LG:Yi ["worth","way","part","number"] ["worth","way"] (Yd MQ):=Y2
inductive SPO(H:Hp)(Q:VK):List V->Prop
 |mk (v y:V) (wo:W) (ws:List Int) (hv:Has H v wo.dat) (hy:Has H y (JG ws)) (hw:Way ws) (q:∀u,Has H u (wo.part ws).dat->Q u H):SPO H Q [v,y]
def Pk:Sp:=fun vs H Q _=>SPO H Q vs
theorem Sv(B:Blt mg)(F:Fun K "part_of" "part_of" MQ f fd):Yf P w K mg base CX0 (n+1) f fd ["worth","way"] Pk:=by
 refine F.oi LG fun cdv A outer s H vs Q E hr h=>?_;obtain⟨v,y,wo,ws,hv,hy,hw,q⟩:=h;obtain⟨a,rfl,ha⟩:=Jq hy;refine⟨_,YY (Yu 2 LG.nd (pv 0)) (YY (V1 Zv rfl (JV (pv 1)) (Yp 3 LG.nd)
  (YY (Y0 (JH (Ve (Uc rfl B.isi rfl B.tuple VN (pv 2)))) (YZ (Yh VI)) Yl) (YZ (Yu 2 LG.nd (Yj Ym (pv 2) (pv 3) (fun _ _=>rfl))))))
  (YZ (Yh (pv 2)))),?_⟩
 dsimp only[Vb,Cx.nox,Cx.wish];show let T0:=_;let T1:=_;let T2:=_;let T3:=Yk (VC _ T2 _) T1;let T4:=Yk (UH _ _ T3) T0;Yk _ T4 _ _ _
 intros
 refine⟨⟨_,Z2 ha⟩,?_⟩;refine Mp (xs:=ws.map V.int) (fun i U H'=>H'=H/\∃u z wo',U=[some v,some (.ref a),some u,z]/\Has H u wo'.dat/\wo'.part (ws.drop i)=wo.part ws) ⟨rfl,v,none,wo,rfl,hv,rfl⟩ ?_ ?_ ?_
 .rintro i U H' _ ⟨rfl,_⟩
  exact Z2 ha
 .rintro i x U H' hx ⟨rfl,u,z,wo',rfl,hu,e⟩
  obtain⟨n,r,rfl,e1,e2,hn⟩:=Ra hx;have t:=Jo (K:=K) hu;refine⟨_,_,_,_,rfl,t,Jn K _ (by simp),_,rfl,?_⟩
  cases wo' with
  |non=>
   refine VE (by simp[isD,tyD,W.dat]) (q _ ?_);rw[<-e,e1];unfold W.part;exact XM
  |tag y=>
   refine VE (by simp[isD,tyD,W.dat]) (q _ ?_);rw[<-e,e1];unfold W.part;exact XM
  |pair b c=>
   refine Yy (by simp[isD,tyD,W.dat]) ?_;obtain⟨p,x1,y1,rfl,hp,h1,h2⟩:=J1 hu;refine⟨_,_,Z2 hp,Ma (hw n hn),rfl,_,_,(if n=0 then b else c),rfl,?_,?_⟩
   .split <;> assumption
   .rw [<-e,e1,e2]
    conv=>rhs;unfold W.part
    split <;> rfl
 .rintro U H' ⟨rfl,u,z,wo',rfl,hu,e⟩
  refine q _ ?_;rw[ZA,List.drop_length]at e;rw[<-e];cases wo' <;> (unfold W.part;exact hu)
abbrev fnp:List Str:=["worth","way"]
theorem P7:Yi ["worth","way","k","found"] fnp (Yd Uh):=Y2
inductive SFN(n:Nat)(H:Hp)(Q:VK):List V->Prop
 |mk (x y:V) (wo:W) (ws:List Int) (hx:Has H x wo.dat) (hy:Has H y (JG ws)) (d:wo.dep<n) (l:ws.length+wo.dep<=100) (q:∀u H',Same H H'->Has H' u (Bh (VG wo ws))->Q u H'):SFN n H Q [x,y]
def EJ(n:Nat):Sp:=fun vs H Q _=>SFN n H Q vs
theorem AD(B:Blt mg)(F:Fun K "_law_first_none" "_law_first_none" Uh f fd)(G:Yf P w K mg base CX0 L f fd fnp (EJ n))(bG:Binds K fd fnp [])(mG:mg "_law_first_none"=some (.ref f)):Yf P w K mg base CX0 (L+1) f fd fnp (EJ (n+1)):=by
 have DG:Df P w K mg base L "_law_first_none" fnp (EJ n):=⟨f,fd,mG,F.kp,bG,G⟩;refine F.oi P7 fun cdv A outer s H vs Q E hr h=>?_;obtain⟨x,y,wo,ws,hx,hy,d,l,q⟩:=h;refine⟨_,YY (Y0 (Yn Ud (pv 0) VI (Yv _)) (YZ (Yh (pv 1))) Yl)
  (YY (Y0 (Ve (Uc rfl B.isi rfl B.tuple VN (pv 0))) (YZ (V1 Zv rfl (Jd rfl B.range (pa1 Ya)) (Yp 2 P7.nd)
   (YY (Yu 3 P7.nd (VJ DG hr (pa2 (Yj Ym (pv 0) (pv 2) (fun _ _=>rfl)) (VB (r:=fun x y H Q=>Ux K x y H Q\/Uw K x y H Q) Ue (pv 1) (Yt (pa1 (pv 2)))))))
  (YZ (Y0 (Yn Dj (pv 3) VI (Yv _)) (YZ (Yh (pv 3))) Yl))))) Yl)
  (YZ (Yh (VI)))),?_⟩
 dsimp only[Vb,Cx.nox,Cx.wish];show let T0:=_;let T1:=_;let T2:=VC _ T1 _;let T3:=Yk _ T2;let T4:=UH _ _ T3;let T5:=Yk (VC _ T4 _) T0;let T6:=_;Yk (VC _ T6 _) T5 _ _ _
 intros
 cases wo with
 |non=>
  have e:x=.non:=by unfold W.dat Has at hx;exact hx
  subst e;exact⟨rfl,_,rfl,VE rfl (q _ H (Z8 _) (by unfold VG Bh;exact hy))⟩
 |tag t=>
  have e:x=.str t:=has_str hx;subst e;refine⟨rfl,_,rfl,Yy (by simp) ?_⟩;refine⟨_,_,_,_,rfl,Jo (K:=K) hx,Jn K _ (by simp),_,rfl,Yy (by simp[isD,tyD,W.dat]) ?_⟩;exact q _ H (Z8 _) (by unfold VG Bh Has;rfl)
 |pair a b=>
  have hx0:=hx;obtain⟨p,x1,x2,rfl,hp,h1,h2⟩:=J1 hx;refine⟨rfl,_,rfl,Yy (by simp) ?_⟩;refine⟨_,_,_,_,rfl,Jo (K:=K) hx,Jn K _ (by simp),_,rfl,VE (by simp[isD,tyD,W.dat]) ?_⟩;refine⟨2,rfl,by decide,by decide,?_⟩;have da:a.dep<n:=by unfold W.dep at d;omega
  have db:b.dep<n:=by unfold W.dep at d;omega
  have la:ws.length+1+a.dep<=100:=by unfold W.dep at l;omega
  have lb:ws.length+1+b.dep<=100:=by unfold W.dep at l;omega
  refine XR (n:=(2:Int).toNat) (fun i U H'=>Same H H'/\(1<=i->VG a (ws++[0])=none)/\(2<=i->VG b (ws++[1])=none)/\∃z2 z3,U=[some (.ref p),some y,z2,z3]) ⟨Z8 _,(fun z=>Zr z (by omega)),(fun z=>Zr z (by omega)),_,_,rfl⟩ ?_ ?_
  .rintro i U H' hi ⟨s1,g1,g2,z2,z3,rfl⟩
   have hi:i<2:=hi;have it:((0:Int)+(i:Nat))=0\/((0:Int)+(i:Nat))=1:=by omega
   refine⟨_,_,Z2 (s1 _ _ hp),Ma it,sl 1,fun t ht=>?_⟩;refine up_in ht _ fun H2 s2 g3=>?_;have s12:=s1.trans s2;refine XT (hy.mono s12) (XG g3) (by simp) (by simp;omega) fun u H3 s3 hu=>?_;have s13:=s12.trans s3;have wl:(ws++[(0:Int)+(i:Nat)]).length=ws.length+1:=by simp
   match i,hi with
   |0,_=>
    refine⟨_,_,a,ws++[0],by simpa using h1.mono s13,by simpa using hu,da,by simp;omega,fun u4 H4 s4 h4=>?_⟩;refine⟨rfl,_,rfl,?_⟩
    cases e:VG a (ws++[0])with
    |none=>
     rw[e]at h4;obtain rfl:=XE h4;exact Yy (by simp) ⟨s13.trans s4,(fun _=>rfl),(fun z=>Zr z (by omega)),_,_,rfl⟩
    |some r=>
     rw[e]at h4;refine VE (by simp[Mc h4]) (q _ _ (s13.trans s4) ?_);unfold VG;rw[e];exact h4
   |1,_=>
    refine⟨_,_,b,ws++[1],by simpa using h2.mono s13,by simpa using hu,db,by simp;omega,fun u4 H4 s4 h4=>?_⟩;refine⟨rfl,_,rfl,?_⟩
    cases e:VG b (ws++[1])with
    |none=>
     rw[e]at h4;obtain rfl:=XE h4;exact Yy (by simp) ⟨s13.trans s4,(fun _=>g1 (by omega)),(fun _=>rfl),_,_,rfl⟩
    |some r=>
     rw[e]at h4;refine VE (by simp[Mc h4]) (q _ _ (s13.trans s4) ?_);unfold VG;rw[g1 (by omega),e];exact h4
  .rintro U H' ⟨s1,g1,g2,z2,z3,rfl⟩
   refine q _ H' s1 ?_;unfold VG;rw[g1 (by decide)];dsimp only;rw[g2 (by decide)];unfold Bh Has;rfl
theorem PH(B:Blt mg)(F:Fun K "_law_first_none" "_law_first_none" Uh f fd)(bG:Binds K fd fnp [])(mG:mg "_law_first_none"=some (.ref f)):∀n:Nat,Yf P w K mg base CX0 (n+1) f fd fnp (EJ n)
 |0=>.none fun vs H Q E h=>by
  obtain⟨x,y,wo,ws,hx,hy,d,l,q⟩:=h;exact Zr d (by omega)
 |n+1=>AD B F (PH B F bG mG n) bG mG
end
end K4
namespace L2
open PySem
def goW:W->List Int->List Int->List Int ⊕ W
 |.non,pre,_=>.inl pre
 |.tag t,_,_=>.inr (.tag t)
 |.pair a b,_,[]=>.inr (.pair a b)
 |.pair a b,pre,i::r=>goW (if i=0 then a else b) (pre++[i]) r
termination_by _ _ r=>r.length
theorem Jh:goW .non pre r=.inl pre:=by unfold goW;rfl
theorem XO:goW (.tag t) pre r=.inr (.tag t):=by unfold goW;rfl
theorem Ge:goW (.pair a b) pre []=.inr (.pair a b):=by unfold goW;rfl
theorem J3:goW (.pair a b) pre (i::r)=goW (if i=0 then a else b) (pre++[i]) r:=by conv=>lhs;unfold goW
def Fit:W->List Int->Prop
 |.non,_=>True
 |.tag _,ws=>ws=[]
 |.pair _ _,[]=>True
 |.pair a b,i::r=>(i=0\/i=1)/\Fit (if i=0 then a else b) r
termination_by _ r=>r.length
inductive Du where
 |nev (at_:Nat) (ws:List Int)|wo (w:W)
def Du.dat:Du->Dat
 |.nev at_ ws=>.tup [.str "never",.int (at_:Nat),JG ws]
 |.wo w=>.tup [.str "worth",w.dat]
def shown:W->W
 |.pair _ _=>.pair .non .non
 |w=>w
def U6(w:W)(at_:Nat)(ws:List Int):Bool->Du
 |true=>match VG w ws with
  |some r=>.nev at_ r
  |none=>.wo w
 |false=>.wo (shown w)
def due(w:W)(at_:Nat)(ws:List Int)(full:Bool):Du:=match goW w [] ws with
 |.inl pre=>.nev at_ pre
 |.inr u=>U6 u at_ ws full
theorem Gf:∀(ws pre:List Int)(w:W){u:W},goW w pre ws=.inr u->u.dep<=w.dep
 |[],pre,w,u,h=>by
  cases w <;> (unfold goW at h;cases h) <;> exact ZG _
 |i::r,pre,w,u,h=>by
  cases w with
  |non=>unfold goW at h;cases h
  |tag t=>unfold goW at h;cases h;exact ZG _
  |pair a b=>
   rw[J3]at h;have:=Gf r _ _ h;have e:(W.pair a b).dep=1+max a.dep b.dep:=by conv=>lhs;unfold W.dep
   rw[e]
   split at this <;> omega
theorem Mf(h:H t=some (.tup [.str "never",.int (k:Nat),u]))(hu:Has H u (JG ws)):Has H (.ref t) (Du.nev k ws).dat:=by
 unfold Du.dat;exact Y1 h (Z4 VD (Z4 (by unfold Has;rfl) (Z5 hu)))
theorem Ur(h:H t=some (.tup [.str "worth",u]))(hu:Has H u wo.dat):Has H (.ref t) (Du.wo wo).dat:=by
 unfold Du.dat;exact Y1 h (Z4 VD (Z5 hu))
theorem OW{ws:List Int}(h:i<ws.length):ws.drop i=ws[i]::ws.drop (i+1):=List.drop_eq_getElem_cons h
theorem K5{ws:List Int}(h:i<ws.length):ws.take (i+1)=ws.take i++[ws[i]]:=by rw[List.take_succ_eq_append_getElem h]
end L2
namespace K4
open PySem L2
section
theorem LN:Yi ["worth","at","way","full","k","lack"] ["worth","at","way","full"] (Yd Qf):=Y2
inductive SDu(n:Nat)(H:Hp)(Q:VK):List V->Prop
 |mk (x y:V) (wo:W) (ws:List Int) (k:Nat) (full:Bool) (hx:Has H x wo.dat) (hy:Has H y (JG ws)) (ft:Fit wo ws) (d:wo.dep<n) (l:ws.length+wo.dep<=100) (q:∀u H',Same H H'->Has H' u (due wo k ws full).dat->Q u H'):SDu n H Q [x,.int (k:Nat),y,.bl full]
def Pw(n:Nat):Sp:=fun vs H Q _=>SDu n H Q vs
theorem QU(B:Blt mg)(F:Fun K "_law_due" "_law_due" Qf f fd)(DG:Df P w K mg base L "_law_first_none" fnp (EJ n)):Yf P w K mg base CX0 (L+1) f fd ["worth","at","way","full"] (Pw n):=by
 refine F.oi LN fun cdv A outer s H vs Q E hr h=>?_;obtain⟨x,y,wo,ws,k,full,hx,hy,ft,d,l,q⟩:=h;obtain⟨a,rfl,ha⟩:=Jq hy;refine⟨_,YY (V1 Zv rfl (Jd rfl B.range (pa1 (Y7 Y3 rfl B.len Zu (pa1 (pv 2))))) (Yp 4 LN.nd)
   (YY (Y0 (Yn Ud (pv 0) VI (Yv _)) (YZ (Yh (Yt (pa3 (Yw) (pv 1) (V3 LC (pv 2) JK (JJ (pv 4))))))) Yl)
  (YZ (Yu 0 LN.nd (Yj Ym (pv 0) (Yj Ym (pv 2) (pv 4) (fun _ _=>rfl)) (fun _ _=>rfl))))))
  (YY (Y0 (Yn Ud (pv 0) VI (Yv _)) (YZ (Yh (Yt (pa3 (Yw) (pv 1) (pv 2))))) Yl)
  (YY (Y0 (Ve (pv 3)) (YY (Yu 5 LN.nd (VJ DG hr (pa2 (pv 0) (pv 2))))
  (YY (Y0 (Yn Dj (pv 5) VI (Yv _)) (YZ (Yh (Yt (pa3 (Yw) (pv 1) (pv 5))))) Yl)
  (YZ (Yh (Yt (pa2 (Yw) (pv 0))))))) Yl)
  (YY (Y0 (Ve (Uc rfl B.isi rfl B.tuple VN (pv 0))) (YZ (Yh (Yt (pa2 (Yw) (Yt (pa2 (VI) (VI))))))) Yl)
  (YZ (Yh (Yt (pa2 (Yw) (pv 0)))))))),?_⟩
 dsimp only[Vb,Cx.nox,Cx.wish];show let T0:=_;let T1:=_;let T2:=Yk (VC _ T1 _) T0;let T3:=_;let T4:=_;let T5:=Yk (VC _ T4 _) T3;let T6:=Yk _ T5;let T7:=Yk (VC _ T6 _) T2;let T8:=_;let T9:=Yk (VC _ T8 _) T7;let T10:=_;let T11:=_;let T12:=Yk (VC _ T11 _) T10;Yk (UH _ _ T12) T9 _ _ _
 intros
 refine⟨a,_,rfl,.inr (Z2 ha),?_⟩;rw[ZA];refine⟨_,rfl,by omega,by omega,?_⟩;refine XR (n:=((ws.length:Nat):Int).toNat) (fun i U H'=>H'=H/\∃u z wo',U=[some u,some (.int (k:Nat)),some (.ref a),some (.bl full),z,none]/\Has H u wo'.dat/\goW wo' (ws.take i) (ws.drop i)=goW wo [] ws/\Fit wo' (ws.drop i)) ⟨rfl,x,none,wo,rfl,hx,rfl,ft⟩ ?_ ?_
 .rintro i U H' hi ⟨rfl,u,z,wo',rfl,hu,e,ft'⟩
  have hi:i<ws.length:=by simpa using hi
  refine⟨rfl,_,rfl,?_⟩;have ei:((0:Int)+(i:Nat))=((i:Nat):Int):=by omega
  rw[OW hi]at e ft'
  cases wo' with
  |non=>
   have eu:u=.non:=by unfold W.dat Has at hu;exact hu
   subst eu;refine VE (by simp) ?_;rw[Jh]at e;refine⟨_,rfl,a,_,rfl,ha,(fun z=>?_),fun p hp=>?_⟩
   .rw [ei]at z
    have:((ws.map V.int).take i).length=(ws.map V.int).length:=by
     rw[<-To _ _ (by rw[ZA];omega)];unfold UU;rw[z.1,z.2];simp
    rw[ZN,ZA]at this;omega
   .refine up_in hp _ fun H2 s2 g2=>?_
    refine⟨sl 3,fun t ht=>?_⟩;refine up_in ht _ fun H3 s3 g3=>?_;refine q _ _ (s2.trans s3) ?_;unfold due;rw[<-e];refine Mf g3 (U8 (s3 _ _ ?_));rw[g2,ei,To _ _ (by rw[ZA];omega),List.map_take]
  |tag t=>
   unfold Fit at ft';cases ft'
  |pair b c=>
   obtain⟨p,x1,x2,rfl,hp,h1,h2⟩:=J1 hu;refine Yy (by simp) ?_;rw[J3]at e;unfold Fit at ft';refine⟨_,.int ws[i],Z2 ha,?_,_,_,Z2 hp,Ma ft'.1,?_⟩
   .rw [ei];exact Y5 (by rw[ZH,ZD hi];rfl)
   refine⟨rfl,_,_,(if ws[i]=0 then b else c),rfl,?_,?_,ft'.2⟩
   .split <;> assumption
   .rw [K5 hi];exact e
 .rintro U H' ⟨rfl,u,z,wo',rfl,hu,e,ft'⟩
  have e1:((ws.length:Nat):Int).toNat=ws.length:=by omega
  rw[e1,List.drop_length,List.take_length]at e;refine⟨rfl,_,rfl,?_⟩;have hd:∀u,goW wo [] ws=.inr u->u.dep<=wo.dep:=fun u h=>Gf _ _ _ h
  cases wo' with
  |non=>
   have eu:u=.non:=by unfold W.dat Has at hu;exact hu
   subst eu;refine VE (by simp) ⟨sl 3,fun t ht=>?_⟩;refine up_in ht _ fun H3 s3 g3=>?_;rw[Jh]at e;refine q _ _ s3 ?_;unfold due;rw[<-e];exact Mf g3 (hy.mono s3)
  |tag t=>
   have eu:u=.str t:=has_str hu;subst eu;rw[XO]at e;refine Yy (by simp) ⟨_,rfl,Bv (fun c=>?_) (fun c=>?_)⟩
   .subst c
    refine⟨_,_,.tag t,ws,hu,hy,by unfold W.dep;omega,by unfold W.dep;omega,fun u4 H4 s4 h4=>?_⟩;unfold VG at h4;obtain rfl:=XE h4;refine⟨rfl,_,rfl,Yy (by simp) ⟨sl 2,fun t' ht=>?_⟩⟩;refine up_in ht _ fun H5 s5 g5=>?_;refine q _ _ (s4.trans s5) ?_;unfold due;rw[<-e];unfold U6 VG;exact Ur g5 (hu.mono (s4.trans s5))
   .have c':full=false:=by simpa using c
    subst c';refine⟨_,_,_,_,rfl,Jo (K:=K) hu,Jn K _ (by simp),_,rfl,Yy (by simp[isD,tyD,W.dat]) ⟨sl 2,fun t' ht=>?_⟩⟩;refine up_in ht _ fun H5 s5 g5=>?_;refine q _ _ s5 ?_;unfold due;rw[<-e];unfold U6 shown;exact Ur g5 (hu.mono s5)
  |pair b c=>
   rw[Ge]at e;have hdp:=hd (.pair b c) e.symm;obtain⟨p,x1,x2,rfl,hp,h1,h2⟩:=J1 hu;refine Yy (by simp) ⟨_,rfl,Bv (fun cc=>?_) (fun cc=>?_)⟩
   .subst cc
    refine⟨_,_,.pair b c,ws,hu,hy,by omega,by omega,fun u4 H4 s4 h4=>?_⟩
    cases e4:VG (.pair b c) ws with
    |none=>
     rw[e4]at h4;obtain rfl:=XE h4;refine⟨rfl,_,rfl,Yy (by simp) ⟨sl 2,fun t' ht=>?_⟩⟩;refine up_in ht _ fun H5 s5 g5=>?_;refine q _ _ (s4.trans s5) ?_;unfold due;rw[<-e];unfold U6;dsimp only;rw[e4];exact Ur g5 (hu.mono (s4.trans s5))
    |some r=>
     rw[e4]at h4;refine⟨rfl,_,rfl,VE (by simp[Mc h4]) ⟨sl 3,fun t' ht=>?_⟩⟩;refine up_in ht _ fun H5 s5 g5=>?_;refine q _ _ (s4.trans s5) ?_;unfold due;rw[<-e];unfold U6;dsimp only;rw[e4];exact Mf g5 (h4.mono s5)
   .have c':full=false:=by simpa using cc
    subst c';refine⟨_,_,_,_,rfl,Jo (K:=K) hu,Jn K _ (by simp),_,rfl,VE (by simp[isD,tyD,W.dat]) ⟨sl 2,fun t1 ht1=>?_⟩⟩;refine up_in ht1 _ fun H4 s4 g4=>?_;refine⟨sl 2,fun t' ht=>?_⟩;refine up_in ht _ fun H5 s5 g5=>?_;refine q _ _ (s4.trans s5) ?_;unfold due;rw[<-e];unfold U6 shown;refine Ur g5 ?_;unfold W.dat W.dat;exact Y1 (s5 _ _ g4) (Z4 (by unfold Has;rfl) (Z5 (by unfold Has;rfl)))
end
end K4
namespace L2
open PySem
theorem Sk(h1:PI X tg l t1)(h2:PI X tg l t2):PI X tg l (fun U H R=>t1 U H R\/t2 U H R):=by
 intro pins s U H R I h;rcases h with h|h
 .exact h1 pins s U H R I h
 .exact h2 pins s U H R I h
mutual
def Dat.nt:Dat->Bool
 |.bl _=>false
 |.tup ds=>Dat.nts ds
 |.lst ds=>Dat.nts ds
 |_=>true
def Dat.nts:List Dat->Bool
 |[]=>true
 |d::ds=>d.nt && Dat.nts ds
end
theorem GU:∀ds:List Dat,Dat.nts ds=(ds.map Dat.nt).all id
 |[]=>by unfold Dat.nts;rfl
 |d::ds=>by unfold Dat.nts;rw[GU ds];rfl
def Dat.sm:Nat->Dat->Prop
 |0,_=>False
 |n+1,.tup ds=>ds.length<=1000/\∀d∈ds,Dat.sm n d
 |n+1,.lst ds=>ds.length<=1000/\∀d∈ds,Dat.sm n d
 |_+1,_=>True
theorem Mx:∀{bs:List Bool}{vs:List V},HasL H vs (bs.map Dat.bl)->vs=bs.map V.bl
 |[],[],_=>rfl
 |[],_::_,h=>by unfold HasL at h;exact h.elim
 |_::_,[],h=>by rw[ZV]at h;unfold HasL at h;exact h.elim
 |b::bs,x::xs,h=>by
  rw[ZV]at h;unfold HasL at h;obtain⟨h1,h2⟩:=h;unfold Has at h1;rw[h1,Mx h2];rfl
end L2
namespace K4
open PySem L2
section
theorem JC:bootBuiltins "list"=some (.type "list"):=by decide +kernel
theorem CU:Yi ["thing"] ["thing"] (Yd XH):=Y2
theorem Qc:List.Nodup [("one":Str)]:=by decide +kernel
inductive SNT(n:Nat)(H:Hp)(Q:VK):List V->Prop
 |mk (x:V) (d:Dat) (hx:Has H x d) (sm:d.sm n) (q:∀H',Same H H'->Q (.bl d.nt) H'):SNT n H Q [x]
def EH(n:Nat):Sp:=fun vs H Q _=>SNT n H Q vs
theorem Sz(B:Blt mg)(F:Fun K "_law_no_truths" "_law_no_truths" XH f fd)(G:Yf P w K mg base CX0 L f fd ["thing"] (EH n))(bG:Binds K fd ["thing"] [])(mG:mg "_law_no_truths"=some (.ref f)):Yf P w K mg base CX0 (L+1) f fd ["thing"] (EH (n+1)):=by
 have DG:Df P w K mg base L "_law_no_truths" ["thing"] (EH n):=⟨f,fd,mG,F.kp,bG,G⟩;refine F.oi CU fun cdv A outer s H vs Q E hr h=>?_;obtain⟨x,d,hx,sm,q⟩:=h;refine⟨_,YY (Y0 (Ve (Y7 (r:=Ox K) Et rfl B.isi Rg (pa2 (pv 0) (Yt (pa2 (MZ (v:=.ty "tuple") rfl B.tuple VN rfl) (MZ (v:=.ty "list") rfl B.list JC rfl)))))) (YZ (Yh (Y7 (Tt rfl) rfl B.all Wo (pa1 (V6 ["one"] [] (Sk (JV (pv 0)) (JL (pv 0))) (Vu (i:=0) (by decide)) (fun cl C fp s H=>Yp 0 Qc rfl (Or.inl rfl) (Or.inr rfl)) (fun cl C fp s H=>VJ DG hr (pa1 (pv 0)))))))) Yl)
  (YZ (Yh (QH (Uc rfl B.isi rfl B.bool B8 (pv 0))))),?_⟩
 dsimp only[Vb,Cx.nox,Cx.wish];show let T0:=_;let T1:=_;Yk (VC _ T1 _) T0 _ _ _
 intros
 refine⟨sl 2,fun t0 ht0=>?_⟩;refine up_in ht0 _ fun H0 s0 g0=>?_;have hx0:=hx.mono s0;refine⟨x,d,t0,["tuple","list"],_,rfl,hx0,g0,Qg K d,_,rfl,?_⟩;have flat:∀b:Bool,d.nt=!b->isD "bool" d=b->Q (.bl !(isD "bool" d)) H0:=fun b e1 e2=>by rw[e2,<-e1];exact q _ s0
 cases d with
 |non=>exact Yy (by simp[isD,tyD]) ⟨_,_,_,_,rfl,Jo (K:=K) hx0,Jn K _ (by simp),_,rfl,flat false (by unfold Dat.nt;rfl) rfl⟩
 |bl b=>exact Yy (by simp[isD,tyD]) ⟨_,_,_,_,rfl,Jo (K:=K) hx0,Jn K _ (by simp),_,rfl,flat true (by unfold Dat.nt;rfl) rfl⟩
 |int i=>exact Yy (by simp[isD,tyD]) ⟨_,_,_,_,rfl,Jo (K:=K) hx0,Jn K _ (by simp),_,rfl,flat false (by unfold Dat.nt;rfl) rfl⟩
 |str z=>exact Yy (by simp[isD,tyD]) ⟨_,_,_,_,rfl,Jo (K:=K) hx0,Jn K _ (by simp),_,rfl,flat false (by unfold Dat.nt;rfl) rfl⟩
 |tup ds=>
  obtain⟨a,xs,rfl,ha,hl⟩:=Yr hx0;unfold Dat.sm at sm;refine VE (by simp[isD,tyD]) (.inl ⟨⟨_,Z2 ha⟩,?_⟩);refine UV (us:=ds) (D:=id) (F:=fun d=>.bl d.nt) (fun H' s=>itt (Z2 (s _ _ ha))) (by rw[List.map_id];exact hl) (by omega) (fun u x H1 R hm s1 hx1 hR=>?_) fun vs p H1 fp s1 hp hvs=>?_
  .exact ⟨x,u,hx1,sm.2 u hm,fun H2 s2=>hR _ _ s2 (by unfold Has;rfl)⟩
  .have e:=Mx (bs:=ds.map Dat.nt) (by rw[List.map_map];exact hvs)
   refine⟨p,ds.map Dat.nt,rfl,Z3 (by rw[hp,e]),?_⟩;rw[<-GU];exact q _ (s0.trans s1)
 |lst ds=>
  obtain⟨a,xs,rfl,ha,hl⟩:=OH hx0;unfold Dat.sm at sm;refine VE (by simp[isD,tyD]) (.inr ⟨⟨_,Z3 ha⟩,?_⟩);refine UV (us:=ds) (D:=id) (F:=fun d=>.bl d.nt) (fun H' s=>itl (Z3 (s _ _ ha))) (by rw[List.map_id];exact hl) (by omega) (fun u x H1 R hm s1 hx1 hR=>?_) fun vs p H1 fp s1 hp hvs=>?_
  .exact ⟨x,u,hx1,sm.2 u hm,fun H2 s2=>hR _ _ s2 (by unfold Has;rfl)⟩
  .have e:=Mx (bs:=ds.map Dat.nt) (by rw[List.map_map];exact hvs)
   refine⟨p,ds.map Dat.nt,rfl,Z3 (by rw[hp,e]),?_⟩;rw[<-GU];exact q _ (s0.trans s1)
theorem O2(B:Blt mg)(F:Fun K "_law_no_truths" "_law_no_truths" XH f fd)(bG:Binds K fd ["thing"] [])(mG:mg "_law_no_truths"=some (.ref f)):∀n:Nat,Yf P w K mg base CX0 (n+1) f fd ["thing"] (EH n)
 |0=>.none fun vs H Q E h=>by
  obtain⟨x,d,hx,sm,q⟩:=h;exact sm
 |n+1=>Sz B F (O2 B F bG mG n) bG mG
end
end K4
namespace L2
open PySem
mutual
def Dat.tn:Dat->Bool
 |.str _=>true
 |.non=>true
 |.tup ds=>Dat.tns ds
 |_=>false
def Dat.tns:List Dat->Bool
 |[]=>true
 |d::ds=>d.tn && Dat.tns ds
end
mutual
theorem KE{H H':Hp}(b:TK H H'):∀(d:Dat){v:V},d.tn=true->Has H v d->Has H' v d
 |.str _,_,_,h=>by unfold Has at h |-;exact h
 |.non,_,_,h=>by unfold Has at h |-;exact h
 |.tup ds,_,t,h=>by
  unfold Has at h |-;obtain⟨a,xs,h1,h2,h3⟩:=h;unfold Dat.tn at t;exact⟨a,xs,h1,b _ _ h2,Gd b ds t h3⟩
 |.bl _,_,t,_=>by unfold Dat.tn at t;cases t
 |.int _,_,t,_=>by unfold Dat.tn at t;cases t
 |.lst _,_,t,_=>by unfold Dat.tn at t;cases t
theorem Gd{H H':Hp}(b:TK H H'):∀(ds:List Dat){xs:List V},Dat.tns ds=true->HasL H xs ds->HasL H' xs ds
 |[],[],_,h=>Z6
 |[],_::_,_,h=>by unfold HasL at h;exact h.elim
 |_::_,[],_,h=>by unfold HasL at h;exact h.elim
 |d::ds,x::xs,t,h=>by
  unfold HasL at h;unfold Dat.tns at t;have t':=Bool.and_eq_true_iff.mp t;exact Z4 (KE b d t'.1 h.1) (Gd b ds t'.2 h.2)
end
mutual
theorem Dat.ni_tn:∀{d:Dat},d.tn=true->d.ni=true
 |.str _,_=>by unfold Dat.ni;rfl
 |.non,_=>by unfold Dat.ni;rfl
 |.tup ds,t=>by
  unfold Dat.tn at t;unfold Dat.ni;exact Dat.nis_tn t
 |.bl _,t=>by unfold Dat.tn at t;cases t
 |.int _,t=>by unfold Dat.tn at t;cases t
 |.lst _,t=>by unfold Dat.tn at t;cases t
theorem Dat.nis_tn:∀{ds:List Dat},Dat.tns ds=true->Dat.nis ds=true
 |[],_=>by unfold Dat.nis;rfl
 |d::ds,t=>by
  unfold Dat.tns at t;have t':=Bool.and_eq_true_iff.mp t;unfold Dat.nis;rw[Dat.ni_tn t'.1,Dat.nis_tn t'.2];rfl
end
theorem Rv{α:Type}{f:α->Dat}(h:∀a,(f a).tn=true):∀l:List α,Dat.tns (l.map f)=true
 |[]=>by unfold List.map Dat.tns;rfl
 |a::l=>by rw[ZV];unfold Dat.tns;rw[h a,Rv h l];rfl
theorem W.tn:∀w:W,w.dat.tn=true
 |.non=>by unfold W.dat Dat.tn;rfl
 |.tag t=>by unfold W.dat Dat.tn;rfl
 |.pair a b=>by unfold W.dat;simp[Dat.tn,Dat.tns,W.tn a,W.tn b]
theorem Fg(s:Same H H')(e:H a=none):Same H (upd H' a o):=fun b u q=>by rw[Yg (Yc q e)];exact s b u q
end L2
namespace K4
open PySem L2
section
abbrev skp:List Str:=["shapes","kind"]
theorem DZ:Yi ["shapes","kind","shape","found","one"] skp (Yd Ga):=Y2
theorem AU:List.Nodup [("other":Str),"one"]:=by decide +kernel
inductive As(n:Nat)(H:Hp)(Q:VK):List V->Prop
 |mk (a:Addr) (y:Str) (ks:List (Str×Shp)) (top:Nat) (c d:Str->Nat) (hs:UN H a ks) (kk:KK top c d ks) (t30:top<=30) (hy:y∈ks.map (·.1)) (dn:d y<n) (d3:d y<3)
  (q:∀(r:Addr)(xs:List V)(H':Hp),Same H H'->H r=none->H' r=some (.lst xs)->HasL H' xs ((Ys ks 3 y).map W.dat)->Q (.ref r) H'):As n H Q [.ref a,.str y]
def RI(n:Nat):Sp:=fun vs H Q _=>As n H Q vs
theorem QN(B:Blt mg)(F:Fun K "_law_worths" "_law_worths" Ga f fd)(G:Yf P w K mg base CX0 L f fd skp (RI n))(bG:Binds K fd skp [])(mG:mg "_law_worths"=some (.ref f)):Yf P w K mg base CX0 (L+1) f fd skp (RI (n+1)):=by
 have DG:Df P w K mg base L "_law_worths" skp (RI n):=⟨f,fd,mG,F.kp,bG,G⟩;refine F.oi DZ fun cdv A outer s H vs Q E hr h=>?_;obtain⟨a,y,ks,top,c,d,hs,kk,t30,hy,dn,d3,q⟩:=h;have hu:=JF hr;refine⟨_,YY (Yu 2 DZ.nd (Vc hu (pv 0) (pv 1) (fun _ _=>rfl)))
  (YY (Y0 (Yn VQ (Yj Ym (pv 2) (Ya)) Yw (Yv _)) (YZ (Yh (VB TJ (Vg (pa1 VI)) (VL Jr rfl B.list JC (pa1 (Yj Ym (pv 2) (Ya))))))) Yl)
  (YY (Yu 3 DZ.nd (Vg (pa1 VI)))
  (YY (V1 Zv rfl (JL (VJ DG hr (pa2 (pv 0) (Yj Ym (pv 2) (Ya))))) (Yp 4 DZ.nd (hx:=Or.inr rfl))
   (YZ (Vm (XU Zz PySem.F.slot_list_extend PySem.F.type_list_extend Ed (pv 3) (pa1 (V6 ["other"] [4] (JL (VJ DG hr (pa2 (pv 0) (Yj Ym (pv 2) (Ya))))) (Vu (i:=0) (by decide)) (fun cl C fp s H=>Yp 0 AU rfl (Or.inl rfl) (Or.inr rfl)) (fun cl C fp s H=>Yt (pa2 (pv 1) (pv 0)))))))))
  (YZ (Yh (pv 3)))))),?_⟩
 dsimp only[Vb,Cx.nox,Cx.wish];show let T0:=_;let T1:=_;let T2:=Yk (UH _ _ T1) T0;let T3:=Yk _ T2;let T4:=_;let T5:=Yk (VC _ T4 _) T3;Yk _ T5 _ _ _
 intros
 obtain⟨sh,hsh⟩:=Vl hy;obtain⟨kvs,hk,_,hg⟩:=id hs;obtain⟨v,hv,hd⟩:=hg y sh hsh;have k1:=kk.at hsh;obtain⟨wl,w0,wdp⟩:=V4 kk 3 y hy d3;have gy:Vh H a (.str y) (some v):=by rw[<-hv];exact .inl ⟨kvs,Sum.inr y,hk,rfl,rfl⟩
 refine⟨v,gy,?_⟩;have ew:Ys ks 3 y=wOf ks 2 sh:=UO hsh
 cases sh with
 |tags ts=>
  obtain⟨p,l,rfl,hp,hl⟩:=U5 hd;refine⟨_,_,Z2 hp,rfl,rfl,_,rfl,VE (by decide +kernel) ?_⟩;obtain⟨g1,g2,_⟩:=k1;refine⟨sl 1,fun t1 ht1=>?_⟩;refine up_in ht1 _ fun H1 s1 e1=>?_;refine⟨_,_,Z2 (s1 _ _ hp),rfl,l,_,rfl,.inr (Z2 (s1 _ _ hl)),fun t2 ht2=>?_⟩;refine up_in ht2 _ fun H2 s2 e2=>?_;refine⟨t1,t2,_,_,rfl,rfl,s2 _ _ e1,e2,?_,fun t3 ht3=>?_⟩
  .rw [ZA]
   exact Zh (Yq (by simp only[List.length_singleton];omega))
  .refine q t3 _ _ ((s1.trans s2).trans (Yo ht3 _)) ((s1.trans s2).free ht3) Ye ?_
   rw[ew];exact Z4 XM (Gj ts)
 |pair e g=>
  obtain⟨p,rfl,hp⟩:=J0 hd;refine⟨_,_,Z2 hp,rfl,rfl,_,rfl,Yy (by decide +kernel) ?_⟩;obtain⟨h1,h2,h3,h4,h5,h6⟩:=k1;have m1:=Nat.le_max_left (d e) (d g);have m2:=Nat.le_max_right (d e) (d g);have ee:Ys ks 2 e=Ys ks 3 e:=JP kk 2 3 e h1 (by omega) (by omega);have eg:Ys ks 2 g=Ys ks 3 g:=JP kk 2 3 g h2 (by omega) (by omega);obtain⟨le,pe,_⟩:=V4 kk 3 e h1 (by omega);obtain⟨lg,pg,_⟩:=V4 kk 3 g h2 (by omega);refine⟨sl 1,fun fl hfl=>?_⟩;refine up_in hfl _ fun H0 s0 g0=>?_;refine⟨_,_,Z2 (s0 _ _ hp),rfl,a,e,ks,top,c,d,hs.mono s0,kk,t30,h1,by omega,by omega,fun r1 xs H1 s1 f1 hx hxl=>?_⟩;have nr:r1≠fl:=fun z=>by rw[z,g0]at f1;cases f1
  have lx:=hxl.length;rw[ZA]at lx;refine⟨⟨_,Z3 hx⟩,?_⟩
  let I:Nat->St->Hp->Prop:=fun i U H'=>Same H H'/\SameB fl H1 H'/\∃(zs:List V)(z:Option V),U=[some (.ref a),some (.str y),some (.ref p),some (.ref fl),z]/\H' fl=some (.lst zs)/\i<=xs.length/\
   HasL H' zs ((W.non::((Ys ks 3 e).take i).flatMap fun u=>(Ys ks 3 g).map fun v=>W.pair u v).map W.dat)
  refine Dt (xs:=xs) I ?_ ?_ ?_ ?_
  .refine ⟨s0.trans s1,SameB.refl _ _,[.non],_,rfl,s1 _ _ g0,Zc _,?_⟩
   rw[List.take_zero];exact Z5 XM
  .rintro i U H' _ ⟨_,z1,_⟩
   exact Z3 (z1 _ _ nr hx)
  .rintro BB RR i x U H' hxi ⟨z0,z1,zs,z,rfl,hz,hi,hzl⟩
   obtain⟨u,hu1,hhx⟩:=getD hxl hxi;have hilt:i<xs.length:=(ZF.mp hxi).1;have tk1:TK H1 H':=fun b us h=>z1 _ _ (fun zz=>by rw[zz,s1 _ _ g0]at h;cases h) h;have hx':=KE tk1 _ (W.tn u) hhx;refine⟨.inl ⟨rfl,_,Z3 hz⟩,?_⟩;refine⟨_,_,Z2 (z0 _ _ hp),rfl,a,g,ks,top,c,d,hs.mono z0,kk,t30,h2,by omega,by omega,fun r2 ws H2 s2 f2 hw hwl=>?_⟩;have lw:=hwl.length;rw[ZA]at lw
   have lim:1+(i+1)*c g<=30:=by
    have:(i+1)*c g<=c e*c g:=Nat.mul_le_mul_right _ (by omega);omega
   have lg30:c g<=30:=by
    have:1*c g<=(i+1)*c g:=Nat.mul_le_mul_right _ (by omega);omega
   have lz:zs.length=1+i*c g:=by
    have:=hzl.length;rw[ZA,Zf,Tf _ (c g) _ (fun b _=>by rw[ZA,lg]),ZN]at this;rw[this,Nat.min_eq_left (by omega)];omega
   refine⟨⟨_,Z3 hw⟩,?_⟩;refine UV (us:=Ys ks 3 g) (D:=W.dat) (F:=fun v=>(W.pair u v).dat) (fun H3 s3=>itl (Z3 (s3 _ _ hw))) hwl (by omega) (fun v x2 H3 R hm s3 hx2 hR=>?_) fun vs pl H3 fp s3 hpl hvs=>?_
   .refine ⟨sl 2,fun t ht=>?_⟩
    have st:=Yo ht (.tup [x,x2]);refine hR _ _ st ?_;unfold W.dat;exact Y1 Ye (Z4 (hx'.mono ((s2.trans s3).trans st)) (Z5 (hx2.mono st)))
   .have sz:=s2.trans s3
    have hfl3:=sz _ _ hz;have lv:=hvs.length;rw[ZA]at lv;refine⟨fl,pl,zs,vs,rfl,rfl,hfl3,hpl,Zh (Yq ?_),?_⟩
    .have:(i+1)*c g=i*c g+c g:=Nat.succ_mul _ _
     omega
    .have tk:TK H3 (upd H3 fl (.lst (zs++ vs))):=WB hfl3 fun xs z=>nomatch z
     refine⟨Fg (z0.trans sz) hfl,(fun b o nb hb=>by rw[Yg nb];exact sz _ _ (z1 _ _ nb hb)),zs++ vs,_,rfl,Ye,hilt,?_⟩
     have ef:(W.non::((Ys ks 3 e).take (i+1)).flatMap fun u=>(Ys ks 3 g).map fun v=>W.pair u v).map W.dat=(W.non::((Ys ks 3 e).take i).flatMap fun u=>(Ys ks 3 g).map fun v=>W.pair u v).map W.dat++ ((Ys ks 3 g).map fun v=>W.pair u v).map W.dat:=by
      rw[RX _ hu1,<-List.cons_append,ZK]
     rw[ef];refine Z7 (Gd tk _ (Rv W.tn _) (hzl.mono sz)) (Gd tk _ (Rv W.tn _) ?_);rw[List.map_map];exact hvs
  .rintro U H' ⟨z0,z1,zs,z,rfl,hz,hi,hzl⟩
   refine q fl zs H' z0 hfl hz ?_;rw[Zg (by omega)]at hzl;rw[ew];show HasL H' zs ((W.non::(Ys ks 2 e).flatMap fun u=>(Ys ks 2 g).map fun v=>W.pair u v).map W.dat);rw[ee,eg];exact hzl
theorem E2(B:Blt mg)(F:Fun K "_law_worths" "_law_worths" Ga f fd)(bG:Binds K fd skp [])(mG:mg "_law_worths"=some (.ref f)):∀n:Nat,Yf P w K mg base CX0 (n+1) f fd skp (RI n)
 |0=>.none fun vs H Q E h=>by
  obtain⟨a,y,ks,top,c,d,hs,kk,t30,hy,dn,d3,q⟩:=h;exact Zr dn (by omega)
 |n+1=>QN B F (E2 B F bG mG n) bG mG
end
end K4
namespace L2
open PySem
def UL(n0 n1 n2:Str)(ts:List Str)(dp:Bool):List (Str×Shp):=(n0,.tags ts)::(n1,.pair n0 n0)::if dp then[(n2,.pair n1 n1)]else[]
structure Q2(ks:List (Str×Shp))(c d:Str->Nat):Prop where
 kk:KK 30 c d ks
 nd:(ks.map (·.1)).Nodup
 kg:KG ks
 ex:∃n0 n1 n2 ts dp,ks=UL n0 n1 n2 ts dp
theorem CM(w:Wds 97 [n0,n1,n2])(wt:Wds 65 tgs)(hr:r<4)(l4:tgs.length=4)(hd:dp=true->r=0):∃c d,Q2 (UL n0 n1 n2 (tgs.take (1+r)) dp) c d:=by
 have nd:=w.nd;simp only[List.nodup_cons,Zd,List.not_mem_nil,or_false,not_or,not_false_eq_true,List.nodup_nil,and_true]at nd;obtain⟨⟨d01,d02⟩,d12⟩:=nd;have lt:(tgs.take (1+r)).length=1+r:=by rw[ZN];omega
 have ntt:(tgs.take (1+r)).Nodup:=wt.nd.sublist (List.take_sublist _ _);refine⟨fun y=>if y=n0 then 2+r else if y=n1 then 1+(2+r)*(2+r)else 26,fun y=>if y=n0 then 0 else if y=n1 then 1 else 2,?_,?_,?_,⟨n0,n1,n2,_,dp,rfl⟩⟩
 .rintro i y s h
  match i,h with
  |0,h=>
   cases h;refine⟨by omega,by omega,by simp;omega,by simp,ntt⟩
  |1,h=>
   cases h;have e10:¬n1=n0:=fun e=>d01 e.symm;refine⟨by simp[UL],by simp[UL],by simp[e10],?_,by simp[e10],by simp[e10]⟩;simp only[e10,if_false,if_true];have:(2+r)*(2+r)<=5*5:=Nat.mul_le_mul (by omega) (by omega);omega
  |i+2,h=>
   cases dp with
   |false=>simp[UL]at h
   |true=>
    have r0:=hd rfl;subst r0
    cases i with
    |succ i=>simp[UL]at h
    |zero=>
     cases h;have e10:¬n1=n0:=fun e=>d01 e.symm;have e20:¬n2=n0:=fun e=>d02 e.symm;have e21:¬n2=n1:=fun e=>d12 e.symm;refine⟨by simp[UL],by simp[UL],by simp[e10,e20,e21],by simp[e20,e21],by simp[e10,e20,e21],by simp[e20,e21]⟩
 .cases dp <;> simp[UL,d01,d02,d12]
 .refine ⟨?_,⟨tgs,wt,?_⟩,?_⟩
  .have sub:((UL n0 n1 n2 (tgs.take (1+r)) dp).map (·.1)).Sublist [n0,n1,n2]:=by
    cases dp with
    |true=>exact List.Sublist.refl _
    |false=>exact List.take_sublist 2 [n0,n1,n2]
   exact⟨w.nd.sublist sub,fun y h=>w.len y (sub.subset h),fun y h=>w.abc y (sub.subset h)⟩
  .rintro i y ts h
   match i,h with
   |0,h=>cases h;exact⟨r,hr,by simp⟩
   |1,h=>cases h
   |i+2,h=>
    cases dp with
    |false=>simp[UL]at h
    |true=>cases i with
     |zero=>cases h
     |succ i=>simp[UL]at h
  .rintro i1 i2 y1 y2 a b h1 h2
   have at_:∀i y,(UL n0 n1 n2 (tgs.take (1+r)) dp)[i]?=some (y,.pair a b)->(i=1/\a=n0)\/(i=2/\a=n1):=fun i y h=>by
    match i,h with
    |0,h=>cases h
    |1,h=>cases h;exact .inl ⟨rfl,rfl⟩
    |i+2,h=>
     cases dp with
     |false=>simp[UL]at h
     |true=>cases i with
      |zero=>cases h;exact .inr ⟨rfl,rfl⟩
      |succ i=>simp[UL]at h
   rcases at_ _ _ h1 with⟨e1,e2⟩|⟨e1,e2⟩ <;> rcases at_ _ _ h2 with⟨e3,e4⟩|⟨e3,e4⟩
   .omega
   .exact Zr (e2.symm.trans e4) d01
   .exact Zr (e4.symm.trans e2) d01
   .omega
end L2
namespace K4
open PySem L2
section
theorem RL:Yi ["stream","deep","tags","names","kinds"] ["stream"] (Yd Mg):=Y2
inductive Au(H:Hp)(Q:VK):List V->Prop
 |mk (p:Addr) (hs:Vp H p) (q:∀(r:Addr)(xs:List V)(ks:List (Str×Shp))(c d:Str->Nat)(H':Hp),SameB p H H'->Vp H' p->H r=none->H' r=some (.lst xs)->HasL H' xs (ks.map JW)->Q2 ks c d->Q (.ref r) H'):Au H Q [.ref p]
def FK:Sp:=fun vs H Q _=>Au H Q vs
theorem QO(B:Blt mg)(F:Fun K "_law_shapes" "_law_shapes" Mg f fd)(DT:Df P w K mg base n "_law_take" ["stream","many"] WD)(DW:Df P w K mg base n "_law_words" ["stream","many","letters","ways"] W5)(DS:Df P w K mg base n "_law_small" ["stream","many"] W8):Yf P w K mg base CX0 (n+1) f fd ["stream"] FK:=by
 refine F.oi RL fun cdv A outer s H vs Q E hr h=>?_;obtain⟨p,hs,q⟩:=h;refine⟨_,YY (Yu 1 RL.nd (VJ DT hr (pa2 (pv 0) (Ya))))
  (YY (Yu 2 RL.nd (VJ DW hr (pa4 (pv 0) (Ya) (Yw) (Ya))))
  (YY (Yu 2 RL.nd (V3 MH (pv 2) JK (JJ (VB V9 Ya (VB UJ (VJ DT hr (pa2 (pv 0) (Ya))) (VL Wi rfl B.int Wn (pa1 (V7 Oz (pv 1) Ya (Yv _)))))))))
  (YY (Yu 3 RL.nd (VJ DS hr (pa2 (pv 0) (Ya))))
  (YY (Yu 4 RL.nd (Vg (pa2 (Yt (pa2 (Yj VA (pv 3) (Ya)) (Yt (pa2 (Yw) (VL Vq rfl B.tuple VN (pa1 (pv 2))))))) (Yt (pa2 (Yj VA (pv 3) (Ya)) (Yt (pa3 (Yw) (Yj VA (pv 3) (Ya)) (Yj VA (pv 3) (Ya)))))))))
  (YY (Y0 (Yn VQ (pv 1) Ya (Yv _)) (YZ (Vm (XU Zz Z0 Z1 Je (pv 4) (pa1 (Yt (pa2 (Yj VA (pv 3) (Ya)) (Yt (pa3 (Yw) (Yj VA (pv 3) (Ya)) (Yj VA (pv 3) (Ya)))))))))) Yl)
  (YZ (Yh (pv 4)))))))),?_⟩
 dsimp only[Vb,Cx.nox,Cx.wish];show let T0:=_;let T1:=_;let T2:=Yk (VC _ T1 _) T0;let T3:=Yk _ T2;let T4:=Yk _ T3;let T5:=Yk _ T4;let T6:=Yk _ T5;Yk _ T6 _ _ _
 intros
 refine⟨p,3,rfl,hs,by decide,by decide,fun deep H1 d0 d1 b1 st1=>?_⟩;refine⟨p,4,65,2,?_,st1,.inr rfl,by decide,.inl ⟨by decide,by decide⟩,fun tl tgs H2 b2 st2 ft nt ht l4 wt=>?_⟩
 .rw [<-RW];rfl
 refine⟨p,4,rfl,st2,by decide,by decide,fun r H3 r0 r4 b3 st3=>?_⟩
 obtain⟨rr,hrr,e,hd2⟩:∃rr:Nat,rr<4/\(1:Int)+r*(if decide (deep<2)=true then 1 else 0)=((1+rr:Nat):Int)/\(deep=2->rr=0):=by
  by_cases c:deep<2
  .exact ⟨r.toNat,by omega,by simp[c];omega,fun z=>Zr z (by omega)⟩
  .exact ⟨0,by omega,by simp[c],fun _=>rfl⟩
 refine .inr ⟨_,rfl,.inl ⟨by omega,by omega⟩,?_⟩;refine⟨_,rfl,tl,_,rfl,Z3 (b3.sb _ _ nt ht),fun t3 ht3=>?_⟩;dsimp only;rw[e,To _ _ (by rw[ZA,l4];omega),<-List.map_take];refine up_in ht3 _ fun H4 s4 g4=>?_;have st4:Vp H4 p:=(Pen.same (K:=K) (sa:=p) ⟨st3⟩ s4).ex;have nt3:t3≠p:=Pen.ne (K:=K) (sa:=p) ⟨st3⟩ ht3;refine⟨p,3,rfl,st4,by decide,fun nl ns H5 b5 st5 fn nn hn l3 wn=>?_⟩
 obtain⟨n0,n1,n2,rfl⟩:∃n0 n1 n2,ns=[n0,n1,n2]:=by
  match ns,l3 with
  |[a,b,c],_=>exact⟨a,b,c,rfl⟩
 obtain⟨c,d,sh⟩:=CM (dp:=decide (deep=2)) wn wt hrr l4 (fun z=>hd2 (Zt z));have i0:atI ([n0,n1,n2].map V.str) 0=some (.str n0):=Y5 (j:=0) rfl;have i1:atI ([n0,n1,n2].map V.str) 1=some (.str n1):=Y5 (j:=1) rfl;have i2:atI ([n0,n1,n2].map V.str) 2=some (.str n2):=Y5 (j:=2) rfl;refine⟨_,_,Z3 hn,i0,t3,_,rfl,.inl ⟨Z3 (b5 _ _ nt3 g4),fun t6 ht6=>?_⟩⟩;refine up_in ht6 _ fun H6 s6 g6=>⟨sl 2,fun t7 ht7=>?_⟩;refine up_in ht7 _ fun H7 s7 g7=>⟨sl 2,fun t8 ht8=>?_⟩;refine up_in ht8 _ fun H8 s8 g8=>?_;have s58:=(s6.trans s7).trans s8;refine⟨_,_,Z3 (s58 _ _ hn),i1,_,_,Z3 (s58 _ _ hn),i0,_,_,Z3 (s58 _ _ hn),i0,sl 3,fun t9 ht9=>?_⟩;refine up_in ht9 _ fun H9 s9 g9=>⟨sl 2,fun t10 ht10=>?_⟩;refine up_in ht10 _ fun H10 s10 g10=>⟨sl 2,fun kl hkl=>?_⟩;refine up_in hkl _ fun H11 s11 g11=>?_;have sA:=s9.trans s10
 have k1:Has H11 (.ref t8) (JW (n0,.tags (tgs.take (1+rr)))):=by
  unfold JW;refine Y1 ((sA.trans s11) _ _ g8) (Z4 VD (Z5 ?_));show Has _ _ (Shp.dat _);unfold Shp.dat;exact Y1 (((s8.trans sA).trans s11) _ _ g7) (Z4 VD (Z5 (Y1 ((((s7.trans s8).trans sA).trans s11) _ _ g6) (UP _))))
 have k2:Has H11 (.ref t10) (JW (n1,.pair n0 n0)):=by
  unfold JW;refine Y1 (s11 _ _ g10) (Z4 VD (Z5 ?_));show Has _ _ (Shp.dat _);unfold Shp.dat;exact Y1 ((s10.trans s11) _ _ g9) (Z4 VD (Z4 VD (Z5 VD)))
 have s511:=(s58.trans sA).trans s11;have b511:SameB p H H11:=((((b1.sb.trans b2).trans b3.sb).trans s4.sb).trans b5).trans s511.sb;have p5:Pen K p H5 p:=⟨st5⟩;have st11:=(p5.same s511).ex
 have fkl:H kl=none:=by
  have n:kl≠p:=(p5.same (s58.trans sA)).ne hkl;exact(((((b1.sb.trans b2).trans b3.sb).trans s4.sb).trans b5).trans (s58.trans sA).sb).free n hkl
 refine⟨rfl,_,rfl,Bv (fun cc=>?_) (fun cc=>?_)⟩
 .have c2:deep=2:=by simpa using cc
  subst c2;refine⟨.inl ⟨rfl,_,Z3 g11⟩,?_⟩;refine⟨_,_,Z3 (s511 _ _ hn),i2,_,_,Z3 (s511 _ _ hn),i1,_,_,Z3 (s511 _ _ hn),i1,sl 3,fun t12 ht12=>?_⟩;refine up_in ht12 _ fun H12 s12 g12=>⟨sl 2,fun t13 ht13=>?_⟩;refine up_in ht13 _ fun H13 s13 g13=>?_;have sB:=s12.trans s13;refine⟨kl,_,_,rfl,rfl,sB _ _ g11,(by show 2<sizeLine;decide),?_⟩;have tk:TK H13 (upd H13 kl (.lst [.ref t8,.ref t10,.ref t13])):=WB (sB _ _ g11) fun xs z=>nomatch z
  have k3:Has H13 (.ref t13) (JW (n2,.pair n1 n1)):=by
   unfold JW;refine Y1 g13 (Z4 VD (Z5 ?_));show Has _ _ (Shp.dat _);unfold Shp.dat;exact Y1 (s13 _ _ g12) (Z4 VD (Z4 VD (Z5 VD)))
  have sh':Q2 (UL n0 n1 n2 (tgs.take (1+rr)) true) c d:=sh;refine q kl _ (UL n0 n1 n2 (tgs.take (1+rr)) true) c d _ ((b511.trans sB.sb).put fkl) ?_ fkl Ye ?_ sh'
  .exact (Pen.put (K:=K) (sa:=p) ⟨hs⟩ (b511.trans sB.sb) ((p5.same s511).same sB) fkl (Pen.ne (K:=K) (sa:=p) ⟨hs⟩ fkl)).ex
  .exact Z4 (Xj tk _ (TR _) (k1.mono sB)) (Z4 (Xj tk _ (TR _) (k2.mono sB)) (Z5 (Xj tk _ (TR _) k3)))
 .have c2:¬deep=2:=by simpa using cc
  have ed:decide (deep=2)=false:=Zy c2;rw[ed]at sh;exact q kl _ (UL n0 n1 n2 (tgs.take (1+rr)) false) c d H11 b511 st11 fkl g11 (Z4 k1 (Z5 k2)) sh
end
end K4
namespace L2
open PySem
def NJ(ws:List Str)(m:Nat)(y:Str):List Dat:=(ws.take m).map fun w=>.tup [.str w,.str y]
theorem RM{ws:List Str}(h:ws[m]?=some x):NJ ws m y++[.tup [.str x,.str y]]=NJ ws (m+1) y:=by
 unfold NJ;rw[take_snoc h,ZK];rfl
end L2
namespace K4
open PySem L2
section
abbrev flp:List Str:=["stream","words","some","others","kind"]
theorem Fc:Yi ["stream","words","some","others","kind","found","rows","k"] flp (Yd Iq):=Y2
inductive SFl(H:Hp)(Q:VK):List V->Prop
 |mk (p wl:Addr) (ws:List Str) (some' others:Nat) (y:Str) (hs:Vp H p) (hw:H wl=some (.lst (ws.map V.str))) (nw:wl≠p) (l4:ws.length=4) (s1:1<=some') (s2:some'<=30) (o1:1<=others) (o2:others<=30)
  (q:∀(l:Addr)(zs:List V)(m:Nat)(H':Hp),SameB p H H'->Vp H' p->H l=none->H' l=some (.lst zs)->HasL H' zs (NJ ws m y)->1<=m->m<=3->some'*others ^ (m-1)<=200->Q (.ref l) H'):SFl H Q [.ref p,.ref wl,.int (some':Nat),.int (others:Nat),.str y]
def Pq:Sp:=fun vs H Q _=>SFl H Q vs
theorem AE(B:Blt mg)(F:Fun K "_law_flat" "_law_flat" Iq f fd)(DT:Df P w K mg base n "_law_take" ["stream","many"] WD):Yf P w K mg base CX0 (n+1) f fd flp Pq:=by
 refine F.oi Fc fun cdv A outer s H vs Q E hr h=>?_;obtain⟨p,wl,ws,so,ot,y,hs,hw,nw,l4,s1,s2,o1,o2,q⟩:=h;refine⟨_,YY (Yu 5 Fc.nd (Vg Vj))
  (YY (Yu 6 Fc.nd (pv 2))
  (YY (V1 Zv rfl (Jd rfl B.range (pa1 (VB V9 Ya (VJ DT hr (pa2 (pv 0) (Ya)))))) (Yp 7 Fc.nd)
   (YZ (Y0 (PW.pt (UQ (Yn VQ (pv 7) Ya (Yv _)) (Jl (Yn Uz (VB UJ (pv 6) (pv 3)) Ya (Yv _))))) (YY (Vm (XU Zz Z0 Z1 Je (pv 5) (pa1 (Yt (pa2 (Yj VA (pv 1) (pv 7) (fun _ _=>rfl)) (pv 4))))))
  (YZ (Yu 6 Fc.nd (VB UJ (pv 6) (Yj VA (Vg (pa2 Ya (pv 3))) (VL Wi rfl B.int Wn (pa1 (V7 X1 (pv 7) Ya (Yv _)))) (fun _ _=>rfl)))))) Yl)))
  (YZ (Yh (pv 5))))),?_⟩
 dsimp only[Vb,Cx.nox,Cx.wish];show let T0:=_;let T1:=_;let T2:=Yk _ T1;let T3:=VC _ T2 _;let T4:=Yk (UH _ _ T3) T0;let T5:=Yk _ T4;Yk _ T5 _ _ _
 intros
 refine⟨sl 0,fun l hl=>?_⟩;have pn:Pen K p H p:=⟨hs⟩;have lb0:=Lb.new pn hl;generalize upd H l (.lst [])=H1 at lb0;refine⟨p,3,rfl,lb0.pn.ex,by decide,by decide,fun r H2 r0 r3 b2 st2=>?_⟩;have lb1:=lb0.mv b2.sb ⟨st2⟩;refine⟨_,rfl,by omega,by omega,?_⟩
 let I:Nat->St->Hp->Prop:=fun i U Hi=>∃(m R:Nat),Lb K p H p l (NJ ws m y) Hi/\m<=i/\(1<=i->1<=m)/\R=so*ot ^ (m-1)/\R<=200/\(m=i\/200<R*ot)/\∃z:Option V,U=[some (.ref p),some (.ref wl),some (.int (so:Nat)),some (.int (ot:Nat)),some (.str y),some (.ref l),some (.int (R:Nat)),z]
 refine XR (n:=((1:Int)+r).toNat) I ⟨0,so,lb1,ZG _,(fun z=>Zr z (by omega)),by simp,by omega,.inl rfl,_,rfl⟩ ?_ ?_
 .rintro i U Hi hi ⟨m,R,lb,mi,m1,eR,R2,or_,z,rfl⟩
  have hi3:i<3:=by omega
  obtain⟨zs,hz,hzl,hst⟩:=lb.zs;have hwi:Hi wl=some (.lst (ws.map V.str)):=lb.sb _ _ nw hw;obtain⟨x,hx⟩:∃x,ws[i]?=some x:=⟨_,ZD (by omega)⟩;have ei:((0:Int)+(i:Nat))=((i:Nat):Int):=by omega
  have lz:=hzl.length;unfold NJ at lz;rw[ZA,ZN]at lz
  cases i with
  |zero=>
   have em:m=0:=by omega
   subst em;refine⟨rfl,_,rfl,VE (by simp) (VE (by simp) ?_)⟩;refine⟨.inl ⟨rfl,_,Z3 hz⟩,?_⟩;refine⟨_,.str x,Z3 hwi,Y5 (j:=0) (by rw[ZH,hx];rfl),sl 2,fun t ht=>?_⟩;refine up_in ht _ fun H3 s3 g3=>?_;have lb3:=lb.sm s3;refine⟨l,_,_,rfl,rfl,s3 _ _ hz,Nat.lt_of_le_of_lt (Nat.le_of_eq lz) (Yq (by omega)),?_⟩;have lb4:=lb3.ap (s3 _ _ hz) (v:=.ref t) (d:=.tup [.str x,.str y]) (UY g3) (by simp[Dat.st,Dat.sts]);generalize upd H3 l (.lst (zs++[.ref t]))=H4 at lb4;refine⟨sl 2,fun t2 ht2=>?_⟩;refine up_in ht2 _ fun H5 s5 g5=>?_;refine .inr ⟨_,rfl,?_⟩;refine⟨_,.int 1,Z3 g5,Y5 (j:=0) rfl,.inl ⟨by omega,by omega⟩,?_⟩;refine⟨1,so,by rw[<-RM hx];exact lb4.sm s5,by omega,(fun _=>by omega),by simp,by omega,.inl rfl,some (.int ((0:Int)+((0:Nat):Int))),?_⟩;have e9:((R:Nat):Int)*1=((so:Nat):Int):=by rw[eR];simp
   exact congrArg (fun v=>[some (.ref p),some (.ref wl),some (.int (so:Nat)),some (.int (ot:Nat)),some (.str y),some (.ref l),some (V.int v),some (.int ((0:Int)+((0:Nat):Int)))]) e9
  |succ i=>
   have m0:=m1 (by omega);refine⟨rfl,_,rfl,Yy (by simp;omega) ?_⟩;refine⟨.inl ⟨by omega,by omega⟩,_,rfl,Bv (fun cc=>?_) (fun cc=>?_)⟩
   .have c200:R*ot<=200:=by
     have:=Zt cc;have e:((R:Nat):Int)*((ot:Nat):Int)=((R*ot:Nat):Int):=(Int.natCast_mul _ _).symm;rw[e]at this;omega
    have em:m=i+1:=by omega
    subst em;refine⟨.inl ⟨rfl,_,Z3 hz⟩,?_⟩;refine⟨_,.str x,Z3 hwi,(by rw[ei];exact Y5 (by rw[ZH,hx];rfl)),sl 2,fun t ht=>?_⟩;refine up_in ht _ fun H3 s3 g3=>?_;have lb3:=lb.sm s3;refine⟨l,_,_,rfl,rfl,s3 _ _ hz,Nat.lt_of_le_of_lt (Nat.le_of_eq lz) (Yq (by omega)),?_⟩;have lb4:=lb3.ap (s3 _ _ hz) (v:=.ref t) (d:=.tup [.str x,.str y]) (UY g3) (by simp[Dat.st,Dat.sts]);generalize upd H3 l (.lst (zs++[.ref t]))=H4 at lb4;refine⟨sl 2,fun t2 ht2=>?_⟩;refine up_in ht2 _ fun H5 s5 g5=>?_;refine .inr ⟨_,rfl,?_⟩;have ek:(if decide ((0:Int)+((i+1:Nat):Int) > 0)=true then(1:Int)else 0)=1:=Zp (decide_eq_true (by omega));refine⟨_,.int (ot:Nat),Z3 g5,(by show atI _ (if decide ((0:Int)+((i+1:Nat):Int) > 0)=true then(1:Int)else 0)=_;rw[ek];exact Y5 (j:=1) rfl),.inl ⟨by omega,by omega⟩,?_⟩
    have eP:R*ot=so*ot ^ (i+1+1-1):=by
     rw[eR,Nat.mul_assoc,<-Nat.pow_succ];congr 2
    refine⟨i+1+1,R*ot,by rw[<-RM hx];exact lb4.sm s5,by omega,(fun _=>by omega),eP,c200,.inl rfl,some (.int ((0:Int)+((i+1:Nat):Int))),?_⟩;have e9:((R:Nat):Int)*((ot:Nat):Int)=((R*ot:Nat):Int):=(Int.natCast_mul _ _).symm;exact congrArg (fun v=>[some (.ref p),some (.ref wl),some (.int (so:Nat)),some (.int (ot:Nat)),some (.str y),some (.ref l),some (V.int v),some (.int ((0:Int)+((i+1:Nat):Int)))]) e9
   .have c200:200<R*ot:=by
     have:=cc;have e:((R:Nat):Int)*((ot:Nat):Int)=((R*ot:Nat):Int):=(Int.natCast_mul _ _).symm;rw[e,decide_eq_true_iff]at this;omega
    refine⟨m,R,lb,by omega,(fun _=>m0),eR,R2,.inr c200,_,rfl⟩
 .rintro U Hi ⟨m,R,lb,mi,m1,eR,R2,or_,z,rfl⟩
  obtain⟨zs,hz,hzl,hst⟩:=lb.zs;exact q l zs m Hi lb.sb lb.pn.ex hl hz hzl (m1 (by omega)) (by omega) (by rw[<-eR];exact R2)
end
end K4
namespace L2
open PySem
def okW(ks:List (Str×Shp)):W->Str->Prop
 |.non,_=>True
 |.tag x,y=>∃ts,VR ks y=some (.tags ts)/\x∈ts
 |.pair u v,y=>∃a b,VR ks y=some (.pair a b)/\okW ks u a/\okW ks v b
theorem UX{ks:List (Str×Shp)}:∀(n:Nat)(y:Str)(u:W),u∈Ys ks n y->okW ks u y
 |0,y,u,h=>by unfold Ys at h;cases h
 |n+1,y,u,h=>by
  cases e:VR ks y with
  |none=>unfold Ys at h;rw[e]at h;cases h
  |some s=>
   rw[UO e]at h
   cases s with
   |tags ts=>
    rcases Zd.mp h with rfl|h
    .unfold okW;trivial
    .obtain ⟨x,hx,rfl⟩:=ZW.mp h
     unfold okW;exact⟨ts,e,hx⟩
   |pair a b=>
    rcases Zd.mp h with rfl|h
    .unfold okW;trivial
    .obtain ⟨v,hv,h2⟩:=List.mem_flatMap.mp h
     obtain⟨z,hz,rfl⟩:=ZW.mp h2;unfold okW;exact⟨a,b,e,UX n a v hv,UX n b z hz⟩
end L2
namespace K4
open PySem L2
section
variable{CK:Addr}
theorem Qu(A:KA6):(Wf A).lookup ("is_worth":Str)=none:=rfl
abbrev iwp:List Str:=["self","kind","thing"]
theorem Ov:Yi ["self","kind","thing","shape"] iwp (Yd Xu):=Y2
inductive Ax(CK:Addr)(n:Nat)(H:Hp)(Q:VK):List V->Prop
 |mk (t:Addr) (y:Str) (v:V) (ks:List (Str×Shp)) (d:Str->Nat) (wo:W) (ki:KI H CK t ks d) (hv:Has H v wo.dat) (ok:okW ks wo y) (dn:wo.dep<n) (q:Q (.bl true) H):Ax CK n H Q [.ref t,.str y,v]
def NE(CK:Addr)(n:Nat):Sp:=fun vs H Q _=>Ax CK n H Q vs
theorem QR(B:Blt mg)(T:KCl K CK)(F:Fun K "is_worth" "Kinds.is_worth" Xu f fd)(G:Yf P w K mg base CX0 L f fd iwp (NE CK n))(bG:Binds K fd iwp [])(mM:VO K CK "is_worth" f):Yf P w K mg base CX0 (L+1) f fd iwp (NE CK (n+1)):=by
 refine F.oi Ov fun cdv A outer s H vs Q E hr h=>?_;obtain⟨t,y,v,ks,d,wo,ki,hv,ok,dn,q⟩:=h;have hu:=JF hr;refine⟨_,YY (Y0 (Yn Ud (pv 2) VI (Yv _)) (YZ (Yh (Uo))) Yl)
  (YY (Yu 3 Ov.nd (Vc hu (Yz (pv 0) rfl) (pv 1) (fun _ _=>rfl)))
  (YY (Y0 (Yn VQ (Yj Ym (pv 3) (Ya)) Yw (Yv _)) (YZ (Yh (WR (Uc rfl B.isi rfl B.str Wm (pv 2)) (Xe (V7 XF (pv 2) (Yj Ym (pv 3) (Ya)) rfl))))) Yl)
  (YY (Y0 (PW.pt (UQ (JH (Ve (Uc rfl B.isi rfl B.tuple VN (pv 2)))) (Jl (Yn Up (Y7 Y3 rfl B.len Zu (pa1 (pv 2))) Ya (Yv _))))) (YZ (Yh (Uo))) Yl)
  (YZ (Yh (WR (Y6 (pv 0) T.cl mM G hr bG .nil Y4 (pa2 (Yj Ym (pv 3) (Ya)) (Yj Ym (pv 2) (Ya)))) (Xe (Y6 (pv 0) T.cl mM G hr bG .nil Y4 (pa2 (Yj Ym (pv 3) (Ya)) (Yj Ym (pv 2) (Ya))))))))))),?_⟩
 dsimp only[Vb,Cx.nox,Cx.wish];show let T0:=_;let T1:=_;let T2:=Yk (VC _ T1 _) T0;let T3:=_;let T4:=Yk (VC _ T3 _) T2;let T5:=Yk _ T4;let T6:=_;Yk (VC _ T6 _) T5 _ _ _
 intros
 have ki0:=ki;obtain⟨A',S,rfl,kd,kr⟩:=ki
 cases wo with
 |non=>
  have e:v=.non:=by unfold W.dat Has at hv;exact hv
  subst e;exact⟨rfl,_,rfl,VE rfl q⟩
 |tag x=>
  have e:v=.str x:=has_str hv;subst e;unfold okW at ok;obtain⟨ts,hs,hm⟩:=ok;refine⟨rfl,_,rfl,Yy (by simp) ?_⟩;obtain⟨v0,g1,g2⟩:=WI kd kr hs;obtain⟨b,t',rfl,hb,ht'⟩:=U5 g2;refine⟨CK,_,_,_,kd.ins,T.cl,T.sh,Mq _,_,g1,?_⟩;refine⟨_,.str "tags",Z2 hb,Y5 (j:=0) rfl,rfl,_,rfl,VE (by decide +kernel) ?_⟩;refine⟨_,_,_,_,rfl,.str x,TQ K "str",_,rfl,VE rfl ?_⟩;refine⟨_,.ref t',Z2 hb,Y5 (j:=1) rfl,t',_,rfl,.inr (Z2 ht'),rfl,Js _,?_⟩;rw[US x ts,decide_eq_true hm];exact q
 |pair u u2=>
  have hv0:=hv;obtain⟨p,x1,x2,rfl,hp,h1,h2⟩:=J1 hv;unfold okW at ok;obtain⟨a,b,hs,o1,o2⟩:=ok;have da:u.dep<n:=by unfold W.dep at dn;omega
  have db:u2.dep<n:=by unfold W.dep at dn;omega
  refine⟨rfl,_,rfl,Yy (by simp) ?_⟩;obtain⟨v0,g1,g2⟩:=WI kd kr hs;obtain⟨b',rfl,hb⟩:=J0 g2;refine⟨CK,_,_,_,kd.ins,T.cl,T.sh,Mq _,_,g1,?_⟩;refine⟨_,.str "pair",Z2 hb,Y5 (j:=0) rfl,rfl,_,rfl,Yy (by decide +kernel) ?_⟩;refine⟨_,_,_,_,rfl,Jo (K:=K) hv0,Jn K _ (by simp),_,rfl,Yy (by simp[isD,tyD,W.dat]) ?_⟩;refine⟨p,_,rfl,.inr (Z2 hp),rfl,_,rfl,Yy (by simp) ?_⟩;refine⟨_,_,kd.ins,Qu _,_,_,Z2 hb,Y5 (j:=1) rfl,_,_,Z2 hp,Y5 (j:=0) rfl,?_⟩;refine⟨_,a,x1,ks,d,u,ki0,h1,o1,da,_,rfl,VE rfl ?_⟩;refine⟨_,_,kd.ins,Qu _,_,_,Z2 hb,Y5 (j:=2) rfl,_,_,Z2 hp,Y5 (j:=1) rfl,?_⟩;exact⟨_,b,x2,ks,d,u2,ki0,h2,o2,db,q⟩
theorem Iv(B:Blt mg)(T:KCl K CK)(F:Fun K "is_worth" "Kinds.is_worth" Xu f fd)(bG:Binds K fd iwp [])(mM:VO K CK "is_worth" f):∀n:Nat,Yf P w K mg base CX0 (n+1) f fd iwp (NE CK n)
 |0=>.none fun vs H Q E h=>by
  obtain⟨t,y,v,ks,d,wo,ki,hv,ok,dn,q⟩:=h;exact Zr dn (by omega)
 |n+1=>QR B T F (Iv B T F bG mM n) bG mM
end
end K4
namespace L2
open PySem
theorem Er{K:W.Frag}(q1:∀H',Same H H'->Sq K t1 H' a xs)(q2:∀H',Same H H'->Sq K t2 H' b ys)(l1:xs.length=n)(l2:ys.length=n)(hn:n<=100)(hs:∀(i:Nat) x y r H1 (R:V->Hp->Prop),xs[i]?=some x->ys[i]?=some y->Same H H1->H1 r=some (.tup [x,y])->R (.bl true) H1->g (.ref r) s0 H1 fun s2 H2=>te s2 H2 R)(hd:∀p H',H p=none->Same H H'->H' p=some (.lst ((List.replicate n true).map V.bl))->Q (.ref p) H'):Tv (Itz K t1 a t2 b) g te s0 Q H:=by
 refine V0 n (MD (by omega)) (fun i vs H'=>Same H H'/\vs.length=i/\vs=(List.replicate i true).map V.bl) ⟨Z8 _,rfl,rfl⟩ (fun i vs H' z=>z.2.1) ?_ ?_ ?_ ?_
 .rintro i vs H' hi ⟨s,_⟩
  exact⟨xs,ys,xs[i]'(by omega),ys[i]'(by omega),q1 H' s,q2 H' s,ZD _,ZD _⟩
 .rintro vs H' ⟨s,_⟩
  exact⟨xs,ys,q1 H' s,q2 H' s,.inr (by omega)⟩
 .rintro i vs H' x H'' R hi ⟨s,z2,z3⟩ yl rT
  obtain⟨r,x1,y1,rfl,hr,rfl,hx,hy⟩:=yl;have s2:=Yo hr (.tup [x1,y1]);refine hs i x1 y1 r _ R (hx xs (q1 H' s)) (hy ys (q2 H' s)) (s.trans s2) Ye (rT _ _ ⟨s.trans s2,by rw[ZL,z2];rfl,?_⟩);rw[z3,List.replicate_succ',ZK];rfl
 .rintro vs H' p ⟨s,z2,z3⟩ hp
  have s2:=Yo hp (.lst vs);exact hd p _ (s.free hp) (s.trans s2) (by rw[Ye,z3])
theorem OK{K:W.Frag}:∀x U H (Q Q':St->Hp->Prop),(∀a b,Q a b->Q' a b)->Nd K 2 (JY (Vo i) (JY (Vo j) Tc)) x U H Q->Nd K 2 (JY (Vo i) (JY (Vo j) Tc)) x U H Q':=fun x U H Q Q' h q=>by
 match x,q with
 |.ref a,q=>
  obtain⟨xs,h1,h2,q⟩:=q;refine⟨xs,h1,h2,?_⟩
  match xs,h2,q with
  |[u,v],_,q=>exact h _ _ q
theorem Ag{K:W.Frag}:GK 3 (Nd K 2 (JY (Nd K 2 (JY (Vo 0) (JY (Vo 1) Tc))) (JY (Vo 2) Tc))):=
 B0 (XQ (B0 (XQ (Vu (i:=0) (by decide)) (XQ (Vu (i:=1) (by decide)) B1 (fun _ _ _ _ _ h z=>h _ _ z) (fun x _ _ _ _ h z=>by
  match x,z with
  |[],z=>exact h _ _ z)) (fun _ _ _ _ _ h z=>h _ _ z) (fun x _ _ _ _ h z=>by
  match x,z with
  |[v],z=>exact h _ _ z))) (XQ (Vu (i:=2) (by decide)) B1 (fun _ _ _ _ _ h z=>h _ _ z) (fun x _ _ _ _ h z=>by
  match x,z with
  |[],z=>exact h _ _ z)) OK (fun x _ _ _ _ h z=>by
  match x,z with
  |[v],z=>exact h _ _ z))
end L2
namespace K4
open PySem L2
section
variable{C CK:Addr}
theorem LO:Yi ["self","F"] ["self","F"] (Yd BW):=Y2
inductive Kt(C CK:Addr)(H:Hp)(Q:VK):List V->Prop
 |mk (t:Addr) (ks:List (Str×Shp)) (d:Str->Nat) (ds:List Dd) (x:Dd) (b:BI H C CK t ks d ds) (hx:x∈ds) (q:∀v,Has H v x.2.dat->Q v H):Kt C CK H Q [.ref t,.str x.1.1]
def R9(C CK:Addr):Sp:=fun vs H Q _=>Kt C CK H Q vs
theorem IX(T:BCl K C)(F:Fun K "body_of" "Book.body_of" BW f fd)(m:VO K C "told_of" g)(G:Yf P w K mg base CX0 n g gd ["self","F"] (Gn C CK))(bG:Binds K gd ["self","F"] []):Yf P w K mg base CX0 (n+1) f fd ["self","F"] (R9 C CK):=by
 refine F.oi LO fun cdv A outer s H vs Q E hr h=>?_;obtain⟨t,ks,d,ds,x,b,hx,q⟩:=h;obtain⟨A',kv,rfl,b'⟩:=id b;refine⟨_,YZ (Yh (Yj Ym (Y6 (pv 0) T.cl m G hr bG .nil Y4 (pa1 (pv 1))) Ya)),?_⟩;refine⟨_,_,b'.ins,Qr _,A'.t,ks,d,ds,x,rfl,b,hx,fun v hv=>?_⟩;obtain⟨a,u,w',rfl,ha,_,hw⟩:=X4 hv;exact⟨_,_,Z2 ha,rfl,q w' hw⟩
theorem CQ:Yi ["kinds","parameters","worths"] ["kinds","parameters","worths"] (Yd Xc):=Y2
theorem Bo:List.Nodup [("name":Str),"kind","worth","kinds"]:=by decide +kernel
inductive SRO(CK:Addr)(H:Hp)(Q:VK):List V->Prop
 |mk (so a b:Addr) (us xs:List V) (ks:List (Str×Shp)) (d:Str->Nat) (ps:List (Str×Str)) (wos:List W) (ki:KI H CK so ks d) (ha:H a=some (.tup us)) (hu:HasL H us (ps.map fun p=>.tup [.str p.1,.str p.2])) (hb:H b=some (.tup xs)) (hx:HasL H xs (wos.map W.dat))
  (ln:wos.length=ps.length) (l3:ps.length<=3) (ok:∀(i:Nat)(p:Str×Str)(u:W),ps[i]?=some p->wos[i]?=some u->okW ks u p.2/\u.dep<3) (q:∀H',Same H H'->Q (.bl true) H'):SRO CK H Q [.ref so,.ref a,.ref b]
def Pj(CK:Addr):Sp:=fun vs H Q _=>SRO CK H Q vs
theorem Su(B:Blt mg)(T:KCl K CK)(F:Fun K "is_row_over" "is_row_over" Xc f fd)(m:VO K CK "is_worth" g)(G:Yf P w K mg base CX0 n g gd iwp (NE CK 3))(bG:Binds K gd iwp []):Yf P w K mg base CX0 (n+1) f fd ["kinds","parameters","worths"] (Pj CK):=by
 refine F.oi CQ fun cdv A outer s H vs Q E hr h=>?_;obtain⟨so,a,b,us,xs,ks,d,ps,wos,ki,ha,hu,hb,hx,ln,l3,ok,q⟩:=h;refine⟨_,YY (Y0 (Yn Up (Y7 Y3 rfl B.len Zu (pa1 (pv 2))) (Y7 Y3 rfl B.len Zu (pa1 (pv 1))) (Yv _)) (YZ (Yh (Uo))) Yl)
  (YZ (Yh (Y7 (Tt rfl) rfl B.all Wo (pa1 (V6 ["name","kind","worth"] [0] (QE rfl B.zip (pa2 (pv 1) (pv 2))) Ag (fun cl C fp s H=>Vi (n:=2) rfl (Yx (Vi (n:=2) rfl (Yx (Yp 0 Bo rfl (Or.inl rfl) (Or.inr rfl)) (Yx (Yp 1 Bo rfl (Or.inl rfl) (Or.inr rfl)) VW))) (Yx (Yp 2 Bo rfl (Or.inl rfl) (Or.inr rfl)) VW))) (fun cl C fp s H=>Y6 (pv 3) T.cl m G hr bG .nil Y4 (pa2 (pv 1) (pv 2)))))))),?_⟩
 dsimp only[Vb,Cx.nox,Cx.wish];show let T0:=_;let T1:=_;Yk (VC _ T1 _) T0 _ _ _
 intros
 have lu:=hu.length;have lx:=hx.length;rw[ZA]at lu lx;refine⟨b,_,rfl,.inr (Z2 hb),a,_,rfl,.inr (Z2 ha),rfl,_,rfl,Yy (by simp[lu,lx,ln]) ?_⟩;refine⟨a,b,true,true,us,xs,rfl,Z2 ha,Z2 hb,?_⟩;refine Er (n:=ps.length) (fun H' s=>Z2 (s _ _ ha)) (fun H' s=>Z2 (s _ _ hb)) lu (by omega) (by omega) (fun i x y r H1 R hi hj s1 hr1 hR=>?_) fun p H' fp s1 hp=>?_
 .obtain ⟨pr,hpr,hd1⟩:=getD hu hi
  obtain⟨wo,hwo,hd2⟩:=getD hx hj;obtain⟨t,ys,rfl,ht,hl⟩:=Yr hd1;obtain⟨x1,r1,rfl,e1,hlA⟩:=Yb hl;obtain⟨x2,r2,rfl,e2,hlB⟩:=Yb hlA;obtain rfl:=Y8 hlB;obtain rfl:=has_str e1;obtain rfl:=has_str e2;obtain⟨o1,o2⟩:=ok i pr wo hpr hwo;obtain⟨A',S,eA,kd,kr⟩:=id (ki.mono s1);subst eA;refine⟨_,Z2 hr1,rfl,_,Z2 (s1 _ _ ht),rfl,?_⟩;exact⟨_,_,kd.ins,Qu _,_,pr.2,y,ks,d,wo,ki.mono s1,hd2.mono s1,o1,o2,hR⟩
 .refine ⟨p,_,rfl,Z3 hp,?_⟩
  have e:(List.replicate ps.length true).all id=true:=by simp
  rw[e];exact q _ s1
end
section
variable{C CK:Addr}
abbrev bfw:List Str:=["book","F","worths"]
theorem C1(A:BA):(UF A).lookup ("kinds":Str)=none:=rfl
theorem Al(A:BA):(UF A).lookup ("parameters":Str)=none:=rfl
theorem CV:Yi bfw bfw (Yd WP):=Y2
theorem Cd:Yi bfw bfw (Yd Ua):=Y2
theorem Cc:Yi ["most","highest"] ["most","highest"] (Yd Xd):=Y2
inductive SIA(C CK:Addr)(r:V)(H:Hp)(Q:VK):List V->Prop
 |mk (t b:Addr) (xs:List V) (ks:List (Str×Shp)) (d:Str->Nat) (ds:List Dd) (x:Dd) (wos:List W) (bi:BI H C CK t ks d ds) (hx:x∈ds) (hb:H b=some (.tup xs)) (hw:HasL H xs (wos.map W.dat))
  (ln:wos.length=x.1.2.1.length) (l3:x.1.2.1.length<=3) (ok:∀(i:Nat)(p:Str×Str)(u:W),x.1.2.1[i]?=some p->wos[i]?=some u->okW ks u p.2/\u.dep<3) (q:∀H',Same H H'->Q r H'):SIA C CK r H Q [.ref t,.str x.1.1,.ref b]
def EI(C CK:Addr)(r:V):Sp:=fun vs H Q _=>SIA C CK r H Q vs
theorem S5(TB:BCl K C)(F:Fun K "is_asking" "is_asking" WP f fd)(m1:VO K C "names" g1)(G1:Yf P w K mg base CX0 n g1 d1 ["self"] (Uv C CK))(b1:Binds K d1 ["self"] [])(m2:VO K C "kinds" g2)(G2:Yf P w K mg base CX0 n g2 d2 ["self"] (JU C CK))(b2:Binds K d2 ["self"] [])(m3:VO K C "parameters" g3)(G3:Yf P w K mg base CX0 n g3 d3 ["self","F"] (Gp C CK))(b3:Binds K d3 ["self","F"] [])(DR:Df P w K mg base n "is_row_over" ["kinds","parameters","worths"] (Pj CK)):Yf P w K mg base CX0 (n+1) f fd bfw (EI C CK (.bl true)):=by
 refine F.oi CV fun cdv A outer s H vs Q E hr h=>?_;obtain⟨t,b,xs,ks,d,ds,x,wos,bi,hx,hb,hw,ln,l3,ok,q⟩:=h;refine⟨_,YZ (Yh (WR (V7 XF (pv 1) (Vf (pv 0) TB.cl m1 G1 hr b1 .nil Y4) rfl) (Xe (VJ DR hr (pa3 (Vf (pv 0) TB.cl m2 G2 hr b2 .nil Y4) (Y6 (pv 0) TB.cl m3 G3 hr b3 .nil Y4 (pa1 (pv 1))) (pv 2)))))),?_⟩;dsimp only[Vb,Cx.nox,Cx.wish];obtain⟨A',kv,rfl,b'⟩:=id bi;refine⟨_,_,b'.ins,Am _,A'.t,ks,d,ds,rfl,bi,fun l H1 s1 fl hl=>?_⟩;have el:(ds.map fun x=>V.str x.1.1)=(ds.map fun x=>x.1.1).map V.str:=by rw[List.map_map];rfl
 rw[el]at hl;refine⟨l,_,rfl,.inl (Z3 hl),rfl,Js _,?_⟩;rw[US,decide_eq_true (ZW.mpr ⟨x,hx,rfl⟩)];refine⟨_,rfl,VE rfl ?_⟩;have bi1:=bi.mono s1;refine⟨_,_,s1 _ _ b'.ins,C1 _,A'.t,ks,d,ds,rfl,bi1,fun so ki=>?_⟩;refine⟨_,_,s1 _ _ b'.ins,Al _,A'.t,ks,d,ds,x,rfl,bi1,hx,fun v hv=>?_⟩;unfold psD at hv;obtain⟨a,us,rfl,ha,hu⟩:=Yr hv;exact⟨so,a,b,us,xs,ks,d,x.1.2.1,wos,ki,ha,hu,s1 _ _ hb,hw.mono s1,ln,l3,ok,fun H2 s2=>q _ (s1.trans s2)⟩
theorem AJ(F:Fun K "check_asking" "check_asking" Ua f fd)(DA:Df P w K mg base n "is_asking" bfw (EI C CK (.bl true))):Yf P w K mg base CX0 (n+1) f fd bfw (EI C CK .non):=by
 refine F.oi Cd fun cdv A outer s H vs Q E hr h=>?_;obtain⟨t,b,xs,ks,d,ds,x,wos,bi,hx,hb,hw,ln,l3,ok,q⟩:=h;refine⟨_,YZ (Y0 (JH (Ve (VJ DA hr (pa3 (pv 0) (pv 1) (pv 2))))) (YZ (V8)) Yl),?_⟩;show let T0:=_;VC _ T0 _ _ _ _
 intros
 exact⟨t,b,xs,ks,d,ds,x,wos,bi,hx,hb,hw,ln,l3,ok,fun H1 s1=>⟨_,rfl,Yy (by simp) (q _ s1)⟩⟩
inductive SCM(H:Hp)(Q:VK):List V->Prop
 |mk (a b:Int) (h1:1<=a) (h2:a<=b) (q:Q .non H):SCM H Q [.int a,.int b]
def Py:Sp:=fun vs H Q _=>SCM H Q vs
theorem AI(F:Fun K "check_most" "check_most" Xd f fd):Yf P w K mg base CX0 (n+1) f fd ["most","highest"] Py:=by
 refine F.oi Cc fun cdv A outer s H vs Q E hr h=>?_;obtain⟨a,b,h1,h2,q⟩:=h;refine⟨_,YZ (Y0 (JH (Xy Uz Uz Ya (pv 0) (pv 1))) (YZ (V8)) Yl),?_⟩;show let T0:=_;VC _ T0 _ _ _ _
 intros
 exact⟨_,rfl,VE (decide_eq_true h1) ⟨_,rfl,Yy (by simp[h2]) q⟩⟩
end
end K4
namespace L2
open PySem
structure GA where
 t:Addr
 dx:Addr
 bk:Addr
 gv:Addr
 bs:Addr
 nu:Addr
 st:Addr
def TZ(A:GA):List (Str×V):=[("book",.ref A.bk),("given",.ref A.gv),("births",.ref A.bs),("numbers",.ref A.nu),("starts",.ref A.st)]
structure GCl(K:W.Frag)(C:Addr):Prop where
 cl:Cls K C
 bk:VH K C "book"
 gv:VH K C "given"
 bs:VH K C "births"
 nu:VH K C "numbers"
 st:VH K C "starts"
theorem PD(A:GA):(TZ A).lookup ("given":Str)=some (V.ref A.gv):=rfl
theorem Ai(A:GA):(TZ A).lookup ("part_given":Str)=none:=rfl
structure GV(H:Hp)(C:Addr)(A:GA)(wos:List W):Prop where
 ins:H A.t=some (.ins C A.dx (TZ A))
 gv:∃xs,H A.gv=some (.tup xs)/\HasL H xs (wos.map W.dat)
theorem GV.mono(g:GV H C A wos)(s:Same H H'):GV H' C A wos:=⟨s _ _ g.ins,let⟨xs,h1,h2⟩:=g.gv;⟨xs,s _ _ h1,h2.mono s⟩⟩
def J4(i:Nat)(ws:List Int):Dat:=.tup [.str "given",.int (i:Nat),JG ws]
def hgD(i:Nat)(ws:List Int):W->Dat
 |.non=>.tup [.str "never",.int (i:Nat),JG ws]
 |.tag t=>.tup [.str "head",.tup [.str "tag",.str t]]
 |.pair _ _=>.tup [.str "head",.tup [.str "pair",J4 i (ws++[0]),J4 i (ws++[1])]]
theorem Mo(h:H t=some (.tup [.str "given",.int (k:Nat),u]))(hu:Has H u (JG ws)):Has H (.ref t) (J4 k ws):=by
 unfold J4;exact Y1 h (Z4 VD (Z4 (by unfold Has;rfl) (Z5 hu)))
theorem Ti:∀bs:List Bool,(∀b∈bs,b=false)->bs.any id=false
 |[],_=>rfl
 |b::bs,h=>by
  rw[List.any_cons,h b Za,Ti bs fun c hc=>h c (ZM _ hc)];rfl
end L2
namespace K4
open PySem L2
section
variable{C:Addr}
abbrev iwy:List Str:=["self","i","way"]
theorem CS:Yi iwy iwy (Yd Xk):=Y2
theorem AX:List.Nodup [("number":Str)]:=by decide +kernel
inductive SPG(C:Addr)(H:Hp)(Q:VK):List V->Prop
 |mk (A:GA) (wos:List W) (i:Nat) (wo:W) (y:V) (ws:List Int) (g:GV H C A wos) (hi:wos[i]?=some wo) (l3:wos.length<=3) (hy:Has H y (JG ws)) (hw:Way ws) (lw:ws.length<=100) (q:∀u H',Same H H'->Has H' u (wo.part ws).dat->Q u H'):SPG C H Q [.ref A.t,.int (i:Nat),y]
def Pl(C:Addr):Sp:=fun vs H Q _=>SPG C H Q vs
theorem Sw(B:Blt mg)(ma:mg "any"=none)(TG:GCl K C)(F:Fun K "part_given" "Ground.part_given" Xk f fd)(DP:Df P w K mg base n "part_of" ["worth","way"] Pk):Yf P w K mg base CX0 (n+1) f fd iwy (Pl C):=by
 refine F.oi CS fun cdv A outer s H vs Q E hr h=>?_;obtain⟨A',wos,i,wo,y,ws,g,hi,l3,hy,hw,lw,q⟩:=h;refine⟨_,YY (Y0 (PW.pt (UQ (JH (Xy Uz Oz Ya (pv 1) (Y7 Y3 rfl B.len Zu (pa1 (Yz (pv 0) rfl))))) (Jl (Ve (Y7 (Re rfl) rfl ma Rh (pa1 (V6 ["number"] [] (JV (pv 2)) (Vu (i:=0) (by decide)) (fun cl C fp s H=>Yp 0 AX rfl (Or.inl rfl) (Or.inr rfl)) (fun cl C fp s H=>V7 (r:=rIn K true) Jp (pv 0) (Yt (pa2 Ya Ya)) (by rfl))))))))) (YZ (Yh (VI))) Yl)
  (YZ (Yh (VJ DP hr (pa2 (Yj Ym (Yz (pv 0) rfl) (pv 1) (fun _ _=>rfl)) (pv 2))))),?_⟩
 dsimp only[Vb,Cx.nox,Cx.wish];show let T0:=_;let T1:=_;Yk (VC _ T1 _) T0 _ _ _
 intros
 obtain⟨xs,hg,hx⟩:=g.gv;obtain⟨a,rfl,ha⟩:=Jq hy;have lx:=hx.length;rw[ZA]at lx;have il:i<wos.length:=(ZF.mp hi).1;refine⟨_,rfl,VE (decide_eq_true (by omega)) ?_⟩;refine⟨C,_,_,_,g.ins,TG.cl,TG.gv,PD _,A'.gv,_,rfl,.inr (Z2 hg),_,rfl,Yy (by simp;omega) ?_⟩;refine⟨⟨_,Z2 ha⟩,?_⟩;refine UV (us:=ws) (D:=Dat.int) (F:=fun _=>.bl false) (fun H' s=>itt (Z2 (s _ _ ha))) (TV ws) (by omega) (fun k x H1 R hm s1 hx1 hR=>?_) fun vs p H1 fp s1 hp hvs=>?_
 .have e:x=.int k:=by unfold Has at hx1;exact hx1
  subst e;refine⟨sl 2,fun t ht=>?_⟩;refine up_in ht _ fun H2 s2 g2=>⟨t,_,rfl,.inr (Z2 g2),rfl,rfl,hR _ _ s2 ?_⟩;rcases hw k hm with rfl|rfl <;> (unfold Has;rfl)
 have e:=Mx (bs:=ws.map fun _=>false) (by rw[List.map_map];exact hvs);refine⟨p,_,rfl,Z3 (by rw[hp,e]),_,rfl,Yy (by rw[Ti _ (fun b hb=>by obtain⟨_,_,rfl⟩:=ZW.mp hb;rfl)];simp) ?_⟩;have g1:=g.mono s1
 obtain⟨x,hxi,hxw⟩:∃x,xs[i]?=some x/\Has H x wo.dat:=by
  have il2:i<xs.length:=by omega
  obtain⟨u,hu,hd⟩:=getD hx (ZD il2);rw[hi]at hu;cases hu;exact⟨_,ZD il2,hd⟩
 refine⟨C,_,_,_,g1.ins,TG.cl,TG.gv,PD _,_,_,Z2 (s1 _ _ hg),Y5 hxi,?_⟩;exact⟨x,_,wo,ws,hxw.mono s1,hy.mono s1,hw,fun u hu=>q _ _ s1 hu⟩
theorem SW:Yi ["self","i","way","worth"] iwy (Yd Xl):=Y2
inductive SHG(C:Addr)(H:Hp)(Q:VK):List V->Prop
 |mk (A:GA) (wos:List W) (i:Nat) (wo:W) (y:V) (ws:List Int) (g:GV H C A wos) (hi:wos[i]?=some wo) (l3:wos.length<=3) (hy:Has H y (JG ws)) (hw:Way ws) (lw:ws.length<=100) (q:∀u H',Same H H'->Has H' u (hgD i ws (wo.part ws))->Q u H'):SHG C H Q [.ref A.t,.int (i:Nat),y]
def LB(C:Addr):Sp:=fun vs H Q _=>SHG C H Q vs
theorem S8(B:Blt mg)(TG:GCl K C)(F:Fun K "head_given" "Ground.head_given" Xl f fd)(m:VO K C "part_given" g)(G:Yf P w K mg base CX0 n g gd iwy (Pl C))(bG:Binds K gd iwy []):Yf P w K mg base CX0 (n+1) f fd iwy (LB C):=by
 refine F.oi SW fun cdv A outer s H vs Q E hr h=>?_;obtain⟨A',wos,i,wo,y,ws,g,hi,l3,hy,hw,lw,q⟩:=h;refine⟨_,YY (Yu 3 SW.nd (Y6 (pv 0) TG.cl m G hr bG .nil Y4 (pa2 (pv 1) (pv 2))))
  (YY (Y0 (Yn Ud (pv 3) VI (Yv _)) (YZ (Yh (Yt (pa3 (Yw) (pv 1) (pv 2))))) Yl)
  (YY (Y0 (Ve (Uc rfl B.isi rfl B.tuple VN (pv 3))) (YZ (Yh (Yt (pa2 (Yw) (Yt (pa3 (Yw) (Yt (pa3 (Yw) (pv 1) (VB (r:=fun x y H Q=>Ux K x y H Q\/Uw K x y H Q) Ue (pv 2) (Yt (pa1 (Ya)))))) (Yt (pa3 (Yw) (pv 1) (VB (r:=fun x y H Q=>Ux K x y H Q\/Uw K x y H Q) Ue (pv 2) (Yt (pa1 (Ya)))))))))))) Yl)
  (YZ (Yh (Yt (pa2 (Yw) (Yt (pa2 (Yw) (pv 3))))))))),?_⟩
 dsimp only[Vb,Cx.nox,Cx.wish];show let T0:=_;let T1:=_;let T2:=Yk (VC _ T1 _) T0;let T3:=_;let T4:=Yk (VC _ T3 _) T2;Yk _ T4 _ _ _
 intros
 refine⟨_,_,g.ins,Ai _,A',wos,i,wo,y,ws,g,hi,l3,hy,hw,lw,fun u H1 s1 hu=>?_⟩;have hy1:=hy.mono s1;generalize wo.part ws=w' at hu q
 cases w' with
 |non=>
  have e:u=.non:=by unfold W.dat Has at hu;exact hu
  subst e;refine⟨rfl,_,rfl,VE rfl ⟨sl 3,fun t ht=>?_⟩⟩;refine up_in ht _ fun H2 s2 g2=>q _ _ (s1.trans s2) ?_;unfold hgD;exact Y1 g2 (Z4 VD (Z4 (by unfold Has;rfl) (Z5 (hy1.mono s2))))
 |tag x=>
  have e:u=.str x:=has_str hu;subst e;refine⟨rfl,_,rfl,Yy (by simp) ?_⟩;refine⟨_,_,_,_,rfl,Jo (K:=K) hu,Jn K _ (by simp),_,rfl,Yy (by simp[isD,tyD,W.dat]) ⟨sl 2,fun t ht=>?_⟩⟩;refine up_in ht _ fun H2 s2 g2=>⟨sl 2,fun t' ht'=>?_⟩;refine up_in ht' _ fun H3 s3 g3=>q _ _ ((s1.trans s2).trans s3) ?_;unfold hgD;exact Y1 g3 (Z4 VD (Z5 (UY (s3 _ _ g2))))
 |pair b c=>
  have hu0:=hu;obtain⟨p,x1,x2,rfl,hp,h1,h2⟩:=J1 hu;refine⟨rfl,_,rfl,Yy (by simp) ?_⟩;refine⟨_,_,_,_,rfl,Jo (K:=K) hu0,Jn K _ (by simp),_,rfl,VE (by simp[isD,tyD,W.dat]) ⟨sl 1,fun t2 ht2=>?_⟩⟩;refine up_in ht2 _ fun H2 s2 g2=>?_;refine XT (hy1.mono s2) (XG g2) (by simp) (by simp;omega) fun u3 H3 s3 h3=>⟨sl 3,fun t4 ht4=>?_⟩;refine up_in ht4 _ fun H4 s4 g4=>⟨sl 1,fun t5 ht5=>?_⟩;refine up_in ht5 _ fun H5 s5 g5=>?_;have s15:=(((s2.trans s3).trans s4).trans s5);refine XT (hy1.mono s15) (XG g5) (by simp) (by simp;omega) fun u6 H6 s6 h6=>⟨sl 3,fun t7 ht7=>?_⟩;refine up_in ht7 _ fun H7 s7 g7=>⟨sl 3,fun t8 ht8=>?_⟩;refine up_in ht8 _ fun H8 s8 g8=>⟨sl 2,fun t9 ht9=>?_⟩;refine up_in ht9 _ fun H9 s9 g9=>q _ _ (((((s1.trans s15).trans s6).trans s7).trans s8).trans s9) ?_;have s49:=(((s5.trans s6).trans s7).trans s8).trans s9;have s79:=s8.trans s9;unfold hgD;exact Y1 g9 (Z4 VD (Z5 (Y1 (s9 _ _ g8) (Z4 VD (Z4 (Mo (s49 _ _ g4) (h3.mono (s4.trans s49))) (Z5 (Mo (s79 _ _ g7) (h6.mono (s7.trans s79)))))))))
end
section
theorem XD:Yi ["body","place","part","number"] ["body","place"] (Yd Gw):=Y2
inductive D9(H:Hp)(Q:VK):List V->Prop
 |mk (v:V) (a:Addr) (b c:Bd) (ws:List Int) (hv:Has H v b.dat) (ok:b.ok) (ha:H a=some (.tup (ws.map V.int))) (hc:b.at ws=some c) (q:∀u H',Same H H'->Has H' u c.dat->Q u H'):D9 H Q [v,.ref a]
def WG:Sp:=fun vs H Q _=>D9 H Q vs
theorem Bk(F:Fun K "part_at" "part_at" Gw f fd)(DP:Df P w K mg base n "parts" ["body"] Xr):Yf P w K mg base CX0 (n+1) f fd ["body","place"] WG:=by
 refine F.oi XD fun cdv A outer s H vs Q E hr h=>?_;obtain⟨v,a,b,c,ws,hv,ok,ha,hc,q⟩:=h;refine⟨_,YY (Yu 2 XD.nd (pv 0)) (YY (V1 Zv rfl (JV (pv 1)) (Yp 3 XD.nd)
  (YZ (Yu 2 XD.nd (Yj Ym (VJ DP hr (pa1 (pv 2))) (pv 3) (fun _ _=>rfl)))))
  (YZ (Yh (pv 2)))),?_⟩
 dsimp only[Vb,Cx.nox,Cx.wish];show let T0:=_;let T1:=_;let T2:=Yk (UH _ _ T1) T0;Yk _ T2 _ _ _
 intros
 refine DY rfl ?_;refine⟨⟨_,Z2 ha⟩,?_⟩
 let I:Nat->St->Hp->Prop:=fun i U H'=>Same H H'/\∃u z b',U=[some v,some (.ref a),some u,z]/\Has H' u (Bd.dat b')/\b'.ok/\b'.at (ws.drop i)=some c
 refine Tg (xs:=ws.map V.int) I ⟨Z8 _,v,none,b,rfl,hv,ok,hc⟩ (fun i U H' _ z=>Z2 (z.1 _ _ ha)) ?_ ?_
 .rintro BB RR i x U H' hx ⟨sj,u,z,b',rfl,hu,okb,e⟩
  obtain⟨m,r,rfl,e1,e2,hm⟩:=Ra hx;rw[e1]at e;unfold Bd.at at e
  by_cases hm0:0<=m
  case neg=>rw[Zq hm0]at e;cases e
  rw[Zp hm0]at e
  cases hp:b'.parts[m.toNat]? with
  |none=>rw[hp]at e;cases e
  |some c'=>
   rw[hp]at e;refine⟨u,b',rfl,hu,okb,fun u2 H2 s2 h2=>?_⟩;obtain⟨p2,xs,rfl,hpx,hl⟩:=Yr h2;rw[Z9]at hl;have lx:=hl.length;rw[ZA]at lx;have hi:=(ZF.mp hp).1;have hix:m.toNat<xs.length:=by omega
   obtain⟨d,hd,hx2⟩:=getD hl (ZD hix);rw[hp]at hd;cases hd;have ea:=Y5 (ZD hix);rw[show((m.toNat:Nat):Int)=m by omega]at ea;exact⟨_,xs[m.toNat],Z2 hpx,ea,sj.trans s2,_,_,c',rfl,hx2,Bd.ok_parts okb c' (ZJ hp),by rw[e2];exact e⟩
 .rintro U H' ⟨sj,u,z,b',rfl,hu,okb,e⟩
  rw[ZA,List.drop_length]at e;unfold Bd.at at e;cases e;exact q u H' sj hu
end
end K4
namespace L2
open PySem PySem.Spec PyProof.Rows
def ZI(h:Heap)(z TI TO:Addr)(f0 f1:Value):Prop:=h.get? z=some {cls:=.type "zip",dict:=none,data:=.fields #[f0,f1,.bool false,.ref TI,.ref TO],slots:= #[]}
section
variable{prog:Program}{w:World}{A:Around}{E:Value->Shared->Prop}{s:Shared}
theorem Nr{α:Type}{a:Addr}{o:Obj}{m:Option Obj->Sem α}{Q:α->Shared->Prop}(h:s.heap.get? a=some o)(q:wpAny (model prog w) A (m (some o)) Q E s):wpAny (model prog w) A (loadIfAlive a >>=m) Q E s:=by
 intro Γ p hi;show Sem.wp _ Γ (Sem.loadIfAlive a fun x=>m x) _ _ p s;rw[Sem.wp_loadIfAlive,h];exact q Γ p hi
theorem Kw{z TI TO i1 i2 l1 l2 T:Addr}{t1 t2:Bool}{k:Nat}{xs ys:Array Value}{x y f1:Value}{oT:Obj}{Q:Option Value->Shared->Prop}(D:ZipApart z TI TO i1 i2 l1 l2)(hz:ZI s.heap z TI TO (rawInt T) f1)(hT:s.heap.get? T=some oT)(hf:f1=.bool false\/f1=.bool true)(its:IsPair s.heap TI (.ref i1) (.ref i2))(one:SI t1 s.heap i1 l1 k xs)(two:SI t2 s.heap i2 l2 k ys)(hx:xs[k]?=some x)(hy:ys[k]?=some y)(hQ:∀g,ZI g z TI TO (rawInt T) (.bool true)->SJ t1 g i1 l1 (k+1)->SJ t2 g i2 l2 (k+1)->IsPair g s.heap.objs.size x y->g.objs.size=s.heap.objs.size+1->(∀c o,c≠z->c≠i1->c≠i2->s.heap.get? c=some o->g.get? c=some o)->Q (some (.ref s.heap.objs.size)) {s with heap:=g}):
  wpAny (model prog w) A (pyNext (.ref z)) Q E s:=by
 have hTy:s.TypeIs (.ref z) "zip":=⟨_,hz,rfl⟩;simp only[pyNext];refine Zl (wpAny_attempt (wpAny_callSpecial?_slot (name:=Str.ofString "__next__") hTy F.slot_zip_next (wpAny_call_entry F.slot_zip_next hTy F.entry_zip_next ?_ (F.args_zip_next_1 _))));refine Zl (m:=field (.ref z) 2) (Zo hz rfl (x:=.bool false) rfl (Zl (m:=field (.ref z) 3) (Zo hz rfl (x:=.ref TI) rfl (Zl (wpAny_seqItems its rfl ?_)))));refine Zl (m:=Builtin.SmallTypes.ownedTupleIsFree (.ref z)) (Zl (m:=field (.ref z) 0) (Zo hz rfl (x:=rawInt T) rfl ?_));simp only[rawInt];refine Nr (o:=oT) (by simpa using hT) ?_;rw[Zq (by simp)];refine Zl (m:=field (.ref z) 1) (Zo hz rfl (x:=f1) rfl ?_)
 suffices main:∀g0,ZI g0 z TI TO (rawInt T) (.bool true)->Heap.SameBut z s.heap g0->wpAny (model prog w) A.in1 _ _ _ {s with heap:=g0} by
  rcases hf with rfl|rfl
  .rw [Zp (by rfl)]
   refine Zl (wpAny_setField_rec hz (by simp) fun g0 z0 s0=>Zm ?_);rw[Zq (by simp)];exact main g0 z0 s0
  .rw [Zq (by decide)]
   refine Zm ?_;rw[Zq (by simp)];exact main s.heap hz ⟨rfl,fun _ _=>rfl⟩
 intro g0 z0 s0;rw[<-Array.forIn_toList];simp only[List.forIn_cons,List.forIn_nil];have o1:=one.but s0.extBut D.i1z D.l1z;have o2:=two.but s0.extBut D.i2z D.l2z;refine Zl (Zl (Zl (wpAny_holding (?_:wpAny _ _ (Builtin.SmallTypes.nextOf (.ref i1) >>=_) _ _ _))));refine Zl (XB (s:={s with heap:=g0}) o1 D.l1i1 hx fun g2 a2 s2=>Zm (Zm ?_));replace s2:Heap.SameBut i1 g0 g2:=s2;have o2':SI t2 g2 i2 l2 k ys:=o2.but s2.extBut D.i12.symm D.l2i1;refine Zl (Zl (wpAny_holding (?_:wpAny _ _ (Builtin.SmallTypes.nextOf (.ref i2) >>=_) _ _ _)));refine Zl (XB (s:={s with heap:=g2}) o2' D.l2i2 hy fun g3 a3 s3=>Zm (Zm (Zm ?_)));replace s3:Heap.SameBut i2 g2 g3:=s3;refine Zl (wpAny_newTuple (hsz:=by show 2<=sizeLine;decide) (Zm ⟨_,rfl,Zm ?_⟩));have sz:g3.objs.size=s.heap.objs.size:=by rw[s3.1,s2.1,s0.1]
 show Q (some (.ref g3.objs.size)) _;have hq:=hQ (g3.push {cls:=.type "tuple",data:=.seq #[x,y]});rw[sz];refine hq (ZE _ (s3.extBut _ _ D.i2z.symm (s2.extBut _ _ D.i1z.symm z0))) ?_ ?_ ?_ (by rw[Heap.size_push,sz]) ?_
 .exact (a2.sj.to fun o e=>s3.extBut _ _ D.i12 e).to fun o e=>ZE _ e
 .exact a3.sj.to fun o e=>ZE _ e
 .have:=ZY g3 (o:={cls:=.type "tuple",data:=.seq #[x,y]}) rfl
  rw[sz]at this;exact this
 .intro c o c1 c2 c3 e
  exact ZE _ (s3.extBut _ _ c3 (s2.extBut _ _ c2 (s0.extBut _ _ c1 e)))
theorem PQ{z TI TO i1 i2 l1 l2 T:Addr}{t1 t2:Bool}{k:Nat}{xs:Array Value}{f1:Value}{oT:Obj}{Q:Option Value->Shared->Prop}(hh:A.handled=none)(D:ZipApart z TI TO i1 i2 l1 l2)(hz:ZI s.heap z TI TO (rawInt T) f1)(hT:s.heap.get? T=some oT)(hf:f1=.bool false\/f1=.bool true)(its:IsPair s.heap TI (.ref i1) (.ref i2))(one:SI t1 s.heap i1 l1 k xs)(hx:xs[k]?=none)(hQ:∀g,(∀c o,c≠z->c≠i1->c≠i2->s.heap.get? c=some o->g.get? c=some o)->Q none {s with heap:=g}):wpAny (model prog w) A (pyNext (.ref z)) Q E s:=by
 have hTy:s.TypeIs (.ref z) "zip":=⟨_,hz,rfl⟩;simp only[pyNext];refine Zl (wpAny_attempt (wpAny_callSpecial?_slot (name:=Str.ofString "__next__") hTy F.slot_zip_next (wpAny_call_entry F.slot_zip_next hTy F.entry_zip_next ?_ (F.args_zip_next_1 _))));refine Zl (m:=field (.ref z) 2) (Zo hz rfl (x:=.bool false) rfl (Zl (m:=field (.ref z) 3) (Zo hz rfl (x:=.ref TI) rfl (Zl (wpAny_seqItems its rfl ?_)))));refine Zl (m:=Builtin.SmallTypes.ownedTupleIsFree (.ref z)) (Zl (m:=field (.ref z) 0) (Zo hz rfl (x:=rawInt T) rfl ?_));simp only[rawInt];refine Nr (o:=oT) (by simpa using hT) ?_;rw[Zq (by simp)];refine Zl (m:=field (.ref z) 1) (Zo hz rfl (x:=f1) rfl ?_)
 suffices main:∀g0,ZI g0 z TI TO (rawInt T) (.bool true)->Heap.SameBut z s.heap g0->wpAny (model prog w) A.in1 _ _ _ {s with heap:=g0} by
  rcases hf with rfl|rfl
  .rw [Zp (by rfl)]
   refine Zl (wpAny_setField_rec hz (by simp) fun g0 z0 s0=>Zm ?_);rw[Zq (by simp)];exact main g0 z0 s0
  .rw [Zq (by decide)]
   refine Zm ?_;rw[Zq (by simp)];exact main s.heap hz ⟨rfl,fun _ _=>rfl⟩
 intro g0 z0 s0;rw[<-Array.forIn_toList];simp only[List.forIn_cons,List.forIn_nil];have o1:=one.but s0.extBut D.i1z D.l1z;refine Zl (Zl (Zl (wpAny_holding (?_:wpAny _ _ (Builtin.SmallTypes.nextOf (.ref i1) >>=_) _ _ _))));refine Zl (MI (s:={s with heap:=g0}) hh o1 hx fun g2 e eg ⟨o,ho,hc⟩=>?_);refine Zl (wpAny_isInstance (T:="StopIteration") (b:=true) ⟨o,ho,hc⟩ isSubtype_stop (Zm (hQ _ ?_)));intro c o c1 c2 c3 e;exact eg _ _ c2 (s0.extBut _ _ c1 e)
end
def ZC(h:Heap)(z TI TO:Addr)(t1:Bool)(i1 l1:Addr)(t2:Bool)(i2 l2:Addr)(i:Nat):Prop:=
 IsPair h TI (.ref i1) (.ref i2)/\SJ t1 h i1 l1 i/\SJ t2 h i2 l2 i/\((IsZip h z TI TO .none/\∃a b,IsPair h TO a b) \/ ∃(T:Addr)(f1:Value)(oT:Obj),ZI h z TI TO (rawInt T) f1/\h.get? T=some oT/\T ∉ [z,TO,i1,i2]/\(f1=.bool false\/f1=.bool true))
theorem Wk.keep2{tp:Bool}{h h':Heap}{l:Addr}{xs:Array Value}(z:Wk tp h l xs)(k:∀o,h.get? l=some o->h'.get? l=some o):Wk tp h' l xs:=by
 cases tp with
 |false=>exact let⟨o,e,r⟩:=z;⟨o,k _ e,r⟩
 |true=>exact let⟨o,e,r⟩:=z;⟨o,k _ e,r⟩
section
variable{prog:Program}{w:World}{A:Around}{E:Value->Shared->Prop}{R:Result->Shared->Prop}
theorem OU{z TI TO i1 i2 l1 l2 d:Addr}{t1 t2:Bool}{xs ys:List Value}{vs:List (Key×Value)}(hh:A.handled=none)(D:ZipApart z TI TO i1 i2 l1 l2)(hlen:xs.length=ys.length)(hn:xs.length<=sizeLine)(hv:vs.length=xs.length)(nd:(vs.map (·.1)).Nodup)(hkv:∀i (h1:i<xs.length) (h2:i<ys.length),∃k,vs[i]?=some (k,ys[i])/\(Y9 prog w).is k xs[i]=true)(hS:d ∉ [z,TO,i1,i2,TI,l1,l2])(res:Value):
  ∀(k i:Nat)(s:Shared)(j:Int)(t:Tok),xs.length-i=k->i<=xs.length->ZC s.heap z TI TO t1 i1 l1 t2 i2 l2 i->Wk t1 s.heap l1 xs.toArray->Wk t2 s.heap l2 ys.toArray->
  s.heap.DictOf (Y9 prog w) d (vs.take i)->TO<s.heap.objs.size->
  (∀h' tk,h'.DictOf (Y9 prog w) d vs->(∀b o,b ∉ [z,TO,i1,i2,d]->s.heap.get? b=some o->h'.get? b=some o)->R (.ok (.ret res)) {s with heap:=h',toks:=tk})->
  codeAny (model prog w) A (.builtin "dict.update.loop" ⟨[.ref d,.ref z,.int j t,res],[]⟩) R s:=by
 have nS:d≠z/\d≠TO/\d≠i1/\d≠i2/\d≠TI/\d≠l1/\d≠l2:=by simpa using hS
 obtain⟨nz,nTO,n1,n2,nTI,nl1,nl2⟩:=nS;intro k
 induction k with
 |zero=>
  intro i s j t hk hi zc w1 w2 hd hTO hR;have e:i=xs.length:=by omega
  subst e;refine codeAny_builtin X6 ?_;rw[Around.under_plainId Ja _];obtain⟨itp,j1,j2,zz⟩:=zc;rw[<-hv,List.take_length]at hd
  have fin:∀g,(∀b o,b ∉ [z,TO,i1,i2]->s.heap.get? b=some o->g.get? b=some o)->R (.ok (.ret res)) {s with heap:=g}:=fun g kp=>by
   obtain⟨o,es,ep,ho,rest⟩:=hd
   exact hR g s.toks ⟨o,es,ep,kp d o (by simp[nz,nTO,n1,n2]) ho,rest⟩ fun b o hb e=>kp b o (fun hm=>hb (by
    have hm':b=z\/b=TO\/b=i1\/b=i2:=by simpa using hm
    simp only[Zd,List.not_mem_nil,or_false];rcases hm' with q|q|q|q
    .exact .inl q
    .exact .inr (.inl q)
    .exact .inr (.inr (.inl q))
    .exact .inr (.inr (.inr (.inl q))))) e
  refine Zl (m:=pyNext (.ref z)) ?_;rcases zz with⟨hz,ho⟩|⟨T,f1,oT,hz,hT,_,hf⟩
  .refine Ex hh D ⟨hz,itp,ho,j1.si w1,j2.si w2⟩ (.inl (by simp)) fun g kp=>Zl (Zm (Zm (fin g fun b o hb e=>?_)))
   have hb':b≠z/\b≠TO/\b≠i1/\b≠i2:=by simpa using hb
   exact kp b o hb'.1 hb'.2.1 hb'.2.2.1 hb'.2.2.2 e
  .refine PQ (t2:=t2) hh D hz hT hf itp (j1.si w1) (by simp) fun g kp=>Zl (Zm (Zm (fin g fun b o hb e=>?_)))
   have hb':b≠z/\b≠TO/\b≠i1/\b≠i2:=by simpa using hb
   exact kp b o hb'.1 hb'.2.2.1 hb'.2.2.2 e
 |succ k ih=>
  intro i s j t hk hi zc w1 w2 hd hTO hR;have hlt:i<xs.length:=by omega
  have hlt2:i<ys.length:=by omega
  have hx:xs.toArray[i]?=some xs[i]:=by simp[hlt]
  have hy:ys.toArray[i]?=some ys[i]:=by simp
  obtain⟨key,ev,hkey⟩:=hkv i hlt hlt2;refine codeAny_builtin X6 ?_;rw[Around.under_plainId Ja _];obtain⟨itp,j1,j2,zz⟩:=zc;refine Zl (m:=pyNext (.ref z)) ?_
  suffices step:∀g,ZC g z TI TO t1 i1 l1 t2 i2 l2 (i+1)->IsPair g s.heap.objs.size xs[i] ys[i]->g.objs.size=s.heap.objs.size+1->(∀b o,b≠z->b≠TO->b≠i1->b≠i2->s.heap.get? b=some o->g.get? b=some o)->wpAny (model prog w) A.in1 _ _ _ {s with heap:=g} by
   have lz:∀{o:Obj}{b:Addr},s.heap.get? b=some o->b<s.heap.objs.size:=fun e=>ZP e;have l1':i1<s.heap.objs.size:=let⟨_,e,_⟩:=j1.obj;lz e
   have l2':i2<s.heap.objs.size:=let⟨_,e,_⟩:=j2.obj;lz e
   rcases zz with⟨hz,a,b,ho⟩|⟨T,f1,oT,hz,hT,nT,hf⟩
   .refine DI D ⟨hz,itp,⟨a,b,ho⟩,j1.si w1,j2.si w2⟩ hx hy fun g zs ip sz kp=>step g ⟨zs.its,zs.one.sj,zs.two.sj,.inr ⟨s.heap.objs.size,.bool false,_,zs.zip,ip,?_,.inl rfl⟩⟩ ip sz kp
    have q1:=lz hz;have q2:=lz ho;intro hm;have hm':s.heap.objs.size=z\/s.heap.objs.size=TO\/s.heap.objs.size=i1\/s.heap.objs.size=i2:=by simpa using hm
    rcases hm' with e|e|e|e <;> rw[e]at q1 q2 l1' l2' <;> first|exact Zr q1 (Nat.lt_irrefl _)|exact Zr q2 (Nat.lt_irrefl _)|exact Zr l1' (Nat.lt_irrefl _)|exact Zr l2' (Nat.lt_irrefl _)
   .have nT':T≠z/\T≠TO/\T≠i1/\T≠i2:=by simpa using nT
    exact Kw D hz hT hf itp (j1.si w1) (j2.si w2) hx hy fun g z' a1 a2 ip sz kp=>step g ⟨kp _ _ D.TIz D.TIi1 D.TIi2 itp,a1,a2,.inr ⟨T,.bool true,oT,z',kp _ _ nT'.1 nT'.2.2.1 nT'.2.2.2 hT,nT,.inr rfl⟩⟩ ip sz fun b o b1 _ b3 b4 e=>kp b o b1 b3 b4 e
  intro g zc' ip sz kp
  have hd':g.DictOf (Y9 prog w) d (vs.take i):=by
   obtain⟨o1,es,ep,ho1,rest⟩:=hd;exact⟨o1,es,ep,kp d o1 nz nTO n1 n2 ho1,rest⟩
  have hT:({s with heap:=g}:Shared).TypeIs (.ref s.heap.objs.size) "tuple":=⟨_,ip,rfl⟩
  have ld:d<s.heap.objs.size:=by
   obtain⟨o1,es,ep,ho1,rest⟩:=hd;exact ZP ho1
  refine Zl (wpAny_holding (Zl (wpAny_tryCatch ?_)));simp only[Builtin.Dict.pairItems];refine Zl (m:=typeOf (.ref s.heap.objs.size)) (wpAny_typeOf hT ?_);rw[Zp (by decide)];refine Zl (wpAny_seqItems ip rfl (Zm ?_));show wpAny _ A.in1 (holding [xs[i],ys[i]] (dictSet d xs[i] ys[i])) _ _ _;refine wpAny_holding (wpAny_dictSet_pairs (hsz:=by rw[ZN];omega) hkey hd' fun h2 hd2 hs2=>?_);rw[Rb vs nd ev]at hd2;have sb:∀b o,b≠d->g.get? b=some o->h2.get? b=some o:=fun b o hb e=>(hs2.2 b hb).trans e;refine Zm ⟨plainId_quiet Ja _,ih (i+1) _ (j+1) 0 (by omega) hlt ?_ ?_ ?_ hd2 ?_ fun h3 tk3 hd3 hk3=>?_⟩
  .obtain ⟨a1,a2,a3,a4⟩:=zc'
   refine⟨sb _ _ (Zs nTI) a1,a2.to fun o e=>sb _ _ (Zs n1) e,a3.to fun o e=>sb _ _ (Zs n2) e,?_⟩;rcases a4 with⟨q1,a,b,q2⟩|⟨T,f1,oT,q1,q2,q3,q4⟩
   .exact .inl ⟨sb _ _ (Zs nz) q1,a,b,sb _ _ (Zs nTO) q2⟩
   .by_cases eT:T=d
    .obtain ⟨o2,es2,ep2,ho2,_⟩:=hd2
     exact .inr ⟨T,f1,o2,sb _ _ (Zs nz) q1,by rw[eT];exact ho2,q3,q4⟩
    .exact .inr ⟨T,f1,oT,sb _ _ (Zs nz) q1,sb _ _ eT q2,q3,q4⟩
  .exact w1.keep2 fun o e=>sb _ _ (Zs nl1) (kp _ _ D.l1z D.l1TO D.l1i1 D.l1i2 e)
  .exact w2.keep2 fun o e=>sb _ _ (Zs nl2) (kp _ _ D.l2z D.l2TO D.l2i1 D.l2i2 e)
  .have e2:h2.objs.size=g.objs.size:=hs2.1
   show TO<h2.objs.size;rw[e2,sz];exact Nat.lt_succ_of_lt hTO
  .refine hR h3 tk3 hd3 fun b o hb e=>hk3 b o hb ?_
   have hb':b≠z/\b≠TO/\b≠i1/\b≠i2/\b≠d:=by simpa using hb
   exact sb _ _ hb'.2.2.2.2 (kp b o hb'.1 hb'.2.1 hb'.2.2.1 hb'.2.2.2.1 e)
end
theorem OT:typeLookup (.type "zip") (Str.ofString "keys")=pure none:=am_miss_of_fast (by decide +kernel)
theorem OS:typeLookup (.type "zip") (Str.ofString "__getattr__")=pure none:=am_miss_of_fast (by decide +kernel)
theorem Kb:entryFor table "zip.__getattribute__"=some Builtin.«object.__getattribute__»:=
 entryFor_alias (id':="object.__getattribute__") (by kernel_rfl) (by decide +kernel) (by decide +kernel) (by kernel_rfl)
theorem Ka(a:Addr)(fs:Array Value)(sl:Array (Option Value))(name:Str)(u:Tok)(hmiss:typeLookup (.type "zip") name=pure none)(hname:(["__module__","__name__","__qualname__","__doc__","__annotations__"]:List Str).contains name=false)(hsz:name.length+100<=sizeLine:=by size_fits):
  Meets (Builtin.«object.__getattribute__» ⟨[.ref a,.str name u],[]⟩) (fun A R s=>s.heap.get? a=some {cls:=.type "zip",dict:=none,data:=.fields fs,slots:=sl}/\raisesAttr (.ref a) name A R s):=
 Meets.of_wp fun prog w A R s hs=>by
  obtain⟨hp,g,d,tk,os⟩:=s;obtain⟨hx,hs⟩:=hs;have hT:(⟨hp,g,d,tk,os⟩:Shared).TypeIs (.ref a) "zip":=⟨_,hx,rfl⟩;unfold Builtin.«object.__getattribute__»
  repeat (any_goals (first|assumption|wp_step))
  simp only[hname,Bool.false_eq_true,if_false]
  repeat (any_goals (first|assumption|wp_step))
  exact (wpAny_raiseAttrError hs.1 hs.2<|attrMsg_fits (by decide +kernel) hsz)
theorem OV{fs:Array Value}{sq:Array (Option Value)}(hx:s.heap.get? a=some {cls:=.type "zip",dict:=none,data:=.fields fs,slots:=sq})(hA:A.handled=none)(h:∀h' tk,(∀b o,s.heap.get? b=some o->h'.get? b=some o)->Q none {s with heap:=h',toks:=tk}):
  wpAny (model prog w) A (getAttr? (.ref a) (Str.ofString "keys")) Q E s:=by
 obtain⟨h0,gs,dr,tk,os⟩:=s;have sl':=F.slot_zip_getattribute;have lk':=sl'.lookup;have bd':=sl'.bind (.ref a);have no':=OS;have ae':=sub_AttributeError;have hT:∀n,(Shared.mk h0 gs dr n os).TypeIs (.ref a) "zip":=fun n=>⟨_,hx,rfl⟩;simp only[getAttr?,getAttrBy?,getAttrBy]
 repeat (any_goals (first|assumption|exact hT _|((with_reducible show wpAny _ _ (call (Value.builtin "zip.__getattribute__") _ _) _ _ _);refine call_meets F.slot_zip_getattribute (hT _) Kb (F.args_zip_getattribute_2 _ _) (Ka a fs sq (Str.ofString "keys") _ OT (by decide +kernel) (by size_fits)) ⟨hx,hA,fun h' tk' e hx'=>?_⟩)|wp_step))
 have there:=hx'.there;obtain⟨_,_,he⟩:=there;refine(?_:wpAny _ _ (getattributeRaised _ _ _ _ _ _ _) _ _ _);simp only[getattributeRaised]
 repeat any_goals first|assumption|wp_step
 exact h _ _ hx'.keeps
theorem O7:∀{kvs:List (Key×V)}{us:List Value},Vals (kvs.map (·.2)) us->∃vs,KV kvs vs/\vs.map (·.2)=us/\vs.map (·.1)=kvs.map (·.1)
 |[],_,r=>by cases r;exact⟨[],.nil,rfl,rfl⟩
 |kv::kvs,_,r=>by
  cases r with
  | @cons _ u _ us h t=>
   obtain⟨vs,h1,h2,h3⟩:=O7 t;exact⟨(kv.1,u)::vs,.cons ⟨rfl,h⟩ h1,by rw[ZV,h2],by rw[ZV,ZV,h3]⟩
theorem RC{z TI TO i1 i2 l1 l2:Addr}{t1 t2:Bool}{xs ys:List Value}{vs:List (Key×Value)}{kvs:List (Key×V)}{g:Heap}(I:Inv X pins U H s)(hc:X.calm=true)(D:ZipApart z TI TO i1 i2 l1 l2)(hlen:xs.length=ys.length)(hn:xs.length<=1000)(hv:vs.length=xs.length)(nd:(vs.map (·.1)).Nodup)(hkv:∀i (h1:i<xs.length) (h2:i<ys.length),∃k,vs[i]?=some (k,ys[i])/\(Y9 X.prog X.w).is k xs[i]=true)(rel:KV kvs vs)(kp:∀b o,s.heap.get? b=some o->g.get? b=some o)(gz:s.heap.objs.size<=g.objs.size)(big:∀b∈ [z,TO,i1,i2],s.heap.objs.size<=b)(zr:ZR g z TI TO t1 i1 l1 t2 i2 l2 0)(w1:Wk t1 g l1 xs.toArray)(w2:Wk t2 g l2 ys.toArray)(q:∀l,H l=none->Q (.ref l) (upd H l (.dK kvs))):
  wpAny (model X.prog X.w) X.A (call (.type "dict") [.ref z]) (EP X pins U Q) X.xe {s with heap:=g}:=by
 refine callType_codes (Q₁:=fun ob t=>ob=.ref g.objs.size/\t={s with heap:=g.push {cls:=.type "dict",data:=.dict #[]}}) F.kt_called_dict (F.kt_typeCall_dict_1 _) F.entry_dict_init (kt_code_dict_new _ ⟨rfl,rfl⟩) fun ob t ht=>?_;obtain⟨rfl,rfl⟩:=ht;have hnew:(g.push {cls:=.type "dict",data:=.dict #[]}).DictOf (Y9 X.prog X.w) g.objs.size []:=Heap.DictOf.new g;have k0:∀b o,g.get? b=some o->(g.push {cls:=.type "dict",data:=.dict #[]}).get? b=some o:=fun b o e=>ZE _ e;refine And.intro hnew.typeIs (And.intro (F.args_dict_init_2 _ _) ?_);delta Builtin.«dict.__init__» Builtin.Dict.selfAndRest;refine Zl (Zl (wpAny_notOrdered_dict hnew.typeIs (Zm (?_:wpAny _ _ (Builtin.Dict.updateFrom "dict.__init__" g.objs.size (.ref z) [] .none) _ _ _))));delta Builtin.Dict.updateFrom;have ty1:Shared.TypeIs {s with heap:=g.push {cls:=.type "dict",data:=.dict #[]}} (.ref z) "zip":=⟨_,k0 _ _ zr.zip,rfl⟩;refine Zl (wpAny_typeOf ty1 ?_);rw[Zp (by decide)];refine Zl (OV (s:={s with heap:=g.push {cls:=.type "dict",data:=.dict #[]}}) (k0 _ _ zr.zip) (I.ok.hd hc) fun h1 tk1 hk1=>?_);simp only[Option.isNone_none,if_true];refine Zl (wpAny_rule ?_);have k1:∀b o,g.get? b=some o->h1.get? b=some o:=fun b o e=>hk1 b o (k0 b o e);refine Zl (wpAny_pyIter_zip (s:={s with heap:=h1,toks:=tk1}) (k1 _ _ zr.zip) ?_);have lz:z<g.objs.size:=ZP zr.zip;have lTI:TI<g.objs.size:=ZP zr.its;have lTO:TO<g.objs.size:=let⟨_,_,e⟩:=zr.out;ZP e
 have li1:i1<g.objs.size:=let⟨_,e,_⟩:=zr.one.obj;ZP e
 have li2:i2<g.objs.size:=let⟨_,e,_⟩:=zr.two.obj;ZP e
 have ll1:=w1.lt;have ll2:=w2.lt;have ne:∀{b:Addr},b<g.objs.size->g.objs.size≠b:=fun h=>Nat.ne_of_gt h;refine Zm ⟨plainId_quiet Ja _,OU (A:=X.A.in1) (t1:=t1) (t2:=t2) (xs:=xs) (ys:=ys) (vs:=vs) (I.ok.hd hc) D hlen (Zh (Yq hn)) hv nd hkv ?_ .none xs.length 0 {s with heap:=h1,toks:=tk1} 0 0 rfl (Zc _) ⟨k1 _ _ zr.its,zr.one.to fun o e=>k1 _ _ e,zr.two.to fun o e=>k1 _ _ e,.inl ⟨k1 _ _ zr.zip,let⟨a,b,e⟩:=zr.out;⟨a,b,k1 _ _ e⟩⟩⟩ (w1.keep2 fun o e=>k1 _ _ e) (w2.keep2 fun o e=>k1 _ _ e) ?_ ?_ fun h' tk hd' hk'=>?_⟩
 .intro hm
  have hm':g.objs.size=z\/g.objs.size=TO\/g.objs.size=i1\/g.objs.size=i2\/g.objs.size=TI\/g.objs.size=l1\/g.objs.size=l2:=by simpa using hm
  rcases hm' with e|e|e|e|e|e|e
  .exact ne lz e
  .exact ne lTO e
  .exact ne li1 e
  .exact ne li2 e
  .exact ne lTI e
  .exact ne ll1 e
  .exact ne ll2 e
 .rw [List.take_zero]
  obtain⟨o,es,ep,ho,rest⟩:=hnew;exact⟨o,es,ep,hk1 _ _ ho,rest⟩
 .obtain ⟨_,_,e⟩:=zr.out
  exact ZP (k1 _ _ e)
 .have lk:kvs.length<=sizeLine:=by
   have:=rel.length;exact Zh (Yq (by omega))
  refine⟨rfl,.ref g.objs.size,_,I.laid (a:=g.objs.size) (o:=.dK kvs) (fun b o e=>?_) gz (Wg lk (beq_eq_false_iff_ne.mpr (Zs (Ze (Zx I.big gz)))) rel hd'),rfl,q _ (I.hok.fresh gz)⟩;have hb:=ZP e;refine hk' b o (fun hm=>?_) (k1 b o (kp b o e));have hm':b=z\/b=TO\/b=i1\/b=i2\/b=g.objs.size:=by simpa using hm
  have hge:s.heap.objs.size<=b:=by
   rcases hm' with e|e|e|e|e
   .exact big b (by rw[e];simp)
   .exact big b (by rw[e];simp)
   .exact big b (by rw[e];simp)
   .exact big b (by rw[e];simp)
   .rw [e];exact gz
  exact Zr hb (Nat.not_lt_of_le hge)
def tDZ(K:W.Frag)(ta:TA):TE:=fun U H Q=>ta U H fun vs H1=>∃(a b:Addr)(t1 t2:Bool)(kvs:List (Key×V)),vs=[.ref a,.ref b]/\Sq K t1 H1 a (kvs.map fun kv=>kV kv.1)/\Sq K t2 H1 b (kvs.map (·.2))/\kvs.length<=1000/\(kvs.map (·.1)).Nodup/\
 ∀l,H1 l=none->Q (.ref l) (upd H1 l (.dK kvs))
theorem Lf{X:Cx}{a b:Expr}{ta:TA}{p p1 pos pos1:Pos}(hc:X.calm=true)(hg:Gl X "dict")(hm:X.mg "dict"=none)(hg2:Gl X "zip")(hm2:X.mg "zip"=none)(ha:PA X [a,b] ta)(hs:starEach [a,b] X.env=[(false,eval a X.env),(false,eval b X.env)]:=by rfl)(hsb:starEach [b] X.env=[(false,eval b X.env)]:=by rfl)(hs2:starEach [Expr.Call (.Name "zip" p1) [a,b] [] pos1] X.env=[(false,eval (Expr.Call (.Name "zip" p1) [a,b] [] pos1) X.env)]:=by rfl):
  PE X (.Call (.Name "dict" p) [.Call (.Name "zip" p1) [a,b] [] pos1] [] pos) (tDZ X.K ta):=by
 intro pins s U H Q I h;refine Call_ (U3 I hg hm Uk (PyProof.Rows.callWith_type1 ?_ hs2 rfl));rw[hs2];refine(?_:wpAny _ _ (spliced ((false,eval (Expr.Call (.Name "zip" p1) [a,b] [] pos1) X.env)::[])) _ _ s);refine Calls.spliced_cons (Call_ (U3 I hg2 hm2 Rf (PyProof.Rows.callWith_type1 (thn (ha pos1 pins s U H _ I h) fun us s1 ⟨vs,H1,I1,r1,q1⟩=>?_) (by rw[hs,hsb]) (by rw[hsb];rfl))));obtain⟨l1,l2,t1,t2,kvs,e,q1,q2,l1000,nd,q⟩:=q1;subst e;obtain⟨u,w',rfl,ru,rw'⟩:=vals2 r1;cases ru;cases rw';obtain⟨its1,rr1,w1⟩:=I1.sq q1;obtain⟨its2,rr2,w2⟩:=I1.sq q2;have n1:=w1.lt;have n2:=w2.lt;have le1:=rr1.length;have le2:=rr2.length;rw[ZA]at le1 le2;obtain⟨ws,rel,e2,e1⟩:=O7 rr2;have lw:ws.length=kvs.length:=by rw[<-ZA (f:=(·.1)) (as:=ws),e1,ZA]
 refine Nl w1 w2 fun g S kp=>Calls.spliced_nil ?_;have D:=zap _ _ _ n1 n2;have gz:s1.heap.objs.size<=g.objs.size:=Zh (Nat.lt_of_le_of_lt (Nat.le_add_right _ _) (ZP S.zip));refine RC (xs:=its1) (ys:=its2) (vs:=ws) (kvs:=kvs) I1 hc D (by omega) (by omega) (by omega) (by rw[e1];exact nd) (fun i h1 h2=>?_) rel kp gz (fun b hb=>?_) S (w1.keep2 fun o e=>kp _ _ e) (w2.keep2 fun o e=>kp _ _ e) q
 .have ik:i<kvs.length:=by omega
  have iw:i<ws.length:=by omega
  have e3:ws[i].2=its2[i]:=by
   have:(ws.map (·.2))[i]?=its2[i]?:=by rw[e2]
   rw[ZH,ZD iw,ZD h2]at this;exact ZT this
  have e4:ws[i].1=kvs[i].1:=by
   have:(ws.map (·.1))[i]?=(kvs.map (·.1))[i]?:=by rw[e1]
   rw[ZH,ZH,ZD iw,ZD ik]at this;exact ZT this
  refine⟨ws[i].1,by rw[ZD iw,<-e3],?_⟩;obtain⟨u,hu,ru⟩:=rr1.get (show(kvs.map fun kv=>kV kv.1)[i]?=some (kV kvs[i].1) by rw[ZH,ZD ik];rfl);rw[ZD h1]at hu;cases hu;rw[e4];exact U4 ru
 .have z:b=s1.heap.objs.size+4\/b=s1.heap.objs.size+3\/b=s1.heap.objs.size\/b=s1.heap.objs.size+1:=by simpa using hb
  rcases z with z|z|z|z <;> rw[z] <;> first|exact ZG _|exact Nat.le_add_right _ _
end L2
namespace L2
open PySem
def nmD(ns:List Str)(vs:List V):List (Key×V):=(ns.zip vs).map fun x=>(Sum.inr x.1,x.2)
theorem NS:∀{ns:List Str}{vs:List V},ns.length=vs.length->(nmD ns vs).map (fun kv=>kV kv.1)=ns.map V.str/\(nmD ns vs).map (·.2)=vs/\(nmD ns vs).map (·.1)=ns.map Sum.inr
 |[],[],_=>⟨rfl,rfl,rfl⟩
 |[],_::_,h=>by simp at h
 |_::_,[],h=>by simp at h
 |n::ns,v::vs,h=>by
  obtain⟨h1,h2,h3⟩:=NS (ns:=ns) (vs:=vs) (by simpa using h);unfold nmD at h1 h2 h3 |-;refine⟨?_,?_,?_⟩
  .rw [List.zip_cons_cons,ZV,ZV,h1];rfl
  .rw [List.zip_cons_cons,ZV,ZV,h2]
  .rw [List.zip_cons_cons,ZV,ZV,h3];rfl
end L2
namespace K4
open PySem L2
section
variable{C CK:Addr}
theorem Ik:List.Nodup [("name":Str),"kind"]:=by decide +kernel
theorem SV:Yi ["book","f","things","names"] ["book","f","things"] (Yd BH):=Y2
inductive SNd(C CK:Addr)(H:Hp)(Q:VK):List V->Prop
 |mk (t tl:Addr) (us:List V) (ks:List (Str×Shp)) (d:Str->Nat) (ds:List Dd) (x:Dd) (bi:BI H C CK t ks d ds) (hx:x∈ds) (ht:H tl=some (.lst us)) (ln:us.length=x.1.2.1.length) (l3:x.1.2.1.length<=3) (nd:(x.1.2.1.map (·.1)).Nodup)
  (q:∀l H',Same H H'->H l=none->H' l=some (.dK (nmD (x.1.2.1.map (·.1)) us))->Q (.ref l) H'):SNd C CK H Q [.ref t,.str x.1.1,.ref tl]
def Pn(C CK:Addr):Sp:=fun vs H Q _=>SNd C CK H Q vs
theorem S0(B:Blt mg)(TB:BCl K C)(F:Fun K "named" "named" BH f fd)(m:VO K C "parameters" g)(G:Yf P w K mg base CX0 n g gd ["self","F"] (Gp C CK))(bG:Binds K gd ["self","F"] []):Yf P w K mg base CX0 (n+1) f fd ["book","f","things"] (Pn C CK):=by
 refine F.oi SV fun cdv A outer s H vs Q E hr h=>?_;obtain⟨t,tl,us,ks,d,ds,x,bi,hx,ht,ln,l3,nd,q⟩:=h;refine⟨_,YY (Dh (i0:=3) ["name","kind"] [] SV.nd rfl (Or.inl rfl) (JV (Y6 (pv 0) TB.cl m G hr bG .nil Y4 (pa1 (pv 1)))) TY (fun cl C fp s H=>Vi (n:=2) rfl (Yx (Yp 0 Ik rfl (Or.inl rfl) (Or.inr rfl)) (Yx (Yp 1 Ik rfl (Or.inl rfl) (Or.inr rfl)) VW))) (fun cl C fp s H=>pv 0))
  (YZ (Yh (Lf rfl rfl B.dict rfl B.zip (pa2 (pv 3) (pv 2))))),?_⟩
 dsimp only[Vb,Cx.nox,Cx.wish];show let T0:=_;Yk _ T0 _ _ _
 intros
 obtain⟨A',kv,rfl,b'⟩:=id bi;refine⟨_,_,b'.ins,Al _,A'.t,ks,d,ds,x,rfl,bi,hx,fun v hv=>?_⟩;unfold psD at hv;obtain⟨a,xs,rfl,ha,hu⟩:=Yr hv;refine⟨⟨_,Z2 ha⟩,?_⟩;refine Kn (us:=x.1.2.1) (D:=fun p=>.tup [.str p.1,.str p.2]) (E:=fun p=>.str p.1) (itt (Z2 ha)) hu (by omega) (fun u y R hm hy hR=>?_) fun vs p H1 fp s1 hp hvs=>?_
 .obtain ⟨t,ys,rfl,h2,hl⟩:=Yr hy
  obtain⟨x1,r1,rfl,e1,hlA⟩:=Yb hl;obtain⟨x2,r2,rfl,e2,hlB⟩:=Yb hlA;obtain rfl:=Y8 hlB;obtain rfl:=has_str e1;obtain rfl:=has_str e2;exact⟨_,Z2 h2,rfl,hR _ VD⟩
 have e:=WC (by rw[List.map_map];exact hvs:HasL H1 vs ((x.1.2.1.map (·.1)).map Dat.str));subst e;obtain⟨e1,e2,e3⟩:=NS (ns:=x.1.2.1.map (·.1)) (vs:=us) (by rw[ZA];omega);have len:(nmD (x.1.2.1.map (·.1)) us).length=us.length:=by rw[<-ZA (f:=(·.2)),e2]
 refine⟨p,tl,false,false,nmD (x.1.2.1.map (·.1)) us,rfl,?_,?_,by omega,?_,fun l hl=>?_⟩
 .rw [e1];exact Z3 hp
 .rw [e2];exact Z3 (s1 _ _ ht)
 .rw [e3]
  exact nd.map (f:=Sum.inr) (fun a b h e=>h (Sum.inr.inj e))
 .exact q l _ (s1.trans (Yo hl _)) (s1.free hl) Ye
end
end K4
namespace L2
open PySem
@[elab_as_elim] theorem fld_in {motive:Hp->Prop}(x:Addr) (o:HO) (k:∀H',SameB x H H'->H' x=some o->motive H'):motive (upd H x o):=k _ (fun b u n h=>by rw[Yg n];exact h) Ye
theorem JN(h0:Hm x=none)(s:Same Hm H)(b:SameB x H H'):Same Hm H':=fun a o h=>b a o (Yc h h0) (s a o h)
structure GD(H:Hp)(C:Addr)(A:GA)(F:Str)(ns:List Str)(wos:List W):Prop where
 gv:GV H C A wos
 bs:∃e,H A.bs=some (.lst [.ref e])/\H e=some (.tup [])
 st:∃t e kn us,H A.st=some (.dK [(Sum.inl 0,.ref t)])/\H t=some (.tup [.str F,.ref e,.ref kn])/\H e=some (.tup [])/\H kn=some (.dK (nmD ns us))/\us.length=wos.length/\HasL H us ((List.range wos.length).map fun i=>J4 i [])
theorem GD.mono(g:GD H C A F ns wos)(s:Same H H'):GD H' C A F ns wos:=by
 obtain⟨e,h1,h2⟩:=g.bs;obtain⟨t,e',kn,us,h3,h4,h5,h6,h7,h8⟩:=g.st;exact⟨g.gv.mono s,⟨e,s _ _ h1,s _ _ h2⟩,t,e',kn,us,s _ _ h3,s _ _ h4,s _ _ h5,s _ _ h6,h7,h8.mono s⟩
mutual
def Dat.ti:Dat->Bool
 |.tup ds=>Dat.tis ds
 |.lst _=>false
 |_=>true
def Dat.tis:List Dat->Bool
 |[]=>true
 |d::ds=>d.ti && Dat.tis ds
end
mutual
theorem VP{H H':Hp}(b:TK H H'):∀(d:Dat){v:V},d.ti=true->Has H v d->Has H' v d
 |.str _,_,_,h=>by unfold Has at h |-;exact h
 |.non,_,_,h=>by unfold Has at h |-;exact h
 |.tup ds,_,t,h=>by
  unfold Has at h |-;obtain⟨a,xs,h1,h2,h3⟩:=h;unfold Dat.ti at t;exact⟨a,xs,h1,b _ _ h2,UD b ds t h3⟩
 |.bl _,_,_,h=>by unfold Has at h |-;exact h
 |.int _,_,_,h=>by unfold Has at h |-;exact h
 |.lst _,_,t,_=>by unfold Dat.ti at t;cases t
theorem UD{H H':Hp}(b:TK H H'):∀(ds:List Dat){xs:List V},Dat.tis ds=true->HasL H xs ds->HasL H' xs ds
 |[],[],_,h=>Z6
 |[],_::_,_,h=>by unfold HasL at h;exact h.elim
 |_::_,[],_,h=>by unfold HasL at h;exact h.elim
 |d::ds,x::xs,t,h=>by
  unfold HasL at h;unfold Dat.tis at t;have t':=Bool.and_eq_true_iff.mp t;exact Z4 (VP b d t'.1 h.1) (UD b ds t'.2 h.2)
end
theorem J9:∀{ds:List Dat},(∀d∈ds,d.ti=true)->Dat.tis ds=true
 |[],_=>by unfold Dat.tis;rfl
 |d::ds,h=>by unfold Dat.tis;rw[h d Za,J9 fun e he=>h e (ZM _ he)];rfl
theorem UG(ws:List Int):(JG ws).ti=true:=by
 unfold JG Dat.ti;exact J9 fun d hd=>by obtain⟨k,_,rfl⟩:=ZW.mp hd;unfold Dat.ti;rfl
theorem We(i:Nat)(ws:List Int):(J4 i ws).ti=true:=by
 unfold J4;simp[Dat.ti,Dat.tis,UG]
theorem OL(n:Nat):Dat.tis ((List.range n).map fun i=>J4 i [])=true:=J9 fun d hd=>by obtain⟨k,_,rfl⟩:=ZW.mp hd;exact We _ _
theorem Dm(h:H a=some (.tup [])):Has H (.ref a) (JG []):=U8 h
end L2
namespace K4
open PySem L2
section
variable{C CK CG:Addr}
theorem CZ:Yi ["self","book","F","worths"] ["self","book","F","worths"] (Yd KP):=Y2
theorem Cs:List.Nodup [("i":Str)]:=by decide +kernel
inductive SGI(C CK CG:Addr)(H:Hp)(Q:VK):List V->Prop
 |mk (Hm:Hp) (x dx bk gv:Addr) (xs:List V) (ks:List (Str×Shp)) (d:Str->Nat) (ds:List Dd) (df:Dd) (wos:List W) (h0:Hm x=none) (sm:Same Hm H) (hx:H x=some (.ins CG dx [])) (bi:BI Hm C CK bk ks d ds) (hd:df∈ds) (hg:Hm gv=some (.tup xs)) (hw:HasL Hm xs (wos.map W.dat)) (ln:wos.length=df.1.2.1.length) (l3:df.1.2.1.length<=3) (nd:(df.1.2.1.map (·.1)).Nodup)
  (q:∀(A:GA) H',A.t=x->A.bk=bk->Same Hm H'->GD H' CG A df.1.1 (df.1.2.1.map (·.1)) wos->Q .non H'):SGI C CK CG H Q [.ref x,.ref bk,.str df.1.1,.ref gv]
def Pp(C CK CG:Addr):Sp:=fun vs H Q _=>SGI C CK CG H Q vs
theorem AB(B:Blt mg)(TG:GCl K CG)(F:Fun K "__init__" "Ground.__init__" KP f fd)(DN:Df P w K mg base n "named" ["book","f","things"] (Pn C CK)):Yf P w K mg base CX0 (n+1) f fd ["self","book","F","worths"] (Pp C CK CG):=by
 refine F.oi CZ fun cdv A outer s H vs Q E hr h=>?_;obtain⟨Hm,x,dx,bk,gv,xs,ks,d,ds,df,wos,h0,sm,hx,bi,hd,hg,hw,ln,l3,nd,q⟩:=h;refine⟨_,YY (VY (pv 0) (pv 1) rfl)
  (YY (VY (pv 0) (pv 3) rfl)
  (YY (VY (pv 0) (Vg (pa1 (Yt Vj))) rfl)
  (YY (VY (pv 0) Vy rfl)
  (YZ (VY (pv 0) (Lg (Fv Ya (Yt (pa3 (pv 2) (Yt Vj) (VJ DN hr (pa3 (pv 1) (pv 2) (V6 ["i"] [] (Jd rfl B.range (pa1 (Y7 Y3 rfl B.len Zu (pa1 (pv 3))))) (Vu (i:=0) (by decide)) (fun cl C fp s H=>Yp 0 Cs rfl (Or.inl rfl) (Or.inr rfl)) (fun cl C fp s H=>Yt (pa3 (Yw) (pv 0) (Yt Vj)))))))) LY) rfl rfl (by simp) (by decide)) rfl))))),?_⟩
 dsimp only[Vb,Cx.nox,Cx.wish];show let T0:=_;let T1:=Yk _ T0;let T2:=Yk _ T1;let T3:=Yk _ T2;Yk _ T3 _ _ _
 intros
 have nx:∀{b o},Hm b=some o->b≠x:=fun h=>Yc h h0;refine⟨x,CG,dx,_,rfl,hx,TG.cl,TG.bk,by decide,?_⟩;refine fld_in x _ fun H1 b1 x1=>?_;refine⟨x,CG,dx,_,rfl,x1,TG.cl,TG.gv,(by show 1<1000;decide),?_⟩;refine fld_in x _ fun H2 b2 x2=>⟨sl 0,fun e he=>?_⟩;refine up_in he _ fun H3 s3 g3=>⟨sl 1,fun l hl=>?_⟩;have xe:e≠x:=(Yc x2 he).symm;have x3:=s3 _ _ x2;have xl:l≠x:=(Yc x3 hl).symm;refine up_in hl _ fun H4 s4 g4=>⟨x,CG,dx,_,rfl,s4 _ _ x3,TG.cl,TG.bs,(by show 2<1000;decide),?_⟩;refine fld_in x _ fun H5 b5 x5=>fun nu hnu=>?_;have xn:nu≠x:=(Yc x5 hnu).symm;refine up_in hnu _ fun H6 s6 g6=>⟨x,CG,dx,_,rfl,s6 _ _ x5,TG.cl,TG.nu,(by show 3<1000;decide),?_⟩;refine fld_in x _ fun H7 b7 x7=>fun st hst=>?_;have xst:st≠x:=(Yc x7 hst).symm;refine up_in hst _ fun H8 s8 g8=>⟨sl 0,fun e2 he2=>?_⟩;have b08:SameB x H H8:=((((((b1.trans b2).trans s3.sb).trans s4.sb).trans b5).trans s6.sb).trans b7).trans s8.sb;have sm8:Same Hm H8:=JN h0 sm b08;have lx:=hw.length;rw[ZA]at lx;refine up_in he2 _ fun H9 s9 g9=>?_;refine⟨gv,xs,rfl,.inr (Z2 (s9 _ _ (sm8 _ _ hg))),xs.length,rfl,by omega,by omega,?_⟩;refine V0 xs.length (Yq (by omega)) (fun i vs H'=>Same H9 H'/\vs.length=i/\HasL H' vs ((List.range i).map fun i=>J4 i [])) ⟨Z8 _,rfl,Z6⟩ (fun i vs H' z=>z.2.1) (fun i vs H' hi z=>hi) (fun vs H' z=>ZG _) ?_ ?_
 .rintro i vs H' y H'' R hi ⟨z1,z2,z3⟩ ⟨rfl,rfl⟩ hR
  refine⟨sl 0,fun a ha=>?_⟩;refine up_in ha _ fun Ha sa ga=>⟨sl 3,fun c hc=>?_⟩;refine up_in hc _ fun Hc sc gc=>hR _ _ ⟨(z1.trans sa).trans sc,by rw[ZL,z2];rfl,?_⟩;rw[List.range_succ,ZK];refine Z7 (z3.mono (sa.trans sc)) (Z5 (Mo (k:=i) (by rw[gc];simp) (Dm (sc _ _ ga))))
 rintro vs H10 tl ⟨z1,z2,z3⟩ htl;refine up_in htl _ fun H11 s11 g11=>?_;have s911:=z1.trans s11;refine⟨bk,tl,vs,ks,d,ds,df,bi.mono (sm8.trans (s9.trans s911)),hd,g11,by omega,l3,nd,fun kn H12 s12 hkn gkn=>⟨sl 3,fun tt htt=>?_⟩⟩;refine up_in htt _ fun H13 s13 g13=>?_;have s13':=((s9.trans s911).trans s12).trans s13;refine⟨s13' _ _ g8,[(Sum.inl 0,.ref tt)],rfl,(by show 1<=15;decide),?_⟩;have x13:=s13' _ _ (s8 _ _ x7);refine fld_in st _ fun H14 b14 g14=>⟨x,CG,dx,_,rfl,b14 _ _ xst.symm x13,TG.cl,TG.st,(by show 4<1000;decide),?_⟩;refine fld_in x _ fun H15 b15 x15=>?_;have fin:∀{b o},H13 b=some o->b≠x->b≠st->H15 b=some o:=fun h n1 n2=>b15 _ _ n1 (b14 _ _ n2 h);have tk:TK H13 H15:=fun b ys h=>fin h (fun z=>by rw[z,x13]at h;cases h) (fun z=>by rw[z,s13' _ _ g8]at h;cases h);have gst:∀{b o},H7 b=some o->b≠st:=fun h=>Yc h hst;have up7:∀{b o},H7 b=some o->b≠x->H15 b=some o:=fun h n=>fin (s13' _ _ (s8 _ _ h)) n (gst h);have e4:H7 e=some (.tup []):=b7 _ _ xe (s6 _ _ (b5 _ _ xe (s4 _ _ g3)));have l7:H7 l=some (.lst [.ref e]):=b7 _ _ xl (s6 _ _ (b5 _ _ xl g4));have sm7:Same Hm H7:=JN h0 sm ((((((b1.trans b2).trans s3.sb).trans s4.sb).trans b5).trans s6.sb).trans b7);have sm15:Same Hm H15:=fun b o h=>up7 (sm7 _ _ h) (nx h);have n2:∀{b},H8 b=none->b≠st:=fun h z=>by rw[z,g8]at h;cases h
 have xk:kn≠x/\kn≠st:=⟨fun z=>(by rw[z,s911 _ _ (s9 _ _ (s8 _ _ x7))]at hkn;cases hkn),fun z=>(by rw[z,s911 _ _ (s9 _ _ g8)]at hkn;cases hkn)⟩
 let A':GA:=⟨x,dx,bk,gv,l,nu,st⟩
 refine q A' H15 rfl rfl sm15 ⟨⟨x15,xs,sm15 _ _ hg,hw.mono sm15⟩,⟨e,up7 l7 xl,up7 e4 xe⟩,tt,e2,kn,vs,b15 _ _ xst g14,tk _ _ g13,tk _ _ ((s911.trans (s12.trans s13)) _ _ g9),fin (s13 _ _ gkn) xk.1 xk.2,by omega,?_⟩;rw[<-lx];exact UD tk _ (OL _) (z3.mono (s11.trans (s12.trans s13)))
end
end K4
namespace L2
open PySem PySem.Spec PyProof.Rows
def C6(K:W.Frag)(ta:TE)(f:Str):TG:=fun v U H Q=>ta U H fun x H1=>∃a C dx fs,x=.ref a/\H1 a=some (.ins C dx fs)/\Cls K C/\VH K C f/\fs.length<1000/\Q U (upd H1 a (.ins C dx (VX f v fs)))
theorem Bc(ha:PE X o ta):PG X (.Attribute o f pos) (C6 X.K ta f):=by
 intro pins s U H v u Q I r h;rw[assign_Attribute];refine Zl (wpAny_holding (thn (ha pins s U H _ I h) fun ov s1 ⟨x,H1,I1,rx,a,C,dx,fs,ex,ea,c,n,l,q⟩=>?_));subst ex;obtain rfl:ov=Value.ref a:=rx;refine Zl (wpAny_standAt (Zl (wpAny_holding (Xb I1 ea c n l r fun s3 I3=>?_))));exact wpAny_release ⟨U,_,I3,q⟩
structure OA where
 t:Addr
 dx:Addr
 gr:Addr
 F:Str
 pl:Addr
 kn:Addr
 bv:V
 wl:Addr
def Jz(A:OA):List (Str×V):=[("ground",.ref A.gr),("number",.int 0),("f",.str A.F),("place",.ref A.pl),("known",.ref A.kn),("body",A.bv),("waiting",.ref A.wl)]
structure OCl(K:W.Frag)(C:Addr):Prop where
 cl:Cls K C
 gr:VH K C "ground"
 nu:VH K C "number"
 f:VH K C "f"
 pl:VH K C "place"
 kn:VH K C "known"
 bd:VH K C "body"
 wt:VH K C "waiting"
structure GO(H:Hp)(C CG:Addr)(A:OA)(b:Bd)(x:Str)(i:Nat)(wos:List W):Prop where
 ins:H A.t=some (.ins C A.dx (Jz A))
 bd:Has H A.bv b.dat
 ok:b.ok
 pl:H A.pl=some (.tup [])
 kn:∃kvs v,H A.kn=some (.dK kvs)/\VF kvs (Sum.inr x)=some v/\Has H v (J4 i [])
 gv:∃G:GA,G.t=A.gr/\GV H CG G wos
mutual
theorem Bd.ti:∀b:Bd,b.dat.ti=true
 |.tag t=>by simp[Bd.dat,Dat.ti,Dat.tis]
 |.name x=>by simp[Bd.dat,Dat.ti,Dat.tis]
 |.pair a b=>by simp[Bd.dat,Dat.ti,Dat.tis,Bd.ti a,Bd.ti b]
 |.one e=>by simp[Bd.dat,Dat.ti,Dat.tis,Bd.ti e]
 |.other e=>by simp[Bd.dat,Dat.ti,Dat.tis,Bd.ti e]
 |.choose e ts bs=>by simp[Bd.dat,Dat.ti,Dat.tis,Bd.ti e,Bd.tib bs ts]
 |.ask f as=>by simp[Bd.dat,Dat.ti,Dat.tis,Bd.tis as]
 |.letb x k e b=>by simp[Bd.dat,Dat.ti,Dat.tis,Bd.ti e,Bd.ti b]
theorem Bd.tis:∀bs:List Bd,Dat.tis (Bd.dats bs)=true
 |[]=>by simp[Bd.dats,Dat.tis]
 |b::bs=>by simp[Bd.dats,Dat.tis,Bd.ti b,Bd.tis bs]
theorem Bd.tib:∀(bs:List Bd)(ts:List Str),Dat.tis (Bd.brs bs ts)=true
 |[],ts=>by unfold Bd.brs;simp[Dat.tis]
 |b::bs,[]=>by simp[Bd.brs,Dat.tis,Dat.ti,Bd.ti b,Bd.tib bs []]
 |b::bs,t::ts=>by simp[Bd.brs,Dat.tis,Dat.ti,Bd.ti b,Bd.tib bs ts]
end
theorem Ig:∀{ns:List Str}{us:List V}{i:Nat}{x:Str}{v:V},ns.Nodup->ns[i]?=some x->us[i]?=some v->VF (nmD ns us) (Sum.inr x)=some v
 |[],_,_,_,_,_,h1,_=>by simp at h1
 |_::_,[],_,_,_,_,_,h2=>by simp at h2
 |n::ns,u::us,0,_,_,_,h1,h2=>by
  cases h1;cases h2;exact Vw rfl
 |n::ns,u::us,i+1,x,_,nd,h1,h2=>by
  have nd':=List.nodup_cons.mp nd;have h1':ns[i]?=some x:=h1;refine(Vx (fun z=>nd'.1 ?_)).trans (Ig nd'.2 h1' h2);rw[show n=x from Sum.inr.inj z];exact ZJ h1'
end L2
namespace K4
open PySem L2
section
variable{C CK CG CO:Addr}
theorem CT:Yi ["self","ground","number"] ["self","ground","number"] (Yd Id):=Y2
theorem Ak(A:GA):(TZ A).lookup ("book":Str)=some (V.ref A.bk):=rfl
theorem Ah(A:GA):(TZ A).lookup ("starts":Str)=some (V.ref A.st):=rfl
theorem C4(A:BA):(UF A).lookup ("body_of":Str)=none:=rfl
inductive SOI(C CK CG CO:Addr)(H:Hp)(Q:VK):List V->Prop
 |mk (Hm:Hp) (x dx:Addr) (G:GA) (ks:List (Str×Shp)) (d:Str->Nat) (ds:List Dd) (df:Dd) (wos:List W) (i:Nat) (nm:Str) (h0:Hm x=none) (sm:Same Hm H) (hx:H x=some (.ins CO dx [])) (bi:BI Hm C CK G.bk ks d ds) (hd:df∈ds) (g:GD Hm CG G df.1.1 (df.1.2.1.map (·.1)) wos) (ok:df.2.ok) (ln:wos.length=df.1.2.1.length) (nd:(df.1.2.1.map (·.1)).Nodup) (hi:(df.1.2.1.map (·.1))[i]?=some nm)
  (q:∀(A:OA) H',A.t=x->A.gr=G.t->Same Hm H'->Hm A.wl=none->H' A.wl=some (.lst [])->GO H' CO CG A df.2 nm i wos->Q .non H'):SOI C CK CG CO H Q [.ref x,.ref G.t,.int 0]
def Pm(C CK CG CO:Addr):Sp:=fun vs H Q _=>SOI C CK CG CO H Q vs
theorem Sy(TB:BCl K C)(TG:GCl K CG)(TO:OCl K CO)(F:Fun K "__init__" "Going.__init__" Id f fd)(m:VO K C "body_of" g)(G:Yf P w K mg base CX0 n g gd ["self","F"] (R9 C CK))(bG:Binds K gd ["self","F"] []):Yf P w K mg base CX0 (n+1) f fd ["self","ground","number"] (Pm C CK CG CO):=by
 refine F.oi CT fun cdv A outer s H vs Q E hr h=>?_;obtain⟨Hm,x,dx,gA,ks,d,ds,df,wos,i,nm,h0,sm,hx,bi,hd,gd,ok,ln,nd,hi,q⟩:=h;have hu:=JF hr;refine⟨_,YY (VY (pv 0) (pv 1) rfl)
  (YY (VY (pv 0) (pv 2) rfl)
  (YY (UI (Vc hu (Yz (pv 1) rfl) (pv 2) (fun _ _=>rfl)) (Vi (n:=3) rfl (Yx (Bc (pv 0)) (Yx (Bc (pv 0)) (Yx (Bc (pv 0)) VW)))))
  (YY (VY (pv 0) (Y6 (Yz (pv 1) rfl) TB.cl m G hr bG .nil Y4 (pa1 (Yz (pv 0) rfl))) rfl)
  (YZ (VY (pv 0) (Vg Vj) rfl))))),?_⟩
 dsimp only[Vb,Cx.nox,Cx.wish];show let T0:=_;let T1:=Yk _ T0;let T2:=Yk _ T1;let T3:=Yk _ T2;Yk _ T3 _ _ _
 intros
 obtain⟨tt,e2,kn,us,st1,st2,st3,st4,st5,st6⟩:=gd.st;have nx:∀{b o},Hm b=some o->b≠x:=fun h=>Yc h h0;refine⟨x,CO,dx,_,rfl,hx,TO.cl,TO.gr,by decide,?_⟩;refine fld_in x _ fun H1 b1 x1=>⟨x,CO,dx,_,rfl,x1,TO.cl,TO.nu,(by show 1<1000;decide),?_⟩;refine fld_in x _ fun H2 b2 x2=>?_;have sm2:Same Hm H2:=JN h0 sm (b1.trans b2);refine⟨CG,_,_,_,sm2 _ _ gd.gv.ins,TG.cl,TG.st,Ah _,_,Vh.k (k:=Sum.inl 0) (sm2 _ _ st1),?_⟩;refine⟨_,Z2 (sm2 _ _ st2),rfl,x,CO,dx,_,rfl,x2,TO.cl,TO.f,(by show 2<1000;decide),?_⟩;refine fld_in x _ fun H3 b3 x3=>⟨x,CO,dx,_,rfl,x3,TO.cl,TO.pl,(by show 3<1000;decide),?_⟩;refine fld_in x _ fun H4 b4 x4=>⟨x,CO,dx,_,rfl,x4,TO.cl,TO.kn,(by show 4<1000;decide),?_⟩;refine fld_in x _ fun H5 b5 x5=>?_;have sm5:Same Hm H5:=JN h0 sm2 ((b3.trans b4).trans b5);obtain⟨A',kv,ea,b'⟩:=id (bi.mono sm5);refine⟨CG,_,_,_,sm5 _ _ gd.gv.ins,TG.cl,TG.bk,Ak _,_,_,by rw[<-ea];exact b'.ins,C4 _,?_⟩;refine⟨CO,_,_,_,x5,TO.cl,TO.f,rfl,gA.bk,ks,d,ds,df,bi.mono sm5,hd,fun v hv=>?_⟩;refine⟨x,CO,dx,_,rfl,x5,TO.cl,TO.bd,(by show 5<1000;decide),?_⟩;have sm0:=sm5;refine fld_in x _ fun H6 b6 x6=>⟨sl 0,fun wl hwl=>?_⟩;have xw:wl≠x:=(Yc x6 hwl).symm;have tk6:TK H5 H6:=fun b ys h=>b6 _ _ (fun z=>by rw[z,x5]at h;cases h) h;refine up_in hwl _ fun H7 s7 g7=>⟨x,CO,dx,_,rfl,s7 _ _ x6,TO.cl,TO.wt,(by show 6<1000;decide),?_⟩;refine fld_in x _ fun H8 b8 x8=>?_;have tk8:TK H6 H8:=fun b ys h=>b8 _ _ (fun z=>by rw[z,x6]at h;cases h) (s7 _ _ h);have sm8:Same Hm H8:=JN h0 sm5 ((b6.trans s7.sb).trans b8)
 have fw:Hm wl=none:=by
  cases e:Hm wl with
  |none=>rfl
  |some o=>have:=b6 _ _ xw (sm5 _ _ e);rw[hwl]at this;cases this
 have iu:i<us.length:=by
  have:=(ZF.mp hi).1;rw[ZA]at this;omega
 obtain⟨dd,hd1,hd2⟩:=st6.get (ZD iu);rw[ZH,List.getElem?_range (by omega)]at hd1;cases hd1
 let A':OA:=⟨x,dx,gA.t,df.1.1,e2,kn,v,wl⟩
 refine q A' H8 rfl rfl sm8 fw (b8 _ _ xw g7) ⟨x8,?_,ok,sm8 _ _ st3,⟨_,us[i],sm8 _ _ st4,Ig nd hi (ZD iu),hd2.mono sm8⟩,gA,rfl,gd.gv.mono sm8⟩;exact VP (fun b ys h=>tk8 _ _ (tk6 _ _ h)) _ (Bd.ti _) hv
end
end K4
namespace L2
open PySem
theorem W.ti:∀u:W,u.dat.ti=true
 |.non=>by simp[W.dat,Dat.ti]
 |.tag _=>by simp[W.dat,Dat.ti]
 |.pair a b=>by simp[W.dat,Dat.ti,Dat.tis,W.ti a,W.ti b]
theorem GV.sb(g:GV H C A wos)(s:SameB l H H')(hl:H l=some (.lst zs)):GV H' C A wos:=by
 obtain⟨xs,h1,h2⟩:=g.gv;have ne:∀{b o},H b=some o->(∀ys,o≠.lst ys)->b≠l:=fun h n z=>by rw[z,hl]at h;exact n _ (ZT h).symm
 have tk:TK H H':=fun b ys h=>s _ _ (ne h fun _ z=>by cases z) h;exact⟨s _ _ (ne g.ins fun _ z=>by cases z) g.ins,xs,tk _ _ h1,UD tk _ (J9 fun d hd=>by obtain⟨u,_,rfl⟩:=ZW.mp hd;exact W.ti u) h2⟩
theorem Jf(s:SameB l H H')(hl:H l=some (.lst zs)):TK H H':=fun b ys h=>s _ _ (fun z=>by rw[z,hl]at h;cases h) h
theorem GO.sb(g:GO H C CG A b x i wos)(s:SameB l H H')(hl:H l=some (.lst zs)):GO H' C CG A b x i wos:=by
 have ne:∀{b o},H b=some o->(∀ys,o≠.lst ys)->b≠l:=fun h n z=>by rw[z,hl]at h;exact n _ (ZT h).symm
 have tk:=Jf s hl;obtain⟨kvs,v,h1,h2,h3⟩:=g.kn;obtain⟨G,e,h4⟩:=g.gv;exact⟨s _ _ (ne g.ins fun _ z=>by cases z) g.ins,VP tk _ (Bd.ti _) g.bd,g.ok,tk _ _ g.pl,⟨kvs,v,s _ _ (ne h1 fun _ z=>by cases z) h1,h2,VP tk _ (We _ _) h3⟩,G,e,h4.sb s hl⟩
theorem GO.mono(g:GO H C CG A b x i wos)(s:Same H H'):GO H' C CG A b x i wos:=by
 obtain⟨kvs,v,h1,h2,h3⟩:=g.kn;obtain⟨G,e,h4⟩:=g.gv;exact⟨s _ _ g.ins,g.bd.mono s,g.ok,s _ _ g.pl,⟨kvs,v,s _ _ h1,h2,h3.mono s⟩,G,e,h4.mono s⟩
inductive Sx where
 |body (ws:List Int)|thing (ws:List Int)|hd (ws:List Int)
def Sx.on(H:Hp)(kn:Addr)(i:Nat)(wo:W)(u:V):Sx->Prop
 |.body ws=>∃t p,u=.ref t/\H t=some (.tup [.str "body",.ref p,.ref kn])/\H p=some (.tup (ws.map V.int))
 |.thing ws=>Has H u (.tup [.str "thing",J4 i ws])
 |.hd ws=>Has H u (hgD i ws (wo.part ws))
def WE(H:Hp)(kn:Addr)(z:V)(c:Bd×List Int):Prop:=∃t bv p,z=.ref t/\H t=some (.tup [bv,.ref p,.ref kn])/\Has H bv c.1.dat/\H p=some (.tup (c.2.map V.int))
def WL(H:Hp)(kn:Addr)(zs:List V)(l:List (Bd×List Int)):Prop:=zs.length=l.length/\∀(k:Nat) z c,zs[k]?=some z->l[k]?=some c->WE H kn z c
theorem WE.tk(h:WE H kn z c)(tk:TK H H'):WE H' kn z c:=by
 obtain⟨t,bv,p,e,h1,h2,h3⟩:=h;exact⟨t,bv,p,e,tk _ _ h1,VP tk _ (Bd.ti _) h2,tk _ _ h3⟩
theorem WL.tk(h:WL H kn zs l)(tk:TK H H'):WL H' kn zs l:=⟨h.1,fun k z c h1 h2=>(h.2 k z c h1 h2).tk tk⟩
theorem WL.snoc(h:WL H kn zs l)(e:WE H kn z c):WL H kn (zs++[z]) (l++[c]):=by
 refine⟨by rw[ZL,ZL,h.1];rfl,fun k y d h1 h2=>?_⟩;rcases Nat.lt_or_ge k zs.length with hk|hk
 .rw [List.getElem?_append_left hk]at h1
  rw[List.getElem?_append_left (by rw[<-h.1];exact hk)]at h2;exact h.2 k y d h1 h2
 .rw [List.getElem?_append_right hk]at h1
  rw[List.getElem?_append_right (by rw[<-h.1];exact hk)]at h2;rw[<-h.1]at h2
  cases hz:k-zs.length with
  |zero=>
   rw[hz]at h1 h2;cases h1;cases h2;exact e
  |succ m=>rw[hz]at h1;simp at h1
theorem WL.last(h:WL H kn zs (l++[c])):∃ys z,zs=ys++[z]/\WL H kn ys l/\WE H kn z c:=by
 have e:=h.1;rw[ZL,List.length_singleton]at e;have n0:zs≠[]:=fun z=>by rw[z]at e;simp at e
 refine⟨zs.dropLast,zs.getLast n0,(List.dropLast_concat_getLast n0).symm,⟨by rw[List.length_dropLast];omega,fun k z d h1 h2=>?_⟩,?_⟩
 .have kl:=(ZF.mp h2).1
  rw[List.getElem?_dropLast,Zp (by omega)]at h1;exact h.2 k z d h1 (by rw[List.getElem?_append_left kl];exact h2)
 .refine h.2 l.length _ _ ?_ (by rw[List.getElem?_append_right (ZG _),Nat.sub_self];rfl)
  rw[List.getLast_eq_getElem];rw[show l.length=zs.length-1 by omega];exact ZD _
def Bd.sel:Bd->Option Int
 |.one _=>some 0
 |.other _=>some 1
 |_=>none
inductive Goes(b:Bd)(x:Str)(i:Nat)(wo:W):Nat->Sx->List (Bd×List Int)->Dat->Prop
 |never (h:wo.part ws=.non):Goes b x i wo 0 (.hd ws) l (hgD i ws .non)
 |head:Goes b x i wo 0 (.hd ws) [] (hgD i ws (wo.part ws))
 |name (h:b.at ws=some (.name x)) (g:Goes b x i wo n (.thing []) l d):Goes b x i wo (n+1) (.body ws) l d
 |tag (h:b.at ws=some (.tag t)) (e:wo.part us=.tag t) (g:Goes b x i wo n (.hd us) l d):Goes b x i wo (n+1) (.body ws) l d
 |push (h:b.at ws=some c) (e:(∃k,c.sel=some k) \/ ∃e ts bs,c=.choose e ts bs) (lw:ws.length<=50) (ll:l.length<=50) (g:Goes b x i wo n (.body (ws++[0])) (l++[(c,ws)]) d):Goes b x i wo (n+1) (.body ws) l d
 |given (lw:ws.length<=50) (hw:Way ws) (g:Goes b x i wo n (.hd ws) l d):Goes b x i wo (n+1) (.thing ws) l d
 |sel (h:wo.part ws=.pair u v) (e:c.sel=some k) (g:Goes b x i wo n (.thing (ws++[k])) l d):Goes b x i wo (n+1) (.hd ws) (l++[(c,pl)]) d
 |cho {j:Nat}(h:wo.part ws=.tag t) (nt:ts.Nodup) (lt:ts.length<=50) (lb:bs.length=ts.length) (ht:ts[j]?=some t) (lp:pl.length<=50) (g:Goes b x i wo n (.body (pl++[1+(j:Int)])) l d):Goes b x i wo (n+1) (.hd ws) (l++[(.choose e ts bs,pl)]) d
end L2
namespace K4
open PySem L2
section
variable{C CK CG CO:Addr}
theorem AO(A:OA):(Jz A).lookup ("ground":Str)=some (V.ref A.gr):=rfl
theorem AS(A:OA):(Jz A).lookup ("body":Str)=some A.bv:=rfl
theorem RN(A:OA):(Jz A).lookup ("waiting":Str)=some (V.ref A.wl):=rfl
theorem AL(A:OA):(Jz A).lookup ("place":Str)=some (V.ref A.pl):=rfl
theorem AN(A:OA):(Jz A).lookup ("known":Str)=some (V.ref A.kn):=rfl
theorem PB(A:GA):(TZ A).lookup ("head_given":Str)=none:=rfl
theorem Ca:Yi ["self","thing"] ["self","thing"] (Yd Xg):=Y2
inductive SFT(CG CO:Addr)(H:Hp)(Q:VK):List V->Prop
 |mk (A:OA) (b:Bd) (x:Str) (i:Nat) (wos:List W) (wo:W) (y:V) (ws:List Int) (g:GO H CO CG A b x i wos) (hi:wos[i]?=some wo) (l3:wos.length<=3) (hy:Has H y (J4 i ws)) (hw:Way ws) (lw:ws.length<=100)
  (q:∀u H',Same H H'->Has H' u (hgD i ws (wo.part ws))->Q u H'):SFT CG CO H Q [.ref A.t,y]
def Pr(CG CO:Addr):Sp:=fun vs H Q _=>SFT CG CO H Q vs
theorem AC(TG:GCl K CG)(TO:OCl K CO)(F:Fun K "from_thing" "Going.from_thing" Xg f fd)(m:VO K CG "head_given" g)(G:Yf P w K mg base CX0 n g gd iwy (LB CG))(bG:Binds K gd iwy []):Yf P w K mg base CX0 (n+1) f fd ["self","thing"] (Pr CG CO):=by
 refine F.oi Ca fun cdv A outer s H vs Q E hr h=>?_;obtain⟨A',b,x,i,wos,wo,y,ws,g,hi,l3,hy,hw,lw,q⟩:=h;refine⟨_,YY (Y0 (Yn VQ (Yj (r:=VS K) Ym (pv 1) (Ya)) Yw (Yv _)) Vk Yl)
  (YY (Y0 (Yn VQ (Yj (r:=VS K) Ym (pv 1) (Ya)) Yw (Yv _)) (YZ (Yh (Y6 (Yz (pv 0) rfl) TG.cl m G hr bG .nil Y4 (pa2 (Yj (r:=VS K) Ym (pv 1) (Ya)) (Yj (r:=VS K) Ym (pv 1) (Ya)))))) Yl)
  Vk),?_⟩
 dsimp only[Vb,Cx.nox,Cx.wish];show let T0:=_;let T1:=Yk (VC _ T0 _) _;Yk (VC _ _ _) T1 _ _ _
 intros
 unfold J4 at hy;obtain⟨t,ys,rfl,ht,hl⟩:=Yr hy;obtain⟨x1,r1,rfl,e1,hlA⟩:=Yb hl;obtain⟨x2,r2,rfl,e2,hlB⟩:=Yb hlA;obtain⟨x3,r3,rfl,e3,hlC⟩:=Yb hlB;obtain rfl:=Y8 hlC;obtain rfl:=has_str e1;obtain rfl:x2=.int (i:Nat):=by unfold Has at e2;exact e2
 have sq:=Z2 (K:=K) ht;refine⟨_,_,sq,rfl,rfl,_,rfl,Yy (by decide +kernel) ?_⟩;refine⟨_,_,sq,rfl,rfl,_,rfl,VE (by decide +kernel) ?_⟩;obtain⟨gA,eg,gv⟩:=g.gv;refine⟨CO,_,_,_,g.ins,TO.cl,TO.gr,AO _,?_⟩;rw[<-eg];refine⟨_,_,gv.ins,PB _,_,_,sq,rfl,_,_,sq,rfl,gA,wos,i,wo,_,ws,gv,hi,l3,e3,hw,lw,q⟩
end
section
variable{C CK CG CO:Addr}
theorem SZ:Yi ["self","place","known","body"] ["self","place","known"] (Yd WY):=Y2
def Tu(c:Bd):Prop:=(∃k,c.sel=some k) \/ ∃e ts bs,c=.choose e ts bs
inductive SFB(CG CO:Addr)(H:Hp)(Q:VK):List V->Prop
 |mk (A:OA) (b:Bd) (x:Str) (i:Nat) (wos:List W) (wo:W) (p:Addr) (ws:List Int) (c:Bd) (zs:List V) (g:GO H CO CG A b x i wos) (hp:H p=some (.tup (ws.map V.int))) (hc:b.at ws=some c) (hz:H A.wl=some (.lst zs)) (lz:Tu c->zs.length<=100) (lw:Tu c->ws.length<=100) (cc:(∃t,c=.tag t)\/c=.name x\/Tu c)
  (q1:∀t,c=.tag t->∀u H',Same H H'->Has H' u (.tup [.str "head",.tup [.str "tag",.str t]])->Q u H') (q2:c=.name x->∀u H',Same H H'->Has H' u (.tup [.str "thing",J4 i []])->Q u H')
  (q3:Tu c->∀u z H',SameB A.wl H H'->H' A.wl=some (.lst (zs++[z]))->WE H' A.kn z (c,ws)->(Sx.body (ws++[0])).on H' A.kn i wo u->Q u H'):SFB CG CO H Q [.ref A.t,.ref p,.ref A.kn]
def Pu(CG CO:Addr):Sp:=fun vs H Q _=>SFB CG CO H Q vs
theorem EB{c:Bd}(h:Tu c):∃wd ds,c.dat=.tup (.str wd::ds)/\wd≠"tag" /\wd≠"name" /\wd≠"pair" /\wd≠"ask" /\wd≠"let":=by
 rcases h with⟨k,e⟩|⟨e,ts,bs,rfl⟩
 .cases c <;> first|(exact⟨_,_,by unfold Bd.dat;rfl,by decide +kernel,by decide +kernel,by decide +kernel,by decide +kernel,by decide +kernel⟩)|(unfold Bd.sel at e;cases e)
 .exact ⟨_,_,by unfold Bd.dat;rfl,by decide +kernel,by decide +kernel,by decide +kernel,by decide +kernel,by decide +kernel⟩
theorem at0{v:V}{r:List V}:atI (v::r) 0=some v:=Y5 (j:=0) rfl
theorem at1{u v:V}{r:List V}:atI (u::v::r) 1=some v:=Y5 (j:=1) rfl
theorem at2{u v z:V}{r:List V}:atI (u::v::z::r) 2=some z:=Y5 (j:=2) rfl
theorem XY{a b:Str}(h:a≠b):¬decide (V.str a=V.str b)=true:=fun z=>h (by have:=Zt z;injection this)
theorem AG(TO:OCl K CO)(F:Fun K "from_body" "Going.from_body" WY f fd)(DP:Df P w K mg base n "part_at" ["body","place"] WG):Yf P w K mg base CX0 (n+1) f fd ["self","place","known"] (Pu CG CO):=by
 refine F.oi SZ fun cdv A outer s H vs Q E hr h=>?_;obtain⟨A',b,x,i,wos,wo,p,ws,c,zs,g,hp,hc,hz,lz,lw,cc,q1,q2,q3⟩:=h;have hu:=JF hr;refine⟨_,YY (Yu 3 SZ.nd (VJ DP hr (pa2 (Yz (pv 0) rfl) (pv 1))))
  (YY (Y0 (Yn VQ (Yj (r:=VS K) Ym (pv 3) (Ya)) Yw (Yv _)) (YZ (Yh (Yt (pa2 (Yw) (pv 3))))) Yl)
  (YY (Y0 (Yn VQ (Yj (r:=VS K) Ym (pv 3) (Ya)) Yw (Yv _)) (YZ (Yh (Yt (pa2 (Yw) (Vc hu (pv 2) (Yj (r:=VS K) Ym (pv 3) (Ya)) (fun _ _=>rfl)))))) Yl)
  (YY (Y0 (Yn VQ (Yj (r:=VS K) Ym (pv 3) (Ya)) Yw (Yv _)) Vk Yl)
  (YY (Y0 (Yn VQ (Yj (r:=VS K) Ym (pv 3) (Ya)) Yw (Yv _)) Vk Yl)
  (YY (Y0 (Yn VQ (Yj (r:=VS K) Ym (pv 3) (Ya)) Yw (Yv _)) Vk Yl)
  (YY (Vm (XU Zz Z0 Z1 Je (Yz (pv 0) rfl) (pa1 (Yt (pa3 (pv 3) (pv 1) (pv 2))))))
  (YZ (Yh (Yt (pa3 (Yw) (VB (r:=fun x y H Q=>Ux K x y H Q\/Uw K x y H Q) Ue (pv 1) (Yt (pa1 (Ya)))) (pv 2))))))))))),?_⟩
 dsimp only[Vb,Cx.nox,Cx.wish];show let T0:=_;let T1:=Yk _ T0;let T2:=Yk (VC _ _ _) T1;let T3:=Yk (VC _ _ _) T2;let T4:=Yk (VC _ _ _) T3;let T5:=_;let T6:=Yk (VC _ T5 _) T4;let T7:=_;let T8:=Yk (VC _ T7 _) T6;Yk _ T8 _ _ _
 intros
 refine⟨CO,_,_,_,g.ins,TO.cl,TO.bd,AS _,?_⟩;refine⟨_,p,b,c,ws,g.bd,g.ok,hp,hc,fun u H1 s1 hu1=>?_⟩;have g1:=g.mono s1;rcases cc with⟨t,rfl⟩|rfl|cc
 .have hu2:=hu1
  unfold Bd.dat at hu1;obtain⟨a,ys,rfl,ht,hl⟩:=Yr hu1;obtain⟨x1,r1,rfl,e1,hlA⟩:=Yb hl;obtain rfl:=has_str e1;refine⟨_,_,Z2 ht,at0,rfl,_,rfl,VE (by decide +kernel) ⟨sl 2,fun r hr'=>?_⟩⟩;refine up_in hr' _ fun H2 s2 g2=>q1 t rfl _ _ (s1.trans s2) ?_;unfold Bd.dat at hu2;exact Y1 g2 (Z4 VD (Z5 (hu2.mono s2)))
 .unfold Bd.dat at hu1
  obtain⟨a,ys,rfl,ht,hl⟩:=Yr hu1;obtain⟨x1,r1,rfl,e1,hlA⟩:=Yb hl;obtain⟨x2,r2,rfl,e2,hlB⟩:=Yb hlA;obtain rfl:=Y8 hlB;obtain rfl:=has_str e1;obtain rfl:=has_str e2;refine⟨_,_,Z2 ht,at0,rfl,_,rfl,Yy (by decide +kernel) ?_⟩;refine⟨_,_,Z2 ht,at0,rfl,_,rfl,VE (by decide +kernel) ?_⟩;obtain⟨kvs,v,k1,k2,k3⟩:=g1.kn;refine⟨_,_,Z2 ht,at1,v,by rw[<-k2];exact Vh.k (k:=Sum.inr x) k1,⟨sl 2,fun r hr'=>?_⟩⟩;refine up_in hr' _ fun H2 s2 g2=>q2 rfl _ _ (s1.trans s2) ?_;exact Y1 g2 (Z4 VD (Z5 (k3.mono s2)))
 .have lz:=lz cc
  have lw:=lw cc;obtain⟨wd,ds,ed,n1,n2,n3,n4,n5⟩:=EB cc;have hu2:=hu1;rw[ed]at hu1;obtain⟨a,ys,rfl,ht,hl⟩:=Yr hu1;obtain⟨x1,r1,rfl,e1,hlA⟩:=Yb hl;obtain rfl:=has_str e1;refine⟨_,_,Z2 ht,at0,rfl,_,rfl,Yy (XY n1) ?_⟩;refine⟨_,_,Z2 ht,at0,rfl,_,rfl,Yy (XY n2) ?_⟩;refine⟨_,_,Z2 ht,at0,rfl,_,rfl,Yy (XY n3) ?_⟩;refine⟨_,_,Z2 ht,at0,rfl,_,rfl,Yy (XY n4) ?_⟩;refine⟨_,_,Z2 ht,at0,rfl,_,rfl,Yy (XY n5) ?_⟩;refine⟨CO,_,_,_,g1.ins,TO.cl,TO.wt,RN _,.inl ⟨rfl,_,Z3 (s1 _ _ hz)⟩,sl 3,fun r hr'=>?_⟩;refine up_in hr' _ fun H2 s2 g2=>⟨A'.wl,_,_,rfl,rfl,s2 _ _ (s1 _ _ hz),Yq (by omega),?_⟩;refine fld_in A'.wl _ fun H3 b3 g3=>⟨sl 1,fun o ho=>?_⟩;have tk3:=Jf b3 (s2 _ _ (s1 _ _ hz));refine up_in ho _ fun H4 s4 g4=>?_;have hp4:Has H4 (.ref p) (JG ws):=U8 (s4 _ _ (tk3 _ _ (s2 _ _ (s1 _ _ hp))));refine XT hp4 (XG g4) (by simp) (by simp;omega) fun u5 H5 s5 h5=>⟨sl 3,fun t6 ht6=>?_⟩;refine up_in ht6 _ fun H6 s6 g6=>?_;have s36:=(s4.trans s5).trans s6;obtain⟨a5,rfl,ha5⟩:=Jq h5;refine q3 cc _ (.ref r) H6 (((s1.trans s2).sb.trans b3).trans s36.sb) (s36 _ _ g3) ⟨r,_,p,rfl,s36 _ _ (tk3 _ _ g2),(VP tk3 _ (Bd.ti _) (hu2.mono s2)).mono s36,s36 _ _ (tk3 _ _ (s2 _ _ (s1 _ _ hp)))⟩ ⟨t6,a5,rfl,g6,s6 _ _ ha5⟩
end
end K4
namespace L2
open PySem
theorem Kp:∀{bs:List Bd}{ts:List Str}{k:Nat}{d:Dat},(Bd.brs bs ts)[k]?=some d->∃t b,ts[k]?=some t/\d=.tup [.str t,Bd.dat b]
 |[],_,k,d,h=>by unfold Bd.brs at h;simp at h
 |_::_,[],k,d,h=>by unfold Bd.brs at h;simp at h
 |b::bs,t::ts,0,d,h=>by unfold Bd.brs at h;cases h;exact⟨t,b,rfl,rfl⟩
 |b::bs,t::ts,k+1,d,h=>by unfold Bd.brs at h;exact Kp (bs:=bs) (ts:=ts) h
end L2
namespace K4
open PySem L2
section
variable{C CK CG CO:Addr}
theorem N7:Yi ["self","head","body","place","known","number","tag","branch"] ["self","head"] (Yd WX):=Y2
def Tw(t:Str):Dat:=.tup [.str "tag",.str t]
inductive SFH(CG CO:Addr)(H:Hp)(Q:VK):List V->Prop
 |sel (A:OA) (b:Bd) (x:Str) (i:Nat) (wos:List W) (y:V) (ws:List Int) (c:Bd) (k:Int) (pl:List Int) (ys:List V) (z:V) (g:GO H CO CG A b x i wos) (hz:H A.wl=some (.lst (ys++[z]))) (we:WE H A.kn z (c,pl)) (hy:Has H y (.tup [.str "pair",J4 i (ws++[0]),J4 i (ws++[1])])) (e:c.sel=some k)
  (q:∀u H',SameB A.wl H H'->H' A.wl=some (.lst ys)->Has H' u (.tup [.str "thing",J4 i (ws++[k])])->Q u H'):SFH CG CO H Q [.ref A.t,y]
 |cho (A:OA) (b:Bd) (x:Str) (i:Nat) (wos:List W) (wo:W) (y:V) (t:Str) (e:Bd) (ts:List Str) (bs:List Bd) (j:Nat) (pl:List Int) (ys:List V) (z:V) (g:GO H CO CG A b x i wos) (hz:H A.wl=some (.lst (ys++[z]))) (we:WE H A.kn z (.choose e ts bs,pl)) (hy:Has H y (Tw t)) (nt:ts.Nodup) (lt:ts.length<=50) (lb:bs.length=ts.length) (ht:ts[j]?=some t) (lp:pl.length<=50)
  (q:∀u H',SameB A.wl H H'->H' A.wl=some (.lst ys)->(Sx.body (pl++[1+(j:Int)])).on H' A.kn i wo u->Q u H'):SFH CG CO H Q [.ref A.t,y]
def Ps(CG CO:Addr):Sp:=fun vs H Q _=>SFH CG CO H Q vs
theorem AF(me:mg "enumerate"=none)(TO:OCl K CO)(F:Fun K "from_head" "Going.from_head" WX f fd):Yf P w K mg base CX0 (n+4) f fd ["self","head"] (Ps CG CO):=by
 refine F.oi N7 (len:=fun vs H Q E h=>by cases h <;> rfl) fun cdv A outer s H vs Q E hr h=>?_;refine⟨_,YY (UI (IH Zz PySem.F.slot_list_pop PySem.F.type_list_pop Il (Yz (pv 0) rfl)) (Vi (n:=3) rfl (Yx (Yp 2 N7.nd) (Yx (Yp 3 N7.nd) (Yx (Yp 4 N7.nd) VW)))))
  (YY (Y0 (Yn VQ (Yj (r:=VS K) Ym (pv 2) (Ya)) Yw (Yv _)) (YZ (V1 Zv rfl (GQ rfl me (pa1 (Yj (r:=VS K) Ym (pv 2) (Ya)))) (Vi (n:=2) rfl (Yx (Yp 5 N7.nd) (Yx (Vi (n:=2) rfl (Yx (Yp 6 N7.nd) (Yx (Yp 7 N7.nd) VW))) VW)))
   (YZ (Y0 (Yn (QL hr) (pv 1) (Yt (pa2 (Yw) (pv 6))) (Yv _)) (YZ (Yh (Yt (pa3 (Yw) (VB (r:=fun x y H Q=>Ux K x y H Q\/Uw K x y H Q) Ue (pv 3) (Yt (pa1 (VB V9 Ya (pv 5))))) (pv 4))))) Yl)))) (YZ (Y0 (Yn VQ (Yj (r:=VS K) Ym (pv 1) (Ya)) Yw (Yv _)) (YZ (Yh (Yt (pa2 (Yw) (Fx (Yn VQ (Yj (r:=VS K) Ym (pv 2) (Ya)) Yw (Yv _)) (Yj (r:=VS K) Ym (pv 1) (Ya)) (Yj (r:=VS K) Ym (pv 1) (Ya))))))) Yl)))
  Vk),?_⟩
 dsimp only[Vb,Cx.nox,Cx.wish];show let T0:=_;let T1:=VC _ T0 _;let T2:=UH _ _ T1;let T3:=_;let T4:=VC _ T3 _;let T5:=Yk (VC _ T2 T4) _;Yk _ T5 _ _ _
 intros
 rcases h with⟨A',b,x,i,wos,y,ws,c,k,pl,ys,z,g,hz,we,hy,e,q⟩|⟨A',b,x,i,wos,wo,y,t,e,ts,bs,j,pl,ys,z,g,hz,we,hy,nt,lt,lb,ht,lp,q⟩
 .obtain ⟨tz,bv,p,rfl,hz1,hz2,hz3⟩:=we
  refine⟨CO,_,_,_,g.ins,TO.cl,TO.wt,RN _,.inl ⟨rfl,_,Z3 hz⟩,A'.wl,_,_,rfl,rfl,hz,by rw[ZL,List.length_singleton,Nat.add_sub_cancel,List.getElem?_append_right (ZG _),Nat.sub_self];rfl,?_⟩;rw[List.dropLast_concat];refine fld_in A'.wl _ fun H1 b1 g1=>?_;have tk:=Jf b1 hz;refine⟨_,Z2 (tk _ _ hz1),rfl,?_⟩
  obtain⟨wd,ds,ed,nc,ok⟩:∃wd ds,c.dat=.tup (.str wd::ds)/\wd≠"choose" /\(wd="one" /\k=0\/wd≠"one" /\k=1):=by
   cases c <;> first|(exact⟨_,_,by unfold Bd.dat;rfl,by decide +kernel,.inl ⟨rfl,by unfold Bd.sel at e;cases e;rfl⟩⟩)|(exact⟨_,_,by unfold Bd.dat;rfl,by decide +kernel,.inr ⟨by decide +kernel,by unfold Bd.sel at e;cases e;rfl⟩⟩)|(unfold Bd.sel at e;cases e)
  have hb:=VP tk _ (Bd.ti c) hz2;rw[ed]at hb;obtain⟨a,bs,rfl,hb1,hl⟩:=Yr hb;obtain⟨x1,r1,rfl,e1,hlA⟩:=Yb hl;obtain rfl:=has_str e1;refine⟨_,_,Z2 hb1,at0,rfl,_,rfl,Yy (XY nc) ?_⟩;have hy1:=VP tk _ (by simp[Dat.ti,Dat.tis,We]) hy;obtain⟨a2,us,rfl,ha2,hl2⟩:=Yr hy1;obtain⟨y1,r1,rfl,f1,hm1⟩:=Yb hl2;obtain⟨y2,r2,rfl,f2,hm2⟩:=Yb hm1;obtain⟨y3,r3,rfl,f3,hm3⟩:=Yb hm2;obtain rfl:=Y8 hm3;obtain rfl:=has_str f1;refine⟨_,_,Z2 ha2,at0,rfl,_,rfl,VE (by decide +kernel) ?_⟩;refine⟨_,_,Z2 hb1,at0,rfl,_,rfl,?_⟩;rcases ok with⟨rfl,rfl⟩|⟨n1,rfl⟩
  .refine VE (by decide +kernel) ⟨_,_,Z2 ha2,at1,sl 2,fun r hr'=>?_⟩
   refine up_in hr' _ fun H2 s2 g2=>q _ _ (b1.trans s2.sb) (s2 _ _ g1) ?_;exact Y1 g2 (Z4 VD (Z5 (f2.mono s2)))
  .refine Yy (XY n1) ⟨_,_,Z2 ha2,at2,sl 2,fun r hr'=>?_⟩
   refine up_in hr' _ fun H2 s2 g2=>q _ _ (b1.trans s2.sb) (s2 _ _ g1) ?_;exact Y1 g2 (Z4 VD (Z5 (f3.mono s2)))
 .obtain ⟨tz,bv,p,rfl,hz1,hz2,hz3⟩:=we
  refine⟨CO,_,_,_,g.ins,TO.cl,TO.wt,RN _,.inl ⟨rfl,_,Z3 hz⟩,A'.wl,_,_,rfl,rfl,hz,by rw[ZL,List.length_singleton,Nat.add_sub_cancel,List.getElem?_append_right (ZG _),Nat.sub_self];rfl,?_⟩;rw[List.dropLast_concat];refine fld_in A'.wl _ fun H1 b1 g1=>?_;have tk:=Jf b1 hz;refine⟨_,Z2 (tk _ _ hz1),rfl,?_⟩;have hb:=VP tk _ (Bd.ti _) hz2;unfold Bd.dat at hb;obtain⟨a,bs',rfl,hb1,hl⟩:=Yr hb;obtain⟨x1,r1,rfl,e1,hlA⟩:=Yb hl;obtain⟨x2,r2,rfl,e2,hlB⟩:=Yb hlA;obtain⟨x3,r3,rfl,e3,hlC⟩:=Yb hlB;obtain rfl:=Y8 hlC;obtain rfl:=has_str e1;obtain⟨tb,xs,rfl,htb,hxs⟩:=Yr e3;have lx:=hxs.length;rw[brs_len lb]at lx;have jl:=(ZF.mp ht).1;refine⟨_,_,Z2 hb1,at0,rfl,_,rfl,VE (by decide +kernel) ?_⟩;refine⟨_,_,Z2 hb1,at2,tb,true,xs,rfl,Z2 htb,?_⟩;have hy1:Has H1 y (Tw t):=VP tk _ (by simp[Tw,Dat.ti,Dat.tis]) hy;have hp1:Has H1 (.ref p) (JG pl):=U8 (tk _ _ hz3)
  let I:Nat->St->Hp->Prop:=fun k U H'=>Same H1 H'/\k<=j/\∃z5 z6 z7,U=[some (.ref A'.t),some y,some (.ref a),some (.ref p),some (.ref A'.kn),z5,z6,z7]
  refine Te (tp:=true) (xs:=xs) I ⟨Z8 _,Zc _,_,_,_,rfl⟩ (fun k U H' _ z=>Z2 (z.1 _ _ htb)) ?_ ?_
  .rintro k v U H' r hv ⟨s1,kj,z5,z6,z7,rfl⟩ hr'
   refine up_in hr' _ fun H2 s2 g2=>?_;have s12:=s1.trans s2;obtain⟨d,hd1,hd2⟩:=hxs.get hv;obtain⟨tk',bk,ht',rfl⟩:=Kp hd1;have hd3:=hd2.mono s12;obtain⟨av,us,rfl,hav,hl3⟩:=Yr hd3;obtain⟨y1,r1,rfl,f1,hm1⟩:=Yb hl3;obtain⟨y2,r2,rfl,f2,hm2⟩:=Yb hm1;obtain rfl:=Y8 hm2;obtain rfl:=has_str f1;refine⟨_,Z2 g2,rfl,⟨_,Z2 hav,rfl,sl 2,fun tq htq=>?_⟩⟩;refine up_in htq _ fun H3 s3 g3=>?_;have s13:=s12.trans s3;have dd:(Tw t).dep<=n+2:=by simp[Tw,Dat.dep,Dat.deps]
   refine⟨Tw t,Tw tk',hy1.mono s13,UY g3,dd,_,rfl,?_⟩
   have epq:(Tw t).pq (Tw tk')=decide (t=tk'):=by
    simp only[Tw,Dat.pq,Dat.pqs,Bool.and_true,beq_self_eq_true,Bool.true_and];rw[Bool.eq_iff_iff];simp
   by_cases ej:k=j
   .subst ej
    rw[ht]at ht';cases ht';refine VE (by rw[epq];simp) ?_;refine⟨sl 1,fun to hto=>?_⟩;refine up_in hto _ fun H4 s4 g4=>?_;refine XT (hp1.mono (s13.trans s4)) (XG g4) (by simp) (by simp;omega) fun u5 H5 s5 h5=>⟨sl 3,fun t6 ht6=>?_⟩;refine up_in ht6 _ fun H6 s6 g6=>?_;obtain⟨a5,rfl,ha5⟩:=Jq h5;have s16:=((s13.trans s4).trans s5).trans s6;exact q _ _ (b1.trans s16.sb) (s16 _ _ g1) ⟨t6,a5,rfl,g6,s6 _ _ ha5⟩
   .have ne:¬t=tk':=fun z=>by
     subst z;have kl:=(ZF.mp ht').1;exact List.pairwise_iff_getElem.mp nt k j kl jl (by omega) ((ZF.mp ht').2.trans (ZF.mp ht).2.symm)
    refine Yy (by rw[epq];simp[ne]) ⟨s13,by omega,_,_,_,rfl⟩
  .rintro U H' ⟨s1,kj,_⟩
   exact Zr kj (by omega)
end
section
variable{C CK CG CO:Addr}
theorem Ib(A:OA):(Jz A).lookup ("from_body":Str)=none:=rfl
theorem AR(A:OA):(Jz A).lookup ("from_thing":Str)=none:=rfl
theorem O1(A:OA):(Jz A).lookup ("from_head":Str)=none:=rfl
theorem AQ(A:OA):(Jz A).lookup ("go_on":Str)=none:=rfl
theorem GS(h:Tu (.name y)):False:=by rcases h with⟨k,e⟩|⟨_,_,_,e⟩ <;> cases e
theorem Me(h:Tu (.tag y)):False:=by rcases h with⟨k,e⟩|⟨_,_,_,e⟩ <;> cases e
theorem OG{w:W}(h:Has H u (hgD i ws w)):∃t wd r,u=.ref t/\H t=some (.tup (.str wd::r))/\(wd="never" \/ wd="head"):=by
 cases w <;> (unfold hgD at h;obtain⟨t,ys,rfl,ht,hl⟩:=Yr h;obtain⟨x1,r1,rfl,e1,hlA⟩:=Yb hl;obtain rfl:=has_str e1;exact⟨t,_,_,rfl,ht,by first|exact .inl rfl|exact .inr rfl⟩)
theorem De:Yi ["self","state"] ["self","state"] (Yd Ie):=Y2
inductive Az(CG CO:Addr)(H:Hp)(Q:VK):List V->Prop
 |mk (A:OA) (b:Bd) (x:Str) (i:Nat) (wos:List W) (wo:W) (u:V) (n:Nat) (s:Sx) (l:List (Bd×List Int)) (zs:List V) (d:Dat) (g:GO H CO CG A b x i wos) (hi:wos[i]?=some wo) (l3:wos.length<=3) (hz:H A.wl=some (.lst zs)) (wl:WL H A.kn zs l) (hs:s.on H A.kn i wo u) (gs:Goes b x i wo n s l d)
  (q:∀v zs' H',SameB A.wl H H'->H' A.wl=some (.lst zs')->Has H' v d->Q v H'):Az CG CO H Q [.ref A.t,u]
def FN(CG CO:Addr):Sp:=fun vs H Q _=>Az CG CO H Q vs
theorem AA(B:Blt mg)(TO:OCl K CO)(F:Fun K "go_on" "Going.go_on" Ie f fd)(mB:VO K CO "from_body" fB)(GB:Yf P w K mg base CX0 n fB fBd ["self","place","known"] (Pu CG CO))(bB:Binds K fBd ["self","place","known"] [])(mT:VO K CO "from_thing" fT)(GT:Yf P w K mg base CX0 n fT fTd ["self","thing"] (Pr CG CO))(bT:Binds K fTd ["self","thing"] [])(mH:VO K CO "from_head" fH)(GH:Yf P w K mg base CX0 n fH fHd ["self","head"] (Ps CG CO))(bH:Binds K fHd ["self","head"] []):Yf P w K mg base CX0 (n+1) f fd ["self","state"] (FN CG CO):=by
 refine F.oi De fun cdv A outer s H vs Q E hr h=>?_;obtain⟨A',b,x,i,wos,wo,u,n',st,l,zs,d,g,hi,l3,hz,wl,hs,gs,q⟩:=h;refine⟨_,YZ (G7 Zv (Ve Uo) (YZ (Y0 (Yn VQ (Yj (r:=VS K) Ym (pv 1) (Ya)) Yw (Yv _)) (YZ (Yu 1 De.nd (Y6 (pv 0) TO.cl mB GB hr bB .nil Y4 (pa2 (Yj (r:=VS K) Ym (pv 1) (Ya)) (Yj (r:=VS K) Ym (pv 1) (Ya)))))) (YZ (Y0 (Yn VQ (Yj (r:=VS K) Ym (pv 1) (Ya)) Yw (Yv _)) (YZ (Yu 1 De.nd (Y6 (pv 0) TO.cl mT GT hr bT .nil Y4 (pa1 (Yj (r:=VS K) Ym (pv 1) (Ya)))))) (YZ (Y0 (PW.pt (G6 (Yn VQ (Yj (r:=VS K) Ym (pv 1) (Ya)) Yw (Yv _)) (Xw (Yn X1 (Y7 Y3 rfl B.len Zu (pa1 (Yz (pv 0) rfl))) Ya (Yv _))))) (YZ (Yu 1 De.nd (Y6 (pv 0) TO.cl mH GH hr bH .nil Y4 (pa1 (Yj (r:=VS K) Ym (pv 1) (Ya)))))) (YZ (Yh (pv 1)))))))))),?_⟩;dsimp only[Vb,Cx.nox,Cx.wish];show let T0:=_;let T1:=_;let T2:=_;let T3:=_;let T4:=VC _ T2 T3;let T5:=VC _ T1 T4;let T6:=VC _ T0 T5;Rw _ T6 _ _ _
 intros
 refine⟨fun m U H'=>∃st l zs u,U=[some (.ref A'.t),some u]/\SameB A'.wl H H'/\H' A'.wl=some (.lst zs)/\WL H' A'.kn zs l/\Sx.on H' A'.kn i wo u st/\Goes b x i wo m st l d,⟨n',st,l,zs,u,rfl,SameB.refl _ _,hz,wl,hs,gs⟩,?_⟩;rintro m U H1 ⟨st,l,zs1,u,rfl,b1,hz1,wl1,hs1,gs1⟩;refine⟨true,rfl,VE rfl ⟨fun U H'=>∃m' st l zs u,m'<m/\U=[some (.ref A'.t),some u]/\SameB A'.wl H H'/\H' A'.wl=some (.lst zs)/\WL H' A'.kn zs l/\Sx.on H' A'.kn i wo u st/\Goes b x i wo m' st l d,fun U' H' ⟨m',st,l,zs,u,z1,z2⟩=>⟨m',z1,st,l,zs,u,z2⟩,?_⟩⟩;have g1:=g.sb b1 hz
 cases gs1 with
 |never h=>
  have hs2:Has H1 u (hgD i ws (wo.part ws)):=hs1;rw[h]at hs2;have hs3:=hs2;unfold hgD at hs2;obtain⟨t,ys,rfl,ht,hl⟩:=Yr hs2;obtain⟨x1,r1,rfl,e1,hlA⟩:=Yb hl;obtain rfl:=has_str e1;refine⟨_,_,Z2 ht,at0,rfl,_,rfl,Yy (by decide +kernel) ?_⟩;refine⟨_,_,Z2 ht,at0,rfl,_,rfl,Yy (by decide +kernel) ?_⟩;refine⟨_,_,Z2 ht,at0,rfl,_,rfl,Yy (by decide +kernel) (Yy (by simp) ?_)⟩;exact q _ _ _ b1 hz1 hs3
 |head=>
  have hz0:zs1=[]:=List.eq_nil_of_length_eq_zero wl1.1;subst hz0;have hs2:Has H1 u (hgD i ws (wo.part ws)):=hs1;have hs3:=hs2;obtain⟨t,wd,r,rfl,ht,hw⟩:=OG hs2;refine⟨_,_,Z2 ht,at0,rfl,_,rfl,Yy (by rcases hw with rfl|rfl <;> decide +kernel) ?_⟩;refine⟨_,_,Z2 ht,at0,rfl,_,rfl,Yy (by rcases hw with rfl|rfl <;> decide +kernel) ?_⟩;refine⟨_,_,Z2 ht,at0,rfl,_,rfl,?_⟩;rcases hw with rfl|rfl
  .exact Yy (by decide +kernel) (Yy (by simp) (q _ _ _ b1 hz1 hs3))
  .refine VE (by decide +kernel) ⟨CO,_,_,_,g1.ins,TO.cl,TO.wt,RN _,A'.wl,_,rfl,.inl (Z3 hz1),_,rfl,Yy (by decide +kernel) (q _ _ _ b1 hz1 hs3)⟩
 |name h g'=>
  obtain⟨t,p,rfl,ht,hp⟩:=hs1;refine⟨_,_,Z2 ht,at0,rfl,_,rfl,VE (by decide +kernel) ?_⟩;refine⟨_,_,g1.ins,Ib _,_,_,Z2 ht,at1,_,_,Z2 ht,at2,A',b,x,i,wos,wo,p,ws,_,zs1,g1,hp,h,hz1,fun w=>(GS w).elim,fun w=>(GS w).elim,.inr (.inl rfl),fun t e=>(nomatch e),fun _ u H2 s2 hu=>?_,fun w=>(GS w).elim⟩;exact⟨_,.thing [],l,zs1,u,Nat.lt_succ_self _,rfl,b1.trans s2.sb,s2 _ _ hz1,wl1.tk fun b ys h=>s2 _ _ h,hu,g'⟩
 |tag h e g'=>
  obtain⟨t',p,rfl,ht,hp⟩:=hs1;refine⟨_,_,Z2 ht,at0,rfl,_,rfl,VE (by decide +kernel) ?_⟩;refine⟨_,_,g1.ins,Ib _,_,_,Z2 ht,at1,_,_,Z2 ht,at2,A',b,x,i,wos,wo,p,ws,_,zs1,g1,hp,h,hz1,fun w=>(Me w).elim,fun w=>(Me w).elim,.inl ⟨_,rfl⟩,fun t2 e2 u H2 s2 hu=>?_,fun e=>(nomatch e),fun w=>(Me w).elim⟩;cases e2;refine⟨_,.hd us,l,zs1,u,Nat.lt_succ_self _,rfl,b1.trans s2.sb,s2 _ _ hz1,wl1.tk fun b ys h=>s2 _ _ h,?_,g'⟩;show Has H2 u (hgD i us (wo.part us));rw[e];unfold hgD;exact hu
 |push h e lw ll g'=>
  obtain⟨t',p,rfl,ht,hp⟩:=hs1;refine⟨_,_,Z2 ht,at0,rfl,_,rfl,VE (by decide +kernel) ?_⟩;have lz:=wl1.1;refine⟨_,_,g1.ins,Ib _,_,_,Z2 ht,at1,_,_,Z2 ht,at2,A',b,x,i,wos,wo,p,ws,_,zs1,g1,hp,h,hz1,fun w=>by omega,fun w=>by omega,.inr (.inr e),fun t2 e2=>(Me (e2 ▸ e)).elim,fun e2=>(GS (e2 ▸ e)).elim,fun w u z H2 b2 hz2 we hu=>?_⟩;exact⟨_,.body (ws++[0]),l++[(c,ws)],_,u,Nat.lt_succ_self _,rfl,b1.trans b2,hz2,(wl1.tk (Jf b2 hz1)).snoc we,hu,g'⟩
 |given lw hw g'=>
  have hs2:Has H1 u (.tup [.str "thing",J4 i ws]):=hs1;obtain⟨t,ys,rfl,ht,hl⟩:=Yr hs2;obtain⟨x1,r1,rfl,e1,hlA⟩:=Yb hl;obtain⟨x2,r2,rfl,e2,hlB⟩:=Yb hlA;obtain rfl:=Y8 hlB;obtain rfl:=has_str e1;refine⟨_,_,Z2 ht,at0,rfl,_,rfl,Yy (by decide +kernel) ?_⟩;refine⟨_,_,Z2 ht,at0,rfl,_,rfl,VE (by decide +kernel) ?_⟩;refine⟨_,_,g1.ins,AR _,_,_,Z2 ht,at1,A',b,x,i,wos,wo,x2,ws,g1,hi,l3,e2,hw,by omega,fun u H2 s2 hu=>?_⟩;exact⟨_,.hd ws,l,zs1,u,Nat.lt_succ_self _,rfl,b1.trans s2.sb,s2 _ _ hz1,wl1.tk fun b ys h=>s2 _ _ h,hu,g'⟩
 |sel h e g'=>
  have hs2:Has H1 u (hgD i ws (wo.part ws)):=hs1;rw[h]at hs2;unfold hgD at hs2;obtain⟨t,ys,rfl,ht,hl⟩:=Yr hs2;obtain⟨x1,r1,rfl,e1,hlA⟩:=Yb hl;obtain⟨x2,r2,rfl,e2,hlB⟩:=Yb hlA;obtain rfl:=Y8 hlB;obtain rfl:=has_str e1;obtain⟨ys,z,rfl,wl2,we⟩:=wl1.last;refine⟨_,_,Z2 ht,at0,rfl,_,rfl,Yy (by decide +kernel) ?_⟩;refine⟨_,_,Z2 ht,at0,rfl,_,rfl,Yy (by decide +kernel) ?_⟩;refine⟨_,_,Z2 ht,at0,rfl,_,rfl,VE (by decide +kernel) ?_⟩;refine⟨CO,_,_,_,g1.ins,TO.cl,TO.wt,RN _,A'.wl,_,rfl,.inl (Z3 hz1),_,rfl,VE (by rw[ZL,List.length_singleton];exact decide_eq_true (by omega)) ?_⟩;refine⟨_,_,g1.ins,O1 _,_,_,Z2 ht,at1,.sel A' b x i wos x2 ws c k pl ys z g1 hz1 we e2 e fun u' H2 b2 hz2 hu=>?_⟩;exact⟨_,.thing (ws++[k]),_,ys,u',Nat.lt_succ_self _,rfl,b1.trans b2,hz2,wl2.tk (Jf b2 hz1),hu,g'⟩
 |cho h nt lt lb ht' lp g'=>
  have hs2:Has H1 u (hgD i ws (wo.part ws)):=hs1;rw[h]at hs2;unfold hgD at hs2;obtain⟨t',ys,rfl,ht,hl⟩:=Yr hs2;obtain⟨x1,r1,rfl,e1,hlA⟩:=Yb hl;obtain⟨x2,r2,rfl,e2,hlB⟩:=Yb hlA;obtain rfl:=Y8 hlB;obtain rfl:=has_str e1;obtain⟨ys,z,rfl,wl2,we⟩:=wl1.last;refine⟨_,_,Z2 ht,at0,rfl,_,rfl,Yy (by decide +kernel) ?_⟩;refine⟨_,_,Z2 ht,at0,rfl,_,rfl,Yy (by decide +kernel) ?_⟩;refine⟨_,_,Z2 ht,at0,rfl,_,rfl,VE (by decide +kernel) ?_⟩;refine⟨CO,_,_,_,g1.ins,TO.cl,TO.wt,RN _,A'.wl,_,rfl,.inl (Z3 hz1),_,rfl,VE (by rw[ZL,List.length_singleton];exact decide_eq_true (by omega)) ?_⟩;refine⟨_,_,g1.ins,O1 _,_,_,Z2 ht,at1,.cho A' b x i wos wo x2 t e ts bs j pl ys z g1 hz1 we e2 nt lt lb ht' lp fun u' H2 b2 hz2 hu=>?_⟩;exact⟨_,.body (pl++[1+(j:Int)]),_,ys,u',Nat.lt_succ_self _,rfl,b1.trans b2,hz2,wl2.tk (Jf b2 hz1),hu,g'⟩
theorem Sb:Yi ["self"] ["self"] (Yd Bn):=Y2
inductive A1(CG CO:Addr)(H:Hp)(Q:VK):List V->Prop
 |mk (A:OA) (b:Bd) (x:Str) (i:Nat) (wos:List W) (wo:W) (n:Nat) (d:Dat) (g:GO H CO CG A b x i wos) (hi:wos[i]?=some wo) (l3:wos.length<=3) (hz:H A.wl=some (.lst [])) (gs:Goes b x i wo n (.body []) [] d)
  (q:∀v zs' H',SameB A.wl H H'->H' A.wl=some (.lst zs')->Has H' v d->Q v H'):A1 CG CO H Q [.ref A.t]
def FQ(CG CO:Addr):Sp:=fun vs H Q _=>A1 CG CO H Q vs
theorem QY(TO:OCl K CO)(F:Fun K "begin" "Going.begin" Bn f fd)(m:VO K CO "go_on" g)(G:Yf P w K mg base CX0 n g gd ["self","state"] (FN CG CO))(bG:Binds K gd ["self","state"] []):Yf P w K mg base CX0 (n+1) f fd ["self"] (FQ CG CO):=by
 refine F.oi Sb fun cdv A outer s H vs Q E hr h=>?_;obtain⟨A',b,x,i,wos,wo,n',d,g,hi,l3,hz,gs,q⟩:=h;refine⟨_,YZ (Yh (Y6 (pv 0) TO.cl m G hr bG .nil Y4 (pa1 (Yt (pa3 (Yw) (Yz (pv 0) rfl) (Yz (pv 0) rfl)))))),?_⟩;dsimp only[Vb,Cx.nox,Cx.wish];refine⟨_,_,g.ins,AQ _,CO,_,_,_,g.ins,TO.cl,TO.pl,AL _,CO,_,_,_,g.ins,TO.cl,TO.kn,AN _,sl 3,fun t ht=>?_⟩;refine up_in ht _ fun H1 s1 g1=>?_;refine⟨A',b,x,i,wos,wo,_,n',.body [],[],[],d,g.mono s1,hi,l3,s1 _ _ hz,⟨rfl,fun k z c h=>by simp at h⟩,⟨t,_,rfl,g1,s1 _ _ g.pl⟩,gs,fun v zs' H' sb hz' hv=>q v zs' H' (s1.sb.trans sb) hz' hv⟩
end
end K4
namespace L2
open PySem
theorem Bd.at_snoc:∀(ws:List Int){b c e:Bd}{k:Int},b.at ws=some c->0<=k->c.parts[k.toNat]?=some e->b.at (ws++[k])=some e
 |[],b,c,e,k,h,hk,hp=>by
  unfold Bd.at at h;cases h;rw[List.nil_append];unfold Bd.at;rw[Zp hk,hp];show Bd.at e []=some e;unfold Bd.at
  rfl
 |i::r,b,c,e,k,h,hk,hp=>by
  rw[List.cons_append];unfold Bd.at at h |-
  by_cases h0:0<=i
  .rw [Zp h0]at h |-
   cases hb:b.parts[i.toNat]? with
   |none=>rw[hb]at h;cases h
   |some c'=>
    rw[hb]at h;exact Bd.at_snoc r h hk hp
  .rw [Zq h0]at h;cases h
def MK(k:Int)(b:Bd):Bd:=if k=0 then .one b else .other b
def J6:List Int->Bd->Bd
 |[],b=>b
 |r::rs,b=>MK r (J6 rs b)
theorem NH(h:k=0\/k=1):(MK k b).sel=some k:=by rcases h with rfl|rfl <;> rfl
theorem N4:(MK k b).parts=[b]:=by unfold MK;split <;> rfl
inductive Stk:List (Bd×List Int)->List Int->Prop
 |nil:Stk [] []
 |snoc (h:Stk S ws) (e:c.sel=some w):Stk (S++[(c,pl)]) (w::ws)
theorem Wd{base:List (Bd×List Int)}:∀(rs pl:List Int)(S:List (Bd×List Int))(acc:List Int),Way rs->b.at pl=some (J6 rs (.name x))->Stk S acc->pl.length+rs.length<=50->base.length+S.length+rs.length<=50->
  (∀S',Stk S' (rs.reverse++ acc)->∃n,Goes b x i wo n (.thing []) (base++ S') d)->∃n,Goes b x i wo n (.body pl) (base++ S) d
 |[],pl,S,acc,hw,hb,hs,l1,l2,k=>by
  obtain⟨n,g⟩:=k S hs;exact⟨n+1,.name hb g⟩
 |r::rs,pl,S,acc,hw,hb,hs,l1,l2,k=>by
  rw[Zf]at l1 l2;have hr:=hw r Za;have hp:b.at (pl++[0])=some (J6 rs (.name x)):=Bd.at_snoc pl hb (by decide) (by show(MK r (J6 rs (.name x))).parts[0]?=_;rw[N4];rfl);obtain⟨n,g⟩:=Wd rs (pl++[0]) (S++[(MK r (J6 rs (.name x)),pl)]) (r::acc) (fun k hk=>hw k (ZM _ hk)) hp (.snoc hs (NH hr)) (by rw[ZL,List.length_singleton];omega) (by rw[ZL,List.length_singleton];omega) (fun S' h'=>k S' (by rw[List.reverse_cons,List.append_assoc];exact h'));rw[<-List.append_assoc]at g;exact⟨n+1,.push hb (.inl ⟨r,NH hr⟩) (by omega) (by rw[ZL];omega) g⟩
theorem UR:∀(us:List Int){wo:W},wo.part us=.pair a c->wo.part (us++[w])=if w=0 then a else c
 |[],wo,h=>by
  unfold W.part at h;subst h;rw[List.nil_append];unfold W.part
  split <;> (unfold W.part;rfl)
 |u::us,wo,h=>by
  rw[List.cons_append]
  cases wo with
  |non=>unfold W.part at h;cases h
  |tag t=>unfold W.part at h;cases h
  |pair p q=>
   unfold W.part at h |-
   by_cases h0:u=0
   .rw [Zp h0]at h |-
    exact UR us h
   .rw [Zq h0]at h |-
    exact UR us h
theorem K1(h:Way (us++ w::ws)):Way ((us++[w])++ ws):=by rw[List.append_assoc];exact h
theorem Na{base:List (Bd×List Int)}{wo:W}:∀(ws us:List Int)(S:List (Bd×List Int)),Stk S ws->Way (us++ ws)->us.length+ws.length<=50->Fit (wo.part us) ws->
  (∀u,goW (wo.part us) us ws=.inr u->wo.part (us++ ws)=u->∃n,Goes b x i wo n (.hd (us++ ws)) base d)->(∀p,goW (wo.part us) us ws=.inl p->d=hgD i p .non)->∃n,Goes b x i wo n (.thing us) (base++ S) d:=by
 intro ws
 induction ws with
 |nil=>
  intro us S hs hw l fit k1 k2;have hw':Way us:=fun k hk=>hw k (List.mem_append_left _ hk);have l':us.length<=50:=by rw[List.length_nil]at l;omega
  cases hs
  cases e:wo.part us with
  |non=>
   rw[k2 us (by rw[e,Jh])];exact⟨1,.given l' hw' (.never e)⟩
  |tag t=>
   obtain⟨n,g⟩:=k1 _ (by rw[e,XO]) (by rw[List.append_nil];exact e);rw[List.append_nil]at g |-;exact⟨n+1,.given l' hw' g⟩
  |pair a c=>
   obtain⟨n,g⟩:=k1 _ (by rw[e,Ge]) (by rw[List.append_nil];exact e);rw[List.append_nil]at g |-;exact⟨n+1,.given l' hw' g⟩
 |cons w ws ih=>
  intro us S hs hw l fit k1 k2;have hw':Way us:=fun k hk=>hw k (List.mem_append_left _ hk);rw[Zf]at l;have l':us.length<=50:=by omega
  cases e:wo.part us with
  |non=>
   rw[k2 us (by rw[e,Jh])];exact⟨1,.given l' hw' (.never e)⟩
  |tag t=>rw[e]at fit;unfold Fit at fit;cases fit
  |pair a c=>
   rw[e]at fit;unfold Fit at fit;have ep:=UR (w:=w) us e;have eg:goW (wo.part us) us (w::ws)=goW (wo.part (us++[w])) (us++[w]) ws:=by rw[e,J3,ep]
   cases hs with
   |snoc hs e2=>
    obtain⟨n,g⟩:=ih (us++[w]) _ hs (K1 hw) (by rw[ZL,List.length_singleton];omega) (by rw[ep];exact fit.2) (fun u h1 h2=>by
     rw[List.append_assoc]at h2 |-;exact k1 u (by rw[eg];exact h1) h2) (fun p h1=>k2 p (by rw[eg];exact h1))
    rw[<-List.append_assoc];exact⟨n+2,.given l' hw' (.sel e e2 g)⟩
def UA(i:Nat)(wo:W)(ws:List Int):Dat:=match goW wo [] ws with
 |.inl p=>hgD i p .non
 |.inr u=>hgD i ws u
theorem Bz{wo:W}{ws:List Int}(hw:Way ws)(l:ws.length<=10)(fit:Fit wo ws):∃n,Goes (J6 ws.reverse (.name x)) x i wo n (.body []) [] (UA i wo ws):=by
 have hr:Way ws.reverse:=fun k hk=>hw k (List.mem_reverse.mp hk);refine Wd (base:=[]) ws.reverse [] [] [] hr (by unfold Bd.at;rfl) .nil (by rw[List.length_reverse,List.length_nil];omega) (by rw[List.length_reverse,List.length_nil];omega) fun S hS=>?_;rw[List.reverse_reverse,List.append_nil]at hS;have e0:wo.part []=wo:=by unfold W.part;rfl
 refine Na (base:=[]) ws [] S hS (by rw[List.nil_append];exact hw) (by rw[List.length_nil];omega) (by rw[e0];exact fit) (fun u h1 h2=>?_) (fun p h1=>?_)
 .rw [e0]at h1
  rw[List.nil_append]at h2 |-;refine⟨0,?_⟩;unfold UA;rw[h1];show Goes _ _ _ _ _ _ _ (hgD i ws u);rw[<-h2];exact .head
 .rw [e0]at h1
  unfold UA;rw[h1]
theorem KJ{wo:W}{ws:List Int}(hw:Way ws)(l:ws.length<=10)(fit:Fit wo ws)(nt:ts.Nodup)(lt:ts.length<=50)(ht:∀u,goW wo [] ws=.inr u->∃t∈ts,u=.tag t):∃n,Goes (.choose (J6 ws.reverse (.name x)) ts (ts.map .tag)) x i wo n (.body []) [] (UA i wo ws):=by
 have hr:Way ws.reverse:=fun k hk=>hw k (List.mem_reverse.mp hk)
 let c:Bd:=.choose (J6 ws.reverse (.name x)) ts (ts.map .tag)
 have hc:c.at []=some c:=by unfold Bd.at;rfl
 have h0:c.at [0]=some (J6 ws.reverse (.name x)):=Bd.at_snoc [] hc (by decide) rfl
 obtain⟨n,g⟩:∃n,Goes c x i wo n (.body [0]) ([(c,[])]++[]) (UA i wo ws):=by
  refine Wd (base:=[(c,[])]) ws.reverse [0] [] [] hr h0 .nil (by rw[List.length_reverse,List.length_singleton];omega) (by rw[List.length_reverse,List.length_nil,List.length_singleton];omega) fun S hS=>?_;rw[List.reverse_reverse,List.append_nil]at hS;have e0:wo.part []=wo:=by unfold W.part;rfl
  refine Na (base:=[(c,[])]) ws [] S hS (by rw[List.nil_append];exact hw) (by rw[List.length_nil];omega) (by rw[e0];exact fit) (fun u h1 h2=>?_) (fun p h1=>?_)
  .rw [e0]at h1
   rw[List.nil_append]at h2 |-;obtain⟨t,h3,rfl⟩:=ht u h1;obtain⟨j,hj⟩:=List.mem_iff_getElem?.mp h3
   have hp:c.at ([]++[1+(j:Int)])=some (.tag t):=Bd.at_snoc [] hc (by omega) (by
    rw[show(1+(j:Int)).toNat=j+1 by omega];show(ts.map Bd.tag)[j]?=_;rw[ZH,hj]
    rfl)
   refine⟨_,.cho (l:=[]) (pl:=[]) h2 nt lt (ZA ..) hj (by simp) (.tag hp h2 (n:=0) ?_)⟩;unfold UA;rw[h1];show Goes _ _ _ _ _ _ _ (hgD i ws _);rw[<-h2];exact .head
  .rw [e0]at h1
   unfold UA;rw[h1]
 exact⟨n+1,.push hc (.inr ⟨_,_,_,rfl⟩) (by simp) (by simp) g⟩
end L2
namespace L2
open PySem PySem.Spec PyProof.Rows
structure PP(K:W.Frag)(C:Addr)(m:Str)(f:Addr):Prop where
 gt:W.specialIn K (.ref C) "__getattribute__"=some (some (.builtin "type.__getattribute__"))
 rd:W.readsIn K C (.type "type")=true
 fc:W.findCls K (.ref C) (.type "type") m=some (.val (.ref f))
 kp:W.keepIn K (.ref f)=true
theorem Fz{C f:Addr}(hg:Gl X x)(hm:X.mg x=some (.ref C))(c:PP X.K C m f)(F:Yf X.prog X.w X.K X.mg X.base CX k f fd ps sp)(hr:Vs k X.A)(hb:Binds X.K fd ps ds)(hd:Vals dvs ds)(hx:Ul CX X E)(ha:PA X (e::es) t)(hdb:(x==("__debug__":Str))=false:=by decide)(hst:starEach (e::es) X.env=(false,eval e X.env)::starEach es X.env:=by rfl)(hpl:(backTo pos (starEach es X.env)).any (·.1)=false:=by rfl)(ht:eval (.Call (.Attribute (.Name x p) m apos) (e::es) [] pos) X.env=(do
   let ov <-eval (.Name x p) X.env
   standAt apos.atName
   let(f,first) <-holding [ov] (getMethod ov m pl)
   callWith pos f first (backTo pos (starEach (e::es) X.env)) (backToKw pos (keywordEach [] X.env))):=by rfl):
  PE X (.Call (.Attribute (.Name x p) m apos) (e::es) [] pos) (M8 sp dvs E t):=by
 intro pins s U H Q I h;refine W.methodCall_KW (pl:=pl) (thn ((JE (v:=.ref C) hg hm rfl hdb) pins s U H (fun x H1=>x=.ref C/\M8 sp dvs E t U H1 Q) I ⟨rfl,h⟩) fun u s1 ⟨y,H1,I1,ry,ey,q⟩=>?_) ht;subst ey;obtain rfl:u=Value.ref C:=ry;refine W.method_cls I1.kIn c.gt (W.cls_value I1.kIn c.rd c.fc rfl ?_);have I2:=I1.tok (s1.toks+1);refine W.callWith_K (first:=[]) (h₀:=X.base) I.ok.mod.kin c.kp (thn (ha pos pins _ U H1 _ I2 q) fun us s2 ⟨vs,H2,I3,r,q2⟩=>⟨I3.kIn,?_⟩) hst hpl;exact Gz F hr hb hd hx I3 r q2
structure WA where
 t:Addr
 dx:Addr
 gr:Addr
 uw:Addr
 wr:Addr
 wn:Addr
 hs:Addr
def JQ(A:WA)(bg:Int):List (Str×V):=[("ground",.ref A.gr),("most",.int 1),("begun",.int bg),("under_way",.ref A.uw),("wanters",.ref A.wr),("wants",.ref A.wn),("heads",.ref A.hs)]
structure WCl(K:W.Frag)(C:Addr):Prop where
 cl:Cls K C
 gr:VH K C "ground"
 mo:VH K C "most"
 bg:VH K C "begun"
 uw:VH K C "under_way"
 wr:VH K C "wanters"
 wn:VH K C "wants"
 hs:VH K C "heads"
structure WS(H:Hp)(C:Addr)(A:WA)(bg:Int)(us:List V)(r n h:List (Key×V)):Prop where
 ins:H A.t=some (.ins C A.dx (JQ A bg))
 uw:H A.uw=some (.lst us)
 wr:H A.wr=some (.dK r)
 wn:H A.wn=some (.dK n)
 hs:H A.hs=some (.dK h)
theorem WS.mono(g:WS H C A bg us r n h)(s:Same H H'):WS H' C A bg us r n h:=⟨s _ _ g.ins,s _ _ g.uw,s _ _ g.wr,s _ _ g.wn,s _ _ g.hs⟩
structure WF(Hm:Hp)(A:WA):Prop where
 t:Hm A.t=none
 uw:Hm A.uw=none
 wr:Hm A.wr=none
 wn:Hm A.wn=none
 hs:Hm A.hs=none
 d1:A.wr≠A.wn
 d2:A.wr≠A.hs
 d3:A.wn≠A.hs
end L2
namespace K4
open PySem L2
section
variable{C CK CG CO CW CD:Addr}
theorem Cb:Yi ["self","ground","most"] ["self","ground","most"] (Yd Kk):=Y2
theorem CP:Yi ["self","ground","most"] ["self","ground","most"] (Yd E7):=Y2
inductive SDI(CW:Addr)(H:Hp)(Q:VK):List V->Prop
 |mk (x dx gr:Addr) (hx:H x=some (.ins CW dx []))
  (q:∀uw H',H uw=none->SameB x H H'->H' x=some (.ins CW dx [("ground",.ref gr),("most",.int 1),("begun",.int 0),("under_way",.ref uw)])->H' uw=some (.lst [])->Q .non H'):SDI CW H Q [.ref x,.ref gr,.int 1]
def Px(CW:Addr):Sp:=fun vs H Q _=>SDI CW H Q vs
theorem AH(TW:WCl K CW)(F:Fun K "__init__" "Doing.__init__" Kk f fd):Yf P w K mg base CX0 (n+1) f fd ["self","ground","most"] (Px CW):=by
 refine F.oi Cb fun cdv A outer s H vs Q E hr h=>?_;obtain⟨x,dx,gr,hx,q⟩:=h;refine⟨_,YY (VY (pv 0) (pv 1) rfl)
  (YY (VY (pv 0) (pv 2) rfl)
  (YY (VY (pv 0) (Ya) rfl)
  (YZ (VY (pv 0) (Vg Vj) rfl)))),?_⟩
 dsimp only[Vb,Cx.nox,Cx.wish];show let T0:=_;let T1:=Yk _ T0;let T2:=Yk _ T1;Yk _ T2 _ _ _
 intros
 refine⟨x,CW,dx,_,rfl,hx,TW.cl,TW.gr,by decide,?_⟩;refine fld_in x _ fun H1 b1 x1=>⟨x,CW,dx,_,rfl,x1,TW.cl,TW.mo,(by show 1<1000;decide),?_⟩;refine fld_in x _ fun H2 b2 x2=>⟨x,CW,dx,_,rfl,x2,TW.cl,TW.bg,(by show 2<1000;decide),?_⟩;refine fld_in x _ fun H3 b3 x3=>⟨sl 0,fun uw huw=>?_⟩;have xu:uw≠x:=(Yc x3 huw).symm;refine up_in huw _ fun H4 s4 g4=>⟨x,CW,dx,_,rfl,s4 _ _ x3,TW.cl,TW.uw,(by show 3<1000;decide),?_⟩;refine fld_in x _ fun H5 b5 x5=>?_;have b03:=(b1.trans b2).trans b3;exact q uw H5 (b03.free xu huw) ((b03.trans s4.sb).trans b5) x5 (b5 _ _ xu g4)
inductive SWI(CW:Addr)(H:Hp)(Q:VK):List V->Prop
 |mk (Hm:Hp) (x dx gr:Addr) (h0:Hm x=none) (sm:Same Hm H) (hx:H x=some (.ins CW dx []))
  (q:∀(A:WA) H',A.t=x->A.gr=gr->WF Hm A->Same Hm H'->WS H' CW A 0 [] [] [] []->Q .non H'):SWI CW H Q [.ref x,.ref gr,.int 1]
def Ph(CW:Addr):Sp:=fun vs H Q _=>SWI CW H Q vs
theorem Sn(TW:WCl K CW)(F:Fun K "__init__" "Walk.__init__" E7 f fd)(mD:mg "Doing"=some (.ref CD))(cD:PP K CD "__init__" g)(GD':Yf P w K mg base CX0 n g gd ["self","ground","most"] (Px CW))(bD:Binds K gd ["self","ground","most"] []):Yf P w K mg base CX0 (n+1) f fd ["self","ground","most"] (Ph CW):=by
 refine F.oi CP fun cdv A outer s H vs Q E hr h=>?_;obtain⟨Hm,x,dx,gr,h0,sm,hx,q⟩:=h;refine⟨_,YY (Vm (Fz rfl mD cD GD' hr bD .nil Y4 (pa3 (pv 0) (pv 1) (pv 2))))
  (YY (VY (pv 0) (Vy) rfl)
  (YY (VY (pv 0) (Vy) rfl)
  (YZ (VY (pv 0) (Vy) rfl)))),?_⟩
 dsimp only[Vb,Cx.nox,Cx.wish];show let T0:=_;let T1:=Yk _ T0;let T2:=Yk _ T1;Yk _ T2 _ _ _
 intros
 refine⟨x,dx,gr,hx,fun uw H1 huw b1 x1 g1=>?_⟩;have xu:uw≠x:=(Yc hx huw).symm;intro wr hwr;have xw:wr≠x:=(Yc x1 hwr).symm;refine up_in hwr _ fun H2 s2 g2=>⟨x,CW,dx,_,rfl,s2 _ _ x1,TW.cl,TW.wr,(by show 4<1000;decide),?_⟩;refine fld_in x _ fun H3 b3 x3=>?_;intro wn hwn;have xn:wn≠x:=(Yc x3 hwn).symm;have g3:=b3 _ _ xw g2;refine up_in hwn _ fun H4 s4 g4=>⟨x,CW,dx,_,rfl,s4 _ _ x3,TW.cl,TW.wn,(by show 5<1000;decide),?_⟩;refine fld_in x _ fun H5 b5 x5=>?_;intro hs hhs;have xh:hs≠x:=(Yc x5 hhs).symm;refine up_in hhs _ fun H6 s6 g6=>⟨x,CW,dx,_,rfl,s6 _ _ x5,TW.cl,TW.hs,(by show 6<1000;decide),?_⟩;refine fld_in x _ fun H7 b7 x7=>?_;have b13:=s2.sb.trans b3;have b15:=(b13.trans s4.sb).trans b5;have b17:=(b15.trans s6.sb).trans b7;have sm1:Same Hm H1:=JN h0 sm b1;have wr5:=b5 _ _ xw (s4 _ _ g3);have wn5:=b5 _ _ xn g4
 let A':WA:=⟨x,dx,gr,uw,wr,wn,hs⟩
 refine q A' H7 rfl rfl ⟨h0,?_,?_,?_,?_,?_,?_,?_⟩ (JN h0 sm1 b17) ⟨x7,b17 _ _ xu g1,b7 _ _ xw (s6 _ _ wr5),b7 _ _ xn (s6 _ _ wn5),b7 _ _ xh g6⟩
 .exact sm.free huw
 .exact sm1.free hwr
 .exact sm1.free (b13.free xn hwn)
 .exact sm1.free (b15.free xh hhs)
 .exact Yc g3 hwn
 .exact Yc wr5 hhs
 .exact Yc wn5 hhs
end
end K4
namespace L2
open PySem
structure AK(H:Hp)(C CK CG gr:Addr)(df:Dd)(nm:Str)(i:Nat)(wos:List W)(wo:W):Prop where
 gd:∃(G:GA)(ks:List (Str×Shp))(d:Str->Nat)(ds:List Dd),G.t=gr/\BI H C CK G.bk ks d ds/\df∈ds/\GD H CG G df.1.1 (df.1.2.1.map (·.1)) wos
 ok:df.2.ok
 ln:wos.length=df.1.2.1.length
 nd:(df.1.2.1.map (·.1)).Nodup
 hi:(df.1.2.1.map (·.1))[i]?=some nm
 hw:wos[i]?=some wo
 l3:wos.length<=3
theorem AK.mono(k:AK H C CK CG gr df nm i wos wo)(s:Same H H'):AK H' C CK CG gr df nm i wos wo:=by
 obtain⟨G,ks,d,ds,e,b,m,g⟩:=k.gd;exact⟨⟨G,ks,d,ds,e,b.mono s,m,g.mono s⟩,k.ok,k.ln,k.nd,k.hi,k.hw,k.l3⟩
theorem Jk{H:Hp}{o p:HO}(h:H a=some o)(g:H b=some p)(n:o≠p):a≠b:=fun z=>n (by rw[z,g]at h;exact(ZT h).symm)
theorem WS.tb(g:WS H C A bg us r n h)(b:SameB A.t H H')(x:H' A.t=some (.ins C A.dx (JQ A bg'))):WS H' C A bg' us r n h:=
 ⟨x,b _ _ (Jk g.uw g.ins (by intro z;cases z)) g.uw,b _ _ (Jk g.wr g.ins (by intro z;cases z)) g.wr,b _ _ (Jk g.wn g.ins (by intro z;cases z)) g.wn,b _ _ (Jk g.hs g.ins (by intro z;cases z)) g.hs⟩
theorem WS.ub(g:WS H C A bg us r n h)(b:SameB A.uw H H')(x:H' A.uw=some (.lst us')):WS H' C A bg us' r n h:=
 ⟨b _ _ (Jk g.ins g.uw (by intro z;cases z)) g.ins,x,b _ _ (Jk g.wr g.uw (by intro z;cases z)) g.wr,b _ _ (Jk g.wn g.uw (by intro z;cases z)) g.wn,b _ _ (Jk g.hs g.uw (by intro z;cases z)) g.hs⟩
theorem WS.rb(g:WS H C A bg us r n h)(f:WF Hm A)(b:SameB A.wr H H')(x:H' A.wr=some (.dK r')):WS H' C A bg us r' n h:=
 ⟨b _ _ (Jk g.ins g.wr (by intro z;cases z)) g.ins,b _ _ (Jk g.uw g.wr (by intro z;cases z)) g.uw,x,b _ _ f.d1.symm g.wn,b _ _ f.d2.symm g.hs⟩
theorem WS.nb(g:WS H C A bg us r n h)(f:WF Hm A)(b:SameB A.wn H H')(x:H' A.wn=some (.dK n')):WS H' C A bg us r n' h:=
 ⟨b _ _ (Jk g.ins g.wn (by intro z;cases z)) g.ins,b _ _ (Jk g.uw g.wn (by intro z;cases z)) g.uw,b _ _ f.d1 g.wr,x,b _ _ f.d3.symm g.hs⟩
theorem WS.hb(g:WS H C A bg us r n h)(f:WF Hm A)(b:SameB A.hs H H')(x:H' A.hs=some (.dK h')):WS H' C A bg us r n h':=
 ⟨b _ _ (Jk g.ins g.hs (by intro z;cases z)) g.ins,b _ _ (Jk g.uw g.hs (by intro z;cases z)) g.uw,b _ _ f.d2 g.wr,b _ _ f.d3 g.wn,x⟩
theorem WS.ob(g:WS H C A bg us r n h)(g1:WS H1 C A bg1 us1 r1 n1 h1)(f:H1 p=none)(b:SameB p H H'):WS H' C A bg us r n h:=
 ⟨b _ _ (Yc g1.ins f) g.ins,b _ _ (Yc g1.uw f) g.uw,b _ _ (Yc g1.wr f) g.wr,b _ _ (Yc g1.wn f) g.wn,b _ _ (Yc g1.hs f) g.hs⟩
end L2
namespace K4
open PySem L2
section
variable{C CK CG CO CW CD:Addr}
abbrev sn:List Str:=["self","number"]
theorem E5(A:WA):(JQ A bg).lookup ("ground":Str)=some (V.ref A.gr):=rfl
theorem Q9(A:WA):(JQ A bg).lookup ("most":Str)=some (V.int 1):=rfl
theorem Om(A:WA):(JQ A bg).lookup ("begun":Str)=some (V.int bg):=rfl
theorem M0(A:WA):(JQ A bg).lookup ("under_way":Str)=some (V.ref A.uw):=rfl
theorem E3(A:WA):(JQ A bg).lookup ("wanters":Str)=some (V.ref A.wr):=rfl
theorem Q6(A:WA):(JQ A bg).lookup ("wants":Str)=some (V.ref A.wn):=rfl
theorem E4(A:WA):(JQ A bg).lookup ("heads":Str)=some (V.ref A.hs):=rfl
theorem PU(A:WA):(JQ A bg).lookup ("going_of":Str)=none:=rfl
theorem SB(A:WA):(JQ A bg).lookup ("go_into":Str)=none:=rfl
theorem Qa(A:OA):(Jz A).lookup ("begin":Str)=none:=rfl
theorem SX:Yi sn sn (Yd Tn):=Y2
theorem SY:Yi sn sn (Yd Ms):=Y2
theorem FU:Yi ["self","number","wanter"] sn (Yd E6):=Y2
theorem P1:Yi ["self","number","head"] ["self","number","head"] (Yd PZ):=Y2
inductive Ay(C CK CG CO CW:Addr)(H:Hp)(Q:VK):List V->Prop
 |mk (A:WA) (bg:Int) (us:List V) (r n h:List (Key×V)) (df:Dd) (nm:Str) (i:Nat) (wos:List W) (wo:W) (ws:WS H CW A bg us r n h) (ak:AK H C CK CG A.gr df nm i wos wo)
  (q:∀(O:OA) H',Same H H'->H O.wl=none->H' O.wl=some (.lst [])->GO H' CO CG O df.2 nm i wos->Q (.ref O.t) H'):Ay C CK CG CO CW H Q [.ref A.t,.int 0]
def FM(C CK CG CO CW:Addr):Sp:=fun vs H Q _=>Ay C CK CG CO CW H Q vs
theorem QS(TW:WCl K CW)(F:Fun K "going_of" "Doing.going_of" Tn f fd)(mO:mg "Going"=some (.ref CO))(MO:Mk K CO g)(GI:Yf P w K mg base CX0 n g gd ["self","ground","number"] (Pm C CK CG CO))(bI:Binds K gd ["self","ground","number"] []):Yf P w K mg base CX0 (n+2) f fd sn (FM C CK CG CO CW):=by
 refine F.oi SX fun cdv A outer s H vs Q E hr h=>?_;obtain⟨A',bg,us,r,n',h',df,nm,i,wos,wo,ws,ak,q⟩:=h;refine⟨_,YZ (Yh (Xz MO GI hr rfl mO bI .nil Y4 (pa2 (Yz (pv 0) rfl) (pv 1)))),?_⟩;dsimp only[Vb,Cx.nox,Cx.wish];refine⟨CW,_,_,_,ws.ins,TW.cl,TW.gr,E5 _,fun x dx hx hdx hne=>?_⟩;have sX:Same H (upd (upd H dx (.own x)) x (.ins CO dx [])):=fun b o e=>by rw[Yg (Yc e hx),Yg (Yc e hdx)];exact e
 have tx:upd (upd H dx (.own x)) x (.ins CO dx []) x=some (.ins CO dx []):=Ye;generalize upd (upd H dx (.own x)) x (.ins CO dx [])=H7 at tx sX |-;obtain⟨G,ks,d,ds,e,b,m,g⟩:=ak.gd;rw[<-e];refine⟨H,x,dx,G,ks,d,ds,df,wos,i,nm,hx,sX,tx,b,m,g,ak.ok,ak.ln,ak.nd,ak.hi,fun O H' e1 e2 s1 f1 l1 go=>⟨rfl,?_⟩⟩;rw[<-e1];exact q O H' s1 f1 l1 go
inductive A0(C CK CG CO CW:Addr)(H:Hp)(Q:VK):List V->Prop
 |mk (Hm:Hp) (A:WA) (r n h:List (Key×V)) (df:Dd) (nm:Str) (i:Nat) (wos:List W) (wo:W) (k:Nat) (d:Dat) (wf:WF Hm A) (sm:Same Hm H) (ws:WS H CW A 0 [] r n h) (ak:AK Hm C CK CG A.gr df nm i wos wo) (gs:Goes df.2 nm i wo k (.body []) [] d)
  (q:∀v (O:OA) H',Same Hm H'->WS H' CW A 1 [.ref O.t] r n h->H' O.t=some (.ins CO O.dx (Jz O))->Has H' v d->Q v H'):A0 C CK CG CO CW H Q [.ref A.t,.int 0]
def FO(C CK CG CO CW:Addr):Sp:=fun vs H Q _=>A0 C CK CG CO CW H Q vs
theorem QT(TW:WCl K CW)(TO:OCl K CO)(F:Fun K "go_into" "Doing.go_into" Ms f fd)(m1:VO K CW "going_of" g1)(G1:Yf P w K mg base CX0 n g1 d1 sn (FM C CK CG CO CW))(b1:Binds K d1 sn [])(m2:VO K CO "begin" g2)(G2:Yf P w K mg base CX0 n g2 d2 ["self"] (FQ CG CO))(b2:Binds K d2 ["self"] []):Yf P w K mg base CX0 (n+1) f fd sn (FO C CK CG CO CW):=by
 refine F.oi SY fun cdv A outer s H vs Q E hr h=>?_;obtain⟨Hm,A',r,n',h',df,nm,i,wos,wo,k,d,wf,sm,ws,ak,gs,q⟩:=h;refine⟨_,YY (Y0 (Yn VQ (Yz (pv 0) rfl) (Yz (pv 0) rfl) (Yv _)) Vk Yl)
  (YY (ES (pv 0) Ya Qm)
  (YY (Vm (XU Zz Z0 Z1 Je (Yz (pv 0) rfl) (pa1 (Y6 (pv 0) TW.cl m1 G1 hr b1 .nil Y4 (pa1 (pv 1))))))
  (YZ (Yh (Vf (Yj VA (Yz (pv 0) rfl) (NL Gh Ya)) TO.cl m2 G2 hr b2 .nil Y4))))),?_⟩
 dsimp only[Vb,Cx.nox,Cx.wish];show let T0:=_;let T1:=Yk _ T0;let T2:=Yk _ T1;Yk (VC _ _ _) T2 _ _ _
 intros
 refine⟨CW,_,_,_,ws.ins,TW.cl,TW.bg,Om _,CW,_,_,_,ws.ins,TW.cl,TW.mo,Q9 _,rfl,_,rfl,Yy (by decide) ?_⟩;refine⟨_,_,_,_,_,rfl,ws.ins,TW.cl,TW.bg,Om _,0,1,rfl,rfl,_,_,ws.ins,(by show 7<1000;decide),?_⟩;refine fld_in A'.t _ fun H1 b1 x1=>?_;have ws1:=ws.tb (bg':=1) b1 x1;have sm1:Same Hm H1:=JN wf.t sm b1;refine⟨CW,_,_,_,ws1.ins,TW.cl,TW.uw,M0 _,.inl ⟨rfl,_,Z3 ws1.uw⟩,_,_,ws1.ins,PU _,A',1,[],r,n',h',df,nm,i,wos,wo,ws1,ak.mono sm1,fun O H2 s2 f2 l2 go=>?_⟩;have ws2:=ws1.mono s2;refine⟨A'.uw,_,_,rfl,rfl,ws2.uw,Yq (by simp),?_⟩;refine fld_in A'.uw _ fun H3 b3 x3=>?_;have ws3:=ws2.ub b3 x3;have wu:O.wl≠A'.uw:=(Yc ws1.uw f2).symm;have go3:=go.sb b3 ws2.uw;refine⟨CW,_,_,_,ws3.ins,TW.cl,TW.uw,M0 _,1,rfl,_,_,Z3 ws3.uw,rfl,_,_,go3.ins,Qa _,?_⟩;refine⟨O,df.2,nm,i,wos,wo,k,d,go3,ak.hw,ak.l3,b3 _ _ wu l2,gs,fun v zs' H4 b4 hz4 hv=>?_⟩;refine q v O H4 ?_ (ws3.ob ws1 f2 b4) (b4 _ _ (Jk go3.ins (b3 _ _ wu l2) (by intro z;cases z)) go3.ins) hv;intro a o e;have e1:=sm1 _ _ e;have na:a≠A'.uw:=Yc e wf.uw;exact b4 _ _ (Yc e1 f2) (b3 _ _ na (s2 _ _ e1))
inductive PM(C CK CG CO CW:Addr)(H:Hp)(Q:VK):List V->Prop
 |mk (Hm:Hp) (A:WA) (df:Dd) (nm:Str) (i:Nat) (wos:List W) (wo:W) (k:Nat) (d:Dat) (wf:WF Hm A) (sm:Same Hm H) (ws:WS H CW A 0 [] [] [] []) (ak:AK Hm C CK CG A.gr df nm i wos wo) (gs:Goes df.2 nm i wo k (.body []) [] d)
  (q:∀v (O:OA) n H',Same Hm H'->WS H' CW A 1 [.ref O.t] [(Sum.inl 0,.non)] n []->H' O.t=some (.ins CO O.dx (Jz O))->Has H' v d->Q v H'):PM C CK CG CO CW H Q [.ref A.t,.int 0]
def Nz(C CK CG CO CW:Addr):Sp:=fun vs H Q _=>PM C CK CG CO CW H Q vs
theorem Ln(B:Blt mg)(TW:WCl K CW)(F:Fun K "want" "Walk.want" E6 f fd)(m:VO K CW "go_into" g)(G:Yf P w K mg base CX0 n g gd sn (FO C CK CG CO CW))(bG:Binds K gd sn []):Yf P w K mg base CX0 (n+1) f fd sn (Nz C CK CG CO CW):=by
 refine F.oi FU fun cdv A outer s H vs Q E hr h=>?_;obtain⟨Hm,A',df,nm,i,wos,wo,k,d,wf,sm,ws,ak,gs,q⟩:=h;have hu:=JF hr;refine⟨_,YY (Yu 2 FU.nd (VI))
  (YY (Y0 (Yn X1 (Y7 Y3 rfl B.len Zu (pa1 (Yz (pv 0) rfl))) Ya (Yv _)) Vk Yl)
  (YY (Y0 (Jx (Uy hu (pv 1) (Yz (pv 0) rfl))) Vk Yl)
  (YY (Y0 (Jx (Uy hu (pv 1) (Yz (pv 0) rfl))) Vk Yl)
  (YY (Vt hu (Yz (pv 0) rfl) (pv 1) (pv 2) rfl)
  (YY (Vt hu (Yz (pv 0) rfl) (pv 1) (Vg Vj) rfl)
  (YZ (Yh (Y6 (pv 0) TW.cl m G hr bG .nil Y4 (pa1 (pv 1)))))))))),?_⟩
 dsimp only[Vb,Cx.nox,Cx.wish];show let T0:=_;let T1:=Yk _ T0;let T2:=Yk _ T1;let T3:=Yk (VC _ _ _) T2;let T4:=Yk (VC _ _ _) T3;let T5:=Yk (VC _ _ _) T4;Yk _ T5 _ _ _
 intros
 refine⟨CW,_,_,_,ws.ins,TW.cl,TW.uw,M0 _,A'.uw,_,rfl,.inl (Z3 ws.uw),_,rfl,Yy (by decide +kernel) ?_⟩;refine⟨CW,_,_,_,ws.ins,TW.cl,TW.hs,E4 _,_,Vh.k (k:=Sum.inl 0) ws.hs,_,rfl,Yy (by decide +kernel) ?_⟩;refine⟨CW,_,_,_,ws.ins,TW.cl,TW.wr,E3 _,_,Vh.k (k:=Sum.inl 0) ws.wr,_,rfl,Yy (by decide +kernel) ?_⟩;refine⟨CW,_,_,_,ws.ins,TW.cl,TW.wr,E3 _,_,J5.k (k:=Sum.inl 0) ws.wr (Yq (by simp)),?_⟩;refine fld_in A'.wr _ fun H1 b1 x1=>?_;have ws1:=ws.rb wf b1 x1;have sm1:Same Hm H1:=JN wf.wr sm b1;refine⟨sl 0,fun l hl=>?_⟩;refine up_in hl _ fun H2 s2 g2=>?_;have ws2:=ws1.mono s2;refine⟨CW,_,_,_,ws2.ins,TW.cl,TW.wn,Q6 _,_,J5.k (k:=Sum.inl 0) ws2.wn (Yq (by simp)),?_⟩;refine fld_in A'.wn _ fun H3 b3 x3=>?_;have ws3:=ws2.nb wf b3 x3;have sm3:Same Hm H3:=JN wf.wn (sm1.trans s2) b3;exact⟨_,_,ws3.ins,SB _,Hm,A',_,_,_,df,nm,i,wos,wo,k,d,wf,sm3,ws3,ak,gs,fun v O H' s w o h=>q v O _ H' s w o h⟩
inductive PN(CW:Addr)(H:Hp)(Q:VK):List V->Prop
 |mk (Hm:Hp) (A:WA) (bg:Int) (us:List V) (r n:List (Key×V)) (y:V) (wf:WF Hm A) (ws:WS H CW A bg us r n [])
  (q:∀H',SameB A.hs H H'->WS H' CW A bg us r n [(Sum.inl 0,y)]->Q .non H'):PN CW H Q [.ref A.t,.int 0,y]
def N0(CW:Addr):Sp:=fun vs H Q _=>PN CW H Q vs
theorem Lm(TW:WCl K CW)(F:Fun K "end" "Walk.end" PZ f fd):Yf P w K mg base CX0 (n+1) f fd ["self","number","head"] (N0 CW):=by
 refine F.oi P1 fun cdv A outer s H vs Q E hr h=>?_;obtain⟨Hm,A',bg,us,r,n',y,wf,ws,q⟩:=h;have hu:=JF hr;refine⟨_,YZ (Vt hu (Yz (pv 0) rfl) (pv 1) (pv 2) rfl),?_⟩;dsimp only[Vb,Cx.nox,Cx.wish];refine⟨CW,_,_,_,ws.ins,TW.cl,TW.hs,E4 _,_,J5.k (k:=Sum.inl 0) ws.hs (Yq (by simp)),?_⟩;refine fld_in A'.hs _ fun H1 b1 x1=>?_;exact q H1 b1 (ws.hb wf b1 x1)
end
end K4
namespace L2
open PySem
def hdW(i:Nat)(ws:List Int):W->Dat
 |.tag t=>.tup [.str "tag",.str t]
 |_=>.tup [.str "pair",J4 i (ws++[0]),J4 i (ws++[1])]
theorem Mj{w:W}(h:w≠.non):hgD i ws w=.tup [.str "head",hdW i ws w]:=by
 cases w with
 |non=>exact Zr rfl h
 |tag t=>rfl
 |pair a b=>rfl
theorem KA(w:W):(hdW i ws w).ti=true:=by cases w <;> simp[hdW,Dat.ti,Dat.tis,We]
theorem PK(b:SameB p H H')(h:H p=some (.dK kvs)):TK H H':=fun a ys e=>b _ _ (fun z=>by rw[z,h]at e;cases e) e
inductive HC(C CO:Addr)(Hm:Hp)(A:WA)(i:Nat)(p:List Int)(w:W):Nat->St->Hp->Prop
 |s3 (t:Addr) (sm:Same Hm H) (ws:WS H C A 0 [] [] [] []) (h:H t=some (.tup [.str "want",.int 0])):HC C CO Hm A i p w 3 [some (.ref A.t),some (.int 0),some (.ref t),none] H
 |s2 (v:V) (O:OA) (n:List (Key×V)) (sm:Same Hm H) (ws:WS H C A 1 [.ref O.t] [(Sum.inl 0,.non)] n []) (ho:H O.t=some (.ins CO O.dx (Jz O))) (hv:Has H v (hgD i p w)):HC C CO Hm A i p w 2 [some (.ref A.t),some (.int 0),some v,none] H
 |s1 (t:Addr) (y:V) (z:Option V) (n:List (Key×V)) (sm:Same Hm H) (ws:WS H C A 1 [] [(Sum.inl 0,.non)] n [(Sum.inl 0,y)]) (ht:H t=some (.tup [.str "taken",y])) (hy:Has H y (hdW i p w)) (ne:w≠.non):HC C CO Hm A i p w 1 [some (.ref A.t),some (.int 0),some (.ref t),z] H
end L2
namespace K4
open PySem L2
section
variable{C CK CG CO CW CD:Addr}
theorem Q7(A:WA):(JQ A bg).lookup ("want":Str)=none:=rfl
theorem SD(A:WA):(JQ A bg).lookup ("end":Str)=none:=rfl
theorem AM(A:OA):(Jz A).lookup ("number":Str)=some (V.int 0):=rfl
theorem Fb:Yi ["self","number","stop","ended"] sn (Yd Wh):=Y2
inductive SHC(C CK CG CO CW:Addr)(H:Hp)(Q:VK):List V->Prop
 |mk (Hm:Hp) (A:WA) (df:Dd) (nm:Str) (i:Nat) (wos:List W) (wo:W) (k:Nat) (p:List Int) (w:W) (wf:WF Hm A) (sm:Same Hm H) (ws:WS H CW A 0 [] [] [] []) (ak:AK Hm C CK CG A.gr df nm i wos wo) (gs:Goes df.2 nm i wo k (.body []) [] (hgD i p w))
  (q:∀v us n h H',Same Hm H'->WS H' CW A 1 us [(Sum.inl 0,.non)] n h->(w=.non->h=[])->(w≠.non->∃y,h=[(Sum.inl 0,y)])->Has H' v (hgD i p w)->Q v H'):SHC C CK CG CO CW H Q [.ref A.t,.int 0]
def Po(C CK CG CO CW:Addr):Sp:=fun vs H Q _=>SHC C CK CG CO CW H Q vs
theorem S9(B:Blt mg)(TW:WCl K CW)(TO:OCl K CO)(F:Fun K "head_of_cell" "Doing.head_of_cell" Wh f fd)(m1:VO K CW "want" g1)(G1:Yf P w K mg base CX0 n g1 d1 sn (Nz C CK CG CO CW))(b1:Binds K d1 sn [])(m2:VO K CW "end" g2)(G2:Yf P w K mg base CX0 n g2 d2 ["self","number","head"] (N0 CW))(b2:Binds K d2 ["self","number","head"] []):Yf P w K mg base CX0 (n+1) f fd sn (Po C CK CG CO CW):=by
 refine F.oi Fb fun cdv A outer s H vs Q E hr h=>?_;obtain⟨Hm,A',df,nm,i,wos,wo,k,p,w',wf,sm,ws,ak,gs,q⟩:=h;refine⟨_,YY (Yu 2 Fb.nd (Yt (pa2 (Yw) (pv 1))))
  (YZ (G7 Zv (Ve Uo) (YZ (Y0 (Yn VQ (Yj (r:=VS K) Ym (pv 2) (Ya)) Yw (Yv _)) (YZ (Yu 2 Fb.nd (Y6 (pv 0) TW.cl m1 G1 hr b1 .nil Y4 (pa1 (Yj (r:=VS K) Ym (pv 2) (Ya)))))) (YZ (Y0 (Yn VQ (Yj (r:=VS K) Ym (pv 2) (Ya)) Yw (Yv _)) (YY (Yu 3 Fb.nd (IH Zz PySem.F.slot_list_pop PySem.F.type_list_pop Il (Yz (pv 0) rfl)))
  (YY (Vm (Y6 (pv 0) TW.cl m2 G2 hr b2 .nil Y4 (pa2 (Yz (pv 3) rfl) (Yj (r:=VS K) Ym (pv 2) (Ya)))))
  (YZ (Yu 2 Fb.nd (Yt (pa2 (Yw) (Yj (r:=VS K) Ym (pv 2) (Ya)))))))) (YZ (Y0 (Yn Up (Yj (r:=VS K) Ym (pv 2) (Ya)) Yw (Yv _)) (YZ (Yh (pv 2))) (YZ (Y0 (Yn VQ (Y7 Y3 rfl B.len Zu (pa1 (Yz (pv 0) rfl))) Ya (Yv _)) (YZ (Yh (Yt (pa2 (Yw) (Yj (r:=VS K) Ym (pv 2) (Ya)))))) Vk)))))))))),?_⟩
 dsimp only[Vb,Cx.nox,Cx.wish];show let T0:=_;let T1:=_;let T2:=Yk _ T1;let T3:=Yk _ T2;let T4:=_;let T5:=_;let T6:=VC _ T5 _;let T7:=VC _ T4 T6;let T8:=VC _ T3 T7;let T9:=VC _ T0 T8;let T10:=Rw _ T9;Yk _ T10 _ _ _
 intros
 refine⟨sl 2,fun t0 ht0=>?_⟩;refine up_in ht0 _ fun H0 s0 g0=>?_;refine⟨HC CW CO Hm A' i p w',⟨3,.s3 t0 (sm.trans s0) (ws.mono s0) g0⟩,?_⟩;intro m U H1 hc;refine⟨true,rfl,VE rfl ⟨fun U H'=>∃m',m'<m/\HC CW CO Hm A' i p w' m' U H',fun U' H' z=>z,?_⟩⟩
 cases hc with
 |s3 t sm1 ws1 ht=>
  refine⟨_,_,Z2 ht,at0,rfl,_,rfl,VE (by decide +kernel) ?_⟩;refine⟨_,_,ws1.ins,Q7 _,_,_,Z2 ht,at1,Hm,A',df,nm,i,wos,wo,k,_,wf,sm1,ws1,ak,gs,fun v O n H2 s2 w2 o2 hv=>?_⟩;exact⟨2,by decide,.s2 v O n s2 w2 o2 hv⟩
 |s2 v O n sm1 ws1 ho hv=>
  by_cases ne:w'=.non
  .subst ne
   have hv1:=hv;unfold hgD at hv;obtain⟨t,ys,rfl,ht,hl⟩:=Yr hv;obtain⟨x1,r1,rfl,e1,hlA⟩:=Yb hl;obtain rfl:=has_str e1;refine⟨_,_,Z2 ht,at0,rfl,_,rfl,Yy (by decide +kernel) ?_⟩;refine⟨_,_,Z2 ht,at0,rfl,_,rfl,Yy (by decide +kernel) ?_⟩;refine⟨_,_,Z2 ht,at0,rfl,_,rfl,VE (by decide +kernel) ?_⟩;exact q _ _ _ _ _ sm1 ws1 (fun _=>rfl) (fun z=>Zr rfl z) hv1
  .rw [Mj ne]at hv
   obtain⟨t,ys,rfl,ht,hl⟩:=Yr hv;obtain⟨x1,r1,rfl,e1,hlA⟩:=Yb hl;obtain⟨x2,r2,rfl,e2,hlB⟩:=Yb hlA;obtain rfl:=Y8 hlB;obtain rfl:=has_str e1;refine⟨_,_,Z2 ht,at0,rfl,_,rfl,Yy (by decide +kernel) ?_⟩;refine⟨_,_,Z2 ht,at0,rfl,_,rfl,VE (by decide +kernel) ?_⟩;refine⟨CW,_,_,_,ws1.ins,TW.cl,TW.uw,M0 _,.inl ⟨rfl,_,Z3 ws1.uw⟩,A'.uw,_,_,rfl,rfl,ws1.uw,rfl,?_⟩;refine fld_in A'.uw _ fun H2 b2 g2=>?_;have ws2:=ws1.ub b2 g2;have tk2:=Jf b2 ws1.uw;have sm2:Same Hm H2:=JN wf.uw sm1 b2;have ho2:=b2 _ _ (Jk ho ws1.uw (by intro z;cases z)) ho;refine⟨_,_,ws2.ins,SD _,CO,_,_,_,ho2,TO.cl,TO.nu,AM _,_,_,Z2 (tk2 _ _ ht),at1,Hm,A',1,_,_,_,x2,wf,ws2,fun H3 b3 ws3=>?_⟩;have tk3:=PK b3 ws2.hs;have sm3:Same Hm H3:=JN wf.hs sm2 b3;refine⟨_,_,Z2 (tk3 _ _ (tk2 _ _ ht)),at1,sl 2,fun t4 ht4=>?_⟩;refine up_in ht4 _ fun H4 s4 g4=>?_;refine⟨1,by decide,.s1 t4 x2 _ _ (sm3.trans s4) (ws3.mono s4) g4 ?_ ne⟩;exact(VP tk3 _ (KA _) (VP tk2 _ (KA _) e2)).mono s4
 |s1 t y z n sm1 ws1 ht hy ne=>
  refine⟨_,_,Z2 ht,at0,rfl,_,rfl,Yy (by decide +kernel) ?_⟩;refine⟨_,_,Z2 ht,at0,rfl,_,rfl,Yy (by decide +kernel) ?_⟩;refine⟨_,_,Z2 ht,at0,rfl,_,rfl,Yy (by decide +kernel) ?_⟩;refine⟨CW,_,_,_,ws1.ins,TW.cl,TW.uw,M0 _,A'.uw,_,rfl,.inl (Z3 ws1.uw),rfl,_,rfl,VE (by decide +kernel) ?_⟩;refine⟨_,_,Z2 ht,at1,sl 2,fun t4 ht4=>?_⟩;refine up_in ht4 _ fun H4 s4 g4=>?_;refine q _ _ _ _ _ (sm1.trans s4) (ws1.mono s4) (fun z=>Zr z ne) (fun _=>⟨y,rfl⟩) ?_;rw[Mj ne];exact Y1 g4 (Z4 VD (Z5 (hy.mono s4)))
end
end K4
namespace L2
open PySem
theorem RZ:∀{k:Nat}{c:W},[a,b][k]?=some c->(∀(j:Nat) e,j<k->[a,b][j]?=some e->VG e (ws++[(j:Int)])=none)->VG c (ws++[(k:Int)])=some r->VG (.pair a b) ws=some r
 |0,c,h,n,e=>by
  cases h;unfold VG;rw[show VG a (ws++[0])=some r from e]
 |1,c,h,n,e=>by
  cases h;unfold VG;rw[show VG a (ws++[0])=none from n 0 a (by decide) rfl];exact e
 |k+2,c,h,n,e=>by simp at h
theorem El(n:∀(j:Nat) e,j<2->[a,b][j]?=some e->VG e (ws++[(j:Int)])=none):VG (.pair a b) ws=none:=by
 unfold VG;rw[show VG a (ws++[0])=none from n 0 a (by decide) rfl];exact n 1 b (by decide) rfl
theorem GY:(Du.nev i ws).dat=hgD i ws .non:=by unfold Du.dat hgD;rfl
theorem Du.wo_dat:(Du.wo w).dat=.tup [.str "worth",w.dat]:=by unfold Du.dat;rfl
end L2
namespace K4
open PySem L2
section
variable{C CK CG CO CW CD:Addr}
theorem SA(A:WA):(JQ A bg).lookup ("head_of_thing":Str)=none:=rfl
theorem Oi(A:WA):(JQ A bg).lookup ("whole_of":Str)=none:=rfl
theorem CY:Yi ["self","thing"] ["self","thing"] (Yd Xn):=Y2
inductive SHT(CG CW:Addr)(H:Hp)(Q:VK):List V->Prop
 |mk (A:WA) (bg:Int) (us:List V) (r n h:List (Key×V)) (G:GA) (wos:List W) (i:Nat) (wo:W) (y:V) (way:List Int) (ws:WS H CW A bg us r n h) (ge:G.t=A.gr) (gv:GV H CG G wos) (hi:wos[i]?=some wo) (l3:wos.length<=3) (hy:Has H y (J4 i way)) (hw:Way way) (lw:way.length<=100)
  (q:∀u H',Same H H'->Has H' u (hgD i way (wo.part way))->Q u H'):SHT CG CW H Q [.ref A.t,y]
def LA(CG CW:Addr):Sp:=fun vs H Q _=>SHT CG CW H Q vs
theorem S7(TW:WCl K CW)(TG:GCl K CG)(F:Fun K "head_of_thing" "Doing.head_of_thing" Xn f fd)(m:VO K CG "head_given" g)(G:Yf P w K mg base CX0 n g gd iwy (LB CG))(bG:Binds K gd iwy []):Yf P w K mg base CX0 (n+1) f fd ["self","thing"] (LA CG CW):=by
 refine F.oi CY fun cdv A outer s H vs Q E hr h=>?_;obtain⟨A',bg,us,r,n',h',gA,wos,i,wo,y,way,ws,ge,gv,hi,l3,hy,hw,lw,q⟩:=h;refine⟨_,YY (Y0 (Yn VQ (Yj (r:=VS K) Ym (pv 1) (Ya)) Yw (Yv _)) (YZ (Yh (Y6 (Yz (pv 0) rfl) TG.cl m G hr bG .nil Y4 (pa2 (Yj (r:=VS K) Ym (pv 1) (Ya)) (Yj (r:=VS K) Ym (pv 1) (Ya)))))) Yl)
  Vk,?_⟩
 dsimp only[Vb,Cx.nox,Cx.wish];show let T0:=_;Yk (VC _ T0 _) _ _ _ _
 intros
 unfold J4 at hy;obtain⟨t,ys,rfl,ht,hl⟩:=Yr hy;obtain⟨x1,r1,rfl,e1,hlA⟩:=Yb hl;obtain⟨x2,r2,rfl,e2,hlB⟩:=Yb hlA;obtain⟨x3,r3,rfl,e3,hlC⟩:=Yb hlB;obtain rfl:=Y8 hlC;obtain rfl:=has_str e1;obtain rfl:x2=.int (i:Nat):=by unfold Has at e2;exact e2
 have sq:=Z2 (K:=K) ht;refine⟨_,_,sq,at0,rfl,_,rfl,VE (by decide +kernel) ?_⟩;refine⟨CW,_,_,_,ws.ins,TW.cl,TW.gr,E5 _,?_⟩;rw[<-ge];exact⟨_,_,gv.ins,PB _,_,_,sq,at1,_,_,sq,at2,gA,wos,i,wo,_,way,gv,hi,l3,e3,hw,lw,q⟩
abbrev shd:List Str:=["self","head"]
theorem FT:Yi ["self","head","found","thing","told"] shd (Yd X7):=Y2
inductive SWh(CG CW:Addr)(n:Nat)(H:Hp)(Q:VK):List V->Prop
 |mk (A:WA) (bg:Int) (us:List V) (r m h:List (Key×V)) (G:GA) (wos:List W) (i:Nat) (wo:W) (y:V) (way:List Int) (ws:WS H CW A bg us r m h) (ge:G.t=A.gr) (gv:GV H CG G wos) (hi:wos[i]?=some wo) (l3:wos.length<=3) (hy:Has H y (hdW i way (wo.part way))) (ne:wo.part way≠.non) (hw:Way way) (lw:way.length+n<=90) (dp:(wo.part way).dep<n)
  (q:∀u H',Same H H'->Has H' u (U6 (wo.part way) i way true).dat->Q u H'):SWh CG CW n H Q [.ref A.t,y]
def FJ(CG CW:Addr)(n:Nat):Sp:=fun vs H Q _=>SWh CG CW n H Q vs
theorem Sr(B:Blt mg)(TW:WCl K CW)(F:Fun K "whole_of" "Doing.whole_of" X7 f fd)(m1:VO K CW "head_of_thing" g1)(G1:Yf P w K mg base CX0 L g1 d1 ["self","thing"] (LA CG CW))(b1:Binds K d1 ["self","thing"] [])(m2:VO K CW "whole_of" f)(G2:Yf P w K mg base CX0 L f fd shd (FJ CG CW n))(b2:Binds K fd shd []):Yf P w K mg base CX0 (L+1) f fd shd (FJ CG CW (n+1)):=by
 refine F.oi FT fun cdv A outer s H vs Q E hr h=>?_;obtain⟨A',bg,us,r,m',h',gA,wos,i,wo,y,way,ws,ge,gv,hi,l3,hy,ne,hw,lw,dp,q⟩:=h;refine⟨_,YY (Y0 (Yn VQ (Yj (r:=VS K) Ym (pv 1) (Ya)) Yw (Yv _)) (YZ (Yh (Yt (pa2 (Yw) (Yj (r:=VS K) Ym (pv 1) (Ya)))))) Yl)
  (YY (Yu 2 FT.nd (Vg Vj))
  (YY (V1 Zv rfl (JV (V3 MF (pv 1) (JJ Ya) JK)) (Yp 3 FT.nd)
   (YY (Yu 4 FT.nd (Y6 (pv 0) TW.cl m1 G1 hr b1 .nil Y4 (pa1 (pv 3))))
  (YY (Y0 (Yn VQ (Yj (r:=VS K) Ym (pv 4) (Ya)) Yw (Yv _)) (YZ (Yu 4 FT.nd (Y6 (pv 0) TW.cl m2 G2 hr b2 .nil Y4 (pa1 (Yj (r:=VS K) Ym (pv 4) (Ya)))))) Yl)
  (YY (Y0 (Yn Up (Yj (r:=VS K) Ym (pv 4) (Ya)) Yw (Yv _)) (YZ (Yh (pv 4))) Yl)
  (YZ (Vm (XU Zz Z0 Z1 Je (pv 2) (pa1 (Yj (r:=VS K) Ym (pv 4) (Ya))))))))))
  (YZ (Yh (Yt (pa2 (Yw) (VL Vq rfl B.tuple VN (pa1 (pv 2))))))))),?_⟩
 dsimp only[Vb,Cx.nox,Cx.wish];show let T0:=_;let T1:=_;let T2:=_;let T3:=Yk (VC _ T2 _) T1;let T4:=_;let T5:=Yk (VC _ T4 _) T3;let T6:=Yk _ T5;let T7:=Yk (UH _ _ T6) T0;let T8:=Yk _ T7;let T9:=_;Yk (VC _ T9 _) T8 _ _ _
 intros
 cases ep:wo.part way with
 |non=>exact Zr ep ne
 |tag x=>
  rw[ep]at hy q;unfold hdW at hy;obtain⟨t,ys,rfl,ht,hl⟩:=Yr hy;obtain⟨x1,r1,rfl,e1,hlA⟩:=Yb hl;obtain⟨x2,r2,rfl,e2,hlB⟩:=Yb hlA;obtain rfl:=Y8 hlB;obtain rfl:=has_str e1;obtain rfl:=has_str e2;refine⟨_,_,Z2 ht,at0,rfl,_,rfl,VE (by decide +kernel) ⟨_,_,Z2 ht,at1,sl 2,fun p hp=>?_⟩⟩;refine up_in hp _ fun H1 s1 g1=>q _ _ s1 ?_;exact Ur g1 VD
 |pair a b=>
  have epd:(W.pair a b).dep=1+max a.dep b.dep:=by conv=>lhs;unfold W.dep
  rw[ep]at hy dp q;rw[epd]at dp;unfold hdW at hy;obtain⟨t,ys,rfl,ht,hl⟩:=Yr hy;obtain⟨x1,r1,rfl,e1,hlA⟩:=Yb hl;obtain rfl:=has_str e1;refine⟨_,_,Z2 ht,at0,rfl,_,rfl,Yy (by decide +kernel) ⟨sl 0,fun l fl=>?_⟩⟩;refine up_in fl _ fun H1 s1 gl=>?_;have lr:=hlA.length;refine⟨1,rfl,t,_,rfl,Z2 (s1 _ _ ht),by simp[HT.sIx],fun p hp=>?_⟩;refine up_in hp _ fun H2 s2 gp=>?_;have ec:UU (V.str "pair"::r1) (some 1) none=r1:=by simp[UU,HT.sIx]
  rw[ec]at gp;refine⟨⟨_,Z2 gp⟩,?_⟩;have gl2:=s2 _ _ gl;have hx2:=hlA.mono (s1.trans s2);have gv2:=gv.mono (s1.trans s2);have ws2:=ws.mono (s1.trans s2)
  let I:Nat->St->Hp->Prop:=fun k U H'=>∃vs z3 z4,U=[some (.ref A'.t),some (.ref t),some (.ref l),z3,z4]/\SameB l H2 H'/\H' l=some (.lst vs)/\HasL H' vs (([a,b].take k).map W.dat)/\∀(j:Nat) e,j<k->[a,b][j]?=some e->VG e (way++[(j:Int)])=none
  refine Mp (xs:=r1) I ⟨[],_,_,rfl,SameB.refl _ _,gl2,Z6,fun j e h=>Zr h (Zw _)⟩ (fun k U H' _ ⟨vs,z3,z4,_,sb,_⟩=>Z2 (Jf sb gl2 _ _ gp)) ?_ ?_
  .rintro k x U H3 hx ⟨vs,z3,z4,rfl,sb,hl3,hvs,nn⟩
   have tk3:=Jf sb gl2;have lvs:=hvs.length;have kl:=(ZF.mp hx).1;rw[Zf,Zf,List.length_nil]at lr
   obtain⟨c,hc,hxg,hwp⟩:∃c,[a,b][k]?=some c/\Has H3 x (J4 i (way++[(k:Int)]))/\(k:Int)∈ [(0:Int),1]/\wo.part (way++[(k:Int)])=c:=by
    obtain⟨d,hd1,hd2⟩:=hx2.get hx
    match k,hd1 with
    |0,hd1=>cases hd1;exact⟨a,rfl,VP tk3 _ (We _ _) hd2,by simp,by rw[UR way ep];rfl⟩
    |1,hd1=>cases hd1;exact⟨b,rfl,VP tk3 _ (We _ _) hd2,by simp,by rw[UR way ep];rfl⟩
    |k+2,hd1=>simp at hd1
   obtain⟨hk01,hwp⟩:=hwp
   have hw':Way (way++[(k:Int)]):=fun j hj=>by
    rcases ZX.mp hj with h|h
    .exact hw j h
    .rw [ZQ]at h
     subst h;simpa using hk01
   have cd:c.dep<n:=by
    have:=ZJ hc;rcases Zd.mp this with rfl|h
    .omega
    .rw [ZQ]at h;subst h;omega
   have ws3:=ws2.ob ws fl sb;have gv3:=gv2.sb sb gl2;have ll:(way++[(k:Int)]).length=way.length+1:=by rw[ZL,List.length_singleton]
   refine⟨_,_,ws3.ins,SA _,A',bg,us,r,m',h',gA,wos,i,wo,x,way++[(k:Int)],ws3,ge,gv3,hi,l3,hxg,hw',by omega,fun u H4 s4 hu=>?_⟩;rw[hwp]at hu;have sb4:=sb.trans s4.sb;have fin:∀{H5:Hp},SameB l H2 H5->Same H H5:=fun sb5=>JN fl (s1.trans s2) sb5
   by_cases nc:c=.non
   .subst nc
    have hu1:=hu;unfold hgD at hu;obtain⟨tu,yu,rfl,htu,hlu⟩:=Yr hu;obtain⟨xu,ru,rfl,eu,_⟩:=Yb hlu;obtain rfl:=has_str eu;refine⟨_,_,Z2 htu,at0,rfl,_,rfl,Yy (by decide +kernel) ?_⟩;refine⟨_,_,Z2 htu,at0,rfl,_,rfl,VE (by decide +kernel) ?_⟩;refine q _ _ (fin sb4) ?_;unfold U6;rw[RZ hc nn (show VG .non (way++[(k:Int)])=some _ by unfold VG;rfl)];show Has H4 _ (Du.nev i (way++[(k:Int)])).dat;rw[GY];exact hu1
   .rw [Mj nc]at hu
    obtain⟨tu,yu,rfl,htu,hlu⟩:=Yr hu;obtain⟨xu,ru,rfl,eu,hluA⟩:=Yb hlu;obtain⟨xv,rv,rfl,ev,hluB⟩:=Yb hluA;obtain rfl:=Y8 hluB;obtain rfl:=has_str eu;refine⟨_,_,Z2 htu,at0,rfl,_,rfl,VE (by decide +kernel) ?_⟩;refine⟨_,_,(ws3.mono s4).ins,Oi _,_,_,Z2 htu,at1,A',bg,us,r,m',h',gA,wos,i,wo,xv,way++[(k:Int)],ws3.mono s4,ge,gv3.mono s4,hi,l3,by rw[hwp];exact ev,by rw[hwp];exact nc,hw',by omega,by rw[hwp];exact cd,fun u5 H5 s5 hu5=>?_⟩;rw[hwp]at hu5;unfold U6 at hu5;have sb5:=sb4.trans s5.sb
    cases ef:VG c (way++[(k:Int)])with
    |some rr=>
     rw[ef]at hu5;have hu6:Has H5 u5 (Du.nev i rr).dat:=hu5;rw[GY]at hu6;have hu7:=hu6;unfold hgD at hu6;obtain⟨tu,yu,rfl,htu,hlu⟩:=Yr hu6;obtain⟨xu,ru,rfl,eu,_⟩:=Yb hlu;obtain rfl:=has_str eu;refine⟨_,_,Z2 htu,at0,rfl,_,rfl,VE (by decide +kernel) ?_⟩;refine q _ _ (fin sb5) ?_;unfold U6;rw[RZ hc nn ef];show Has H5 _ (Du.nev i rr).dat;rw[GY];exact hu7
    |none=>
     rw[ef]at hu5;have hu6:Has H5 u5 (Du.wo c).dat:=hu5;rw[Du.wo_dat]at hu6;obtain⟨tu,yu,rfl,htu,hlu⟩:=Yr hu6;obtain⟨xu,ru,rfl,eu,hluA⟩:=Yb hlu;obtain⟨xw,rw',rfl,ew,hluB⟩:=Yb hluA;obtain rfl:=Y8 hluB;obtain rfl:=has_str eu;refine⟨_,_,Z2 htu,at0,rfl,_,rfl,Yy (by decide +kernel) ?_⟩;have hl5:=s5 _ _ (s4 _ _ hl3);refine⟨.inl ⟨rfl,_,Z3 hl5⟩,_,_,Z2 htu,at1,l,_,_,rfl,rfl,hl5,Yq (by rw[ZA,ZN]at lvs;omega),?_⟩;refine fld_in l _ fun H6 b6 g6=>?_;have tk6:=Jf b6 hl5;refine⟨_,_,_,rfl,sb5.trans b6,g6,?_,?_⟩
     .rw [take_snoc hc,ZK]
      refine Z7 (UD tk6 _ (J9 fun d hd=>?_) (hvs.mono (s4.trans s5))) (Z5 (VP tk6 _ (W.ti _) ew));obtain⟨u,_,rfl⟩:=ZW.mp hd;exact W.ti u
     .intro j e hj he
      rcases Nat.lt_or_ge j k with h|h
      .exact nn j e h he
      .have:j=k:=by omega
       subst this;rw[hc]at he;cases he;exact ef
  .rintro U H3 ⟨vs,z3,z4,rfl,sb,hl3,hvs,nn⟩
   rw[Zf,Zf,List.length_nil]at lr;rw[lr]at hvs nn;refine⟨l,vs,rfl,.inl ⟨Z3 hl3,fun p1 hp1=>?_⟩⟩;refine up_in hp1 _ fun H4 s4 g4=>⟨sl 2,fun p2 hp2=>?_⟩;refine up_in hp2 _ fun H5 s5 g5=>?_;refine q _ _ (JN fl (s1.trans s2) ((sb.trans s4.sb).trans s5.sb)) ?_;unfold U6;rw[El nn];refine Ur g5 ?_;unfold W.dat;exact Y1 (s5 _ _ g4) (hvs.mono (s4.trans s5))
theorem Oh(B:Blt mg)(TW:WCl K CW)(F:Fun K "whole_of" "Doing.whole_of" X7 f fd)(m1:VO K CW "head_of_thing" g1)(G1:Yf P w K mg base CX0 L g1 d1 ["self","thing"] (LA CG CW))(b1:Binds K d1 ["self","thing"] [])(m2:VO K CW "whole_of" f)(b2:Binds K fd shd []):∀n:Nat,Yf P w K mg base CX0 (L+n) f fd shd (FJ CG CW n)
 |0=>.none fun vs H Q E h=>by
  obtain⟨A',bg,us,r,m',h',gA,wos,i,wo,y,way,ws,ge,gv,hi,l3,hy,ne,hw,lw,dp,q⟩:=h;exact Zr dp (by omega)
 |n+1=>Sr B TW F m1 (G1.mono (Nat.le_add_right _ _)) b1 m2 (Oh B TW F m1 G1 b1 m2 b2 n) b2
end
end K4
namespace L2
open PySem
theorem Nb:∀(ws pre:List Int){w u:W},Fit w ws->goW w pre ws=.inr u->w.part ws=u/\u≠.non
 |[],pre,.non,u,f,h=>by rw[Jh]at h;cases h
 |[],pre,.tag t,u,f,h=>by rw[XO]at h;cases h;exact⟨by unfold W.part;rfl,by intro z;cases z⟩
 |[],pre,.pair a b,u,f,h=>by rw[Ge]at h;cases h;exact⟨by unfold W.part;rfl,by intro z;cases z⟩
 |i::r,pre,.non,u,f,h=>by rw[Jh]at h;cases h
 |i::r,pre,.tag t,u,f,h=>by unfold Fit at f;cases f
 |i::r,pre,.pair a b,u,f,h=>by
  unfold Fit at f;rw[J3]at h;have:=Nb r _ f.2 h;refine⟨?_,this.2⟩;unfold W.part
  by_cases z:i=0
  .rw [Zp z]at this |-;exact this.1
  .rw [Zq z]at this |-;exact this.1
theorem itd{kvs:List (Key×V)}(h:H d=some (.frz o (.dK kvs))):Itx (Itd d o kvs) H (kvs.map fun kv=>kV kv.1):=⟨fun i hi=>⟨h,by rw[ZA]at hi;exact hi⟩,⟨h,by rw[ZA]⟩,fun i x H' y=>by
 obtain⟨e,kv,h1,rfl⟩:=y;exact⟨e,by rw[ZH,h1];rfl⟩⟩
theorem Le(K:W.Frag)(he:PE X e ta)(hb:attributeBase e f X.env (eval e X.env)=eval e X.env)(hK:X.K=K:=by rfl):PE X (.Attribute e f pos) (Pb K ta f):=by
 subst hK;exact Yz he hb
end L2
namespace K4
open PySem L2
section
variable{C CK CG CO CW CD:Addr}
theorem Oj(A:WA):(JQ A bg).lookup ("head_of_cell":Str)=none:=rfl
theorem Ol(A:WA):(JQ A bg).lookup ("birth_of":Str)=none:=rfl
theorem Aj(A:GA):(TZ A).lookup ("births":Str)=some (V.ref A.bs):=rfl
theorem Ot:Yi ["self","whole","told"] ["self","whole"] (Yd Tl):=Y2
inductive Av(C CK CG CO CW:Addr)(H:Hp)(Q:VK):List V->Prop
 |mk (Hm:Hp) (A:WA) (df:Dd) (nm:Str) (i:Nat) (wos:List W) (wo:W) (k:Nat) (way:List Int) (full:Bool) (wf:WF Hm A) (sm:Same Hm H) (ws:WS H CW A 0 [] [] [] []) (ak:AK Hm C CK CG A.gr df nm i wos wo) (gs:Goes df.2 nm i wo k (.body []) [] (UA i wo way)) (hw:Way way) (lw:way.length<=10) (fit:Fit wo way) (dp:wo.dep<3)
  (q:∀v us n h H',Same Hm H'->WS H' CW A 1 us [(Sum.inl 0,.non)] n h->(∀p,goW wo [] way=.inl p->h=[])->(∀u,goW wo [] way=.inr u->∃y,h=[(Sum.inl 0,y)])->Has H' v (due wo i way full).dat->Q v H'):Av C CK CG CO CW H Q [.ref A.t,.bl full]
def FL(C CK CG CO CW:Addr):Sp:=fun vs H Q _=>Av C CK CG CO CW H Q vs
theorem QP(TW:WCl K CW)(F:Fun K "outcome" "Doing.outcome" Tl f fd)(m1:VO K CW "head_of_cell" g1)(G1:Yf P w K mg base CX0 n g1 d1 sn (Po C CK CG CO CW))(b1:Binds K d1 sn [])(m2:VO K CW "whole_of" g2)(G2:Yf P w K mg base CX0 n g2 d2 shd (FJ CG CW 3))(b2:Binds K d2 shd []):Yf P w K mg base CX0 (n+1) f fd ["self","whole"] (FL C CK CG CO CW):=by
 refine F.oi Ot fun cdv A outer s H vs Q E hr h=>?_;obtain⟨Hm,A',df,nm,i,wos,wo,k,way,full,wf,sm,ws,ak,gs,hw,lw,fit,dp,q⟩:=h;refine⟨_,YY (Yu 2 Ot.nd (Y6 (pv 0) TW.cl m1 G1 hr b1 .nil Y4 (pa1 (Ya))))
  (YY (Y0 (Yn Up (Yj (r:=VS K) Ym (pv 2) (Ya)) Yw (Yv _)) (YZ (Yh (pv 2))) Yl)
  (YY (Y0 (Ve (pv 1)) (YZ (Yh (Y6 (pv 0) TW.cl m2 G2 hr b2 .nil Y4 (pa1 (Yj (r:=VS K) Ym (pv 2) (Ya)))))) Yl)
  (YY (Y0 (Yn VQ (Yj (r:=VS K) Ym (Yj (r:=VS K) Ym (pv 2) (Ya)) (Ya)) Yw (Yv _)) (YZ (Yh (Yt (pa2 (Yw) (Yt (pa2 (VI) (VI))))))) Yl)
  (YZ (Yh (Yt (pa2 (Yw) (Yj (r:=VS K) Ym (Yj (r:=VS K) Ym (pv 2) (Ya)) (Ya))))))))),?_⟩
 show let T0:=_;let T1:=_;let T2:=Yk (VC _ T1 _) T0;let T3:=_;let T4:=Yk (VC _ T3 _) T2;let T5:=_;let T6:=Yk (VC _ T5 _) T4;Yk _ T6 _ _ _
 intros
 cases eg:goW wo [] way with
 |inl p=>
  have es:UA i wo way=hgD i p .non:=by unfold UA;rw[eg]
  rw[es]at gs;refine⟨_,_,ws.ins,Oj _,Hm,A',df,nm,i,wos,wo,k,p,.non,wf,sm,ws,ak,gs,fun v us n h H1 s1 w1 h1 h2 hv=>?_⟩;have hv1:=hv;unfold hgD at hv;obtain⟨t,ys,rfl,ht,hl⟩:=Yr hv;obtain⟨x1,r1,rfl,e1,hlA⟩:=Yb hl;obtain rfl:=has_str e1;refine⟨_,_,Z2 ht,at0,rfl,_,rfl,VE (by decide +kernel) ?_⟩;refine q _ _ _ _ _ s1 w1 (fun _ _=>h1 rfl) (fun u z=>by rw[eg]at z;cases z) ?_;unfold due;rw[eg];show Has H1 _ (Du.nev i p).dat;rw[GY];exact hv1
 |inr u=>
  obtain⟨eu,nu⟩:=Nb way [] fit eg;have ud:u.dep<3:=Nat.lt_of_le_of_lt (Gf way [] wo eg) dp;have es:UA i wo way=hgD i way u:=by unfold UA;rw[eg]
  have ed:due wo i way full=U6 u i way full:=by unfold due;rw[eg]
  rw[es]at gs;rw[ed]at q;refine⟨_,_,ws.ins,Oj _,Hm,A',df,nm,i,wos,wo,k,way,u,wf,sm,ws,ak,gs,fun v us n h H1 s1 w1 h1 h2 hv=>?_⟩;rw[Mj nu]at hv;obtain⟨t,ys,rfl,ht,hl⟩:=Yr hv;obtain⟨x1,r1,rfl,e1,hlA⟩:=Yb hl;obtain⟨x2,r2,rfl,e2,hlB⟩:=Yb hlA;obtain rfl:=Y8 hlB;obtain rfl:=has_str e1;have c1:∀p,goW wo [] way=.inl p->h=[]:=fun p z=>by rw[eg]at z;cases z
  have c2:∀u,goW wo [] way=.inr u->∃y,h=[(Sum.inl 0,y)]:=fun _ _=>h2 nu;refine⟨_,_,Z2 ht,at0,rfl,_,rfl,Yy (by decide +kernel) ?_⟩
  cases full with
  |true=>
   refine⟨_,rfl,VE rfl ?_⟩;obtain⟨G,ks,d,ds,eG,b,m,g⟩:=(ak.mono s1).gd;refine⟨_,_,w1.ins,Oi _,_,_,Z2 ht,at1,A',1,us,_,n,h,G,wos,i,wo,x2,way,w1,eG,g.gv,ak.hw,ak.l3,by rw[eu];exact e2,by rw[eu];exact nu,hw,by omega,by rw[eu];exact ud,fun v2 H2 s2 hv2=>?_⟩;rw[eu]at hv2;exact q _ _ _ _ _ (s1.trans s2) (w1.mono s2) c1 c2 hv2
  |false=>
   refine⟨_,rfl,Yy Zi ?_⟩
   cases u with
   |non=>exact Zr rfl nu
   |tag x=>
    unfold hdW at e2;obtain⟨t2,ys,rfl,ht2,hl2⟩:=Yr e2;obtain⟨y1,r1,rfl,f1,hm1⟩:=Yb hl2;obtain⟨y2,r2,rfl,f2,hm2⟩:=Yb hm1;obtain rfl:=Y8 hm2;obtain rfl:=has_str f1;refine⟨_,_,Z2 ht,at1,_,_,Z2 ht2,at0,rfl,_,rfl,Yy (by decide +kernel) ?_⟩;refine⟨_,_,Z2 ht,at1,_,_,Z2 ht2,at1,sl 2,fun t3 ht3=>?_⟩;refine up_in ht3 _ fun H2 s2 g2=>?_;refine q _ _ _ _ _ (s1.trans s2) (w1.mono s2) c1 c2 (Ur (wo:=.tag x) g2 ?_);unfold W.dat;exact f2.mono s2
   |pair a b=>
    unfold hdW at e2;obtain⟨t2,ys,rfl,ht2,hl2⟩:=Yr e2;obtain⟨y1,r1,rfl,f1,hm1⟩:=Yb hl2;obtain rfl:=has_str f1;refine⟨_,_,Z2 ht,at1,_,_,Z2 ht2,at0,rfl,_,rfl,VE (by decide +kernel) ⟨sl 2,fun t3 ht3=>?_⟩⟩;refine up_in ht3 _ fun H2 s2 g2=>⟨sl 2,fun t4 ht4=>?_⟩;refine up_in ht4 _ fun H3 s3 g3=>?_;refine q _ _ _ _ _ ((s1.trans s2).trans s3) (w1.mono (s2.trans s3)) c1 c2 (Ur (wo:=.pair .non .non) g3 ?_);have hn:∀{H:Hp},Has H V.non W.non.dat:=by intro H;unfold W.dat Has;rfl
    conv=>arg 3;unfold W.dat
    exact Y1 (s3 _ _ g2) (Z4 hn (Z5 hn))
theorem Sa:Yi sn sn (Yd Gg):=Y2
inductive Q3(CG CW:Addr)(H:Hp)(Q:VK):List V->Prop
 |zero (A:WA) (bg:Int) (G:GA) (F:Str) (ns:List Str) (wos:List W) (ins:H A.t=some (.ins CW A.dx (JQ A bg))) (ge:G.t=A.gr) (gd:GD H CG G F ns wos) (q:∀e,H e=some (.tup [])->Q (.ref e) H):Q3 CG CW H Q [.ref A.t,.int 0]
 |non (A:WA) (q:Q .non H):Q3 CG CW H Q [.ref A.t,.non]
def FP(CG CW:Addr):Sp:=fun vs H Q _=>Q3 CG CW H Q vs
theorem QX(TW:WCl K CW)(TG:GCl K CG)(F:Fun K "birth_of" "Walk.birth_of" Gg f fd):Yf P w K mg base CX0 (n+1) f fd sn (FP CG CW):=by
 refine F.oi Sa (len:=fun vs H Q E h=>by cases h <;> rfl) fun cdv A outer s H vs Q E hr h=>?_;refine⟨_,YY (Y0 (Yn Ud (pv 1) VI (Yv _)) (YZ (Yh (VI))) Yl)
  (YZ (Yh (Yj VA (Yz (Yz (pv 0) rfl) rfl) (pv 1) (fun _ _=>rfl)))),?_⟩
 dsimp only[Vb,Cx.nox,Cx.wish];show let T0:=_;let T1:=_;Yk (VC _ T1 _) T0 _ _ _
 intros
 rcases h with⟨A',bg,G,F,ns,wos,ins,ge,gd,q⟩|⟨A',q⟩
 .refine ⟨rfl,_,rfl,Yy (by decide +kernel) ?_⟩
  refine⟨CW,_,_,_,ins,TW.cl,TW.gr,E5 _,?_⟩;obtain⟨e,h1,h2⟩:=gd.bs;rw[<-ge];exact⟨CG,_,_,_,gd.gv.ins,TG.cl,TG.bs,Aj _,_,_,Z3 h1,at0,q e h2⟩
 .exact ⟨rfl,_,rfl,VE (by decide +kernel) q⟩
theorem P8:Yi ["self"] ["self"] (Yd E8):=Y2
theorem AW:List.Nodup [("number":Str),"self"]:=by decide +kernel
def Dy(h:List (Key×V)):Dat:=.lst (h.map fun _=>.tup [.tup [],.non])
inductive SDone(CG CW:Addr)(H:Hp)(Q:VK):List V->Prop
 |mk (Hm:Hp) (A:WA) (us:List V) (n h:List (Key×V)) (G:GA) (F:Str) (ns:List Str) (wos:List W) (wf:WF Hm A) (sm:Same Hm H) (ws:WS H CW A 1 us [(Sum.inl 0,.non)] n h) (ge:G.t=A.gr) (gd:GD Hm CG G F ns wos) (hh:h=[] \/ ∃y,h=[(Sum.inl 0,y)])
  (q:∀u H',Same Hm H'->TK H H'->Has H' u (Dy h)->Q u H'):SDone CG CW H Q [.ref A.t]
def N3(CG CW:Addr):Sp:=fun vs H Q _=>SDone CG CW H Q vs
theorem Ly(TW:WCl K CW)(F:Fun K "done" "Walk.done" E8 f fd)(m:VO K CW "birth_of" g)(G:Yf P w K mg base CX0 n g gd sn (FP CG CW))(bG:Binds K gd sn []):Yf P w K mg base CX0 (n+1) f fd ["self"] (N3 CG CW):=by
 refine F.oi P8 fun cdv A outer s H vs Q E hr h=>?_;obtain⟨Hm,A',us,n',h',gA,F',ns,wos,wf,sm,ws,ge,gd,hh,q⟩:=h;have hu:=JF hr;refine⟨_,YZ (Yh (V6 ["number"] [0] (La (Yz (pv 0) rfl)) (Vu (i:=0) (by decide)) (fun cl C fp s H=>Yp 0 AW rfl (Or.inl rfl) (Or.inr rfl)) (fun cl C fp s H=>Yt (pa2 (Y6 (pv 1) TW.cl m G hr bG .nil Y4 (pa1 (pv 0))) (Y6 (pv 1) TW.cl m G hr bG .nil Y4 (pa1 (Vc hu (Le K (pv 1) rfl) (pv 0) (fun _ _=>rfl)))))))),?_⟩;dsimp only[Vb,Cx.nox,Cx.wish];refine⟨CW,_,_,_,ws.ins,TW.cl,TW.hs,E4 _,A'.hs,_,rfl,ws.hs,fun o=>?_⟩;refine fld_in A'.hs _ fun H1 b1 g1=>?_;have tk1:=PK b1 ws.hs;have sm1:Same Hm H1:=JN wf.hs sm b1;have in1:=b1 _ _ (Jk ws.ins ws.hs (by intro z;cases z)) ws.ins;have wr1:=b1 _ _ wf.d2 ws.wr
 have ek:h'.map (fun kv=>kV kv.1)=h'.map fun _=>V.int 0:=by
  rcases hh with rfl|⟨y,rfl⟩ <;> rfl
 have hx:HasL H1 (h'.map fun kv=>kV kv.1) (h'.map fun _=>Dat.int 0):=by
  rcases hh with rfl|⟨y,rfl⟩
  .exact Z6
  .exact Z5 (by unfold Has;rfl)
 refine UV (us:=h') (D:=fun _=>.int 0) (F:=fun _=>.tup [.tup [],.non]) (fun H' s=>itd (s _ _ g1)) hx (by rcases hh with rfl|⟨y,rfl⟩ <;> simp) (fun kv x H2 R hm s2 hx2 hR=>?_) fun vs p H2 fp s2 hp hvs=>?_
 .have e:x=.int 0:=by unfold Has at hx2;exact hx2
  subst e;refine⟨_,_,s2 _ _ in1,Ol _,.zero A' 1 gA F' ns wos (s2 _ _ in1) ge (gd.mono (sm1.trans s2)) fun e he=>?_⟩;refine⟨_,_,s2 _ _ in1,Ol _,CW,_,_,_,s2 _ _ in1,TW.cl,TW.wr,E3 _,_,Vh.k (k:=Sum.inl 0) (s2 _ _ wr1),?_⟩;refine .non A' ⟨sl 2,fun t ht=>?_⟩;refine up_in ht _ fun H3 s3 g3=>hR _ _ s3 ?_;exact Y1 g3 (Z4 (Y1 (s3 _ _ he) Z6) (Z5 (by unfold Has;rfl)))
 .refine q _ H2 (sm1.trans s2) (fun b ys h=>s2 _ _ (tk1 _ _ h)) ?_
  unfold Dy Has;exact⟨p,vs,rfl,hp,hvs⟩
end
end K4
namespace L2
open PySem
structure DE(K:W.Frag)(x qual:Str)(st:Stmt)(f:Addr)(fd:FuncData):Prop where
 ex:∃(oc:Value)(od:Option Addr)(kV doc pm:Value)(an:Option Addr)(cdv ct:Value)(osl:Array (Option Value))(T:Addr)(tc:Value)(td:Option Addr)(tn:Nat)(tl:Array (Option Value)),
  fd=W.fnOf x qual (JM st) (Vv st) (Yd st) (.ref T) kV doc pm an cdv ct/\K.lookup f=some ⟨oc,od,.func fd,osl⟩/\W.codeIn K cdv qual=true/\K.lookup T=some ⟨tc,td,.seq #[.bool false] tn,tl⟩
 kp:W.keepIn K (.ref f)=true
theorem DE.oi{K:W.Frag}{st:Stmt}(F:DE K x qual st f fd)(S:Yi N ps (Yd st))(hbody:∀(cdv:Value)(A:Around)(outer:List Env)(s:Shared)(H:Hp)(vs:List V)(Q:VK)(E:XK),Vs k (A.deeper (PyProof.Rows.envOfC qual (Yd st) s.heap.objs.size f cdv))->sp vs H Q E->
   ∃t,PSs (Vb CX0 P w K mg base N qual (Yd st) f cdv A outer s H E).nox (Vv st) t/\t {nx:=fun _ H'=>Q .non H',rt:=Q} (start N vs) H)(len:∀vs H Q E,sp vs H Q E->vs.length=ps.length:=by intro vs H Q E h;cases h;rfl):Yf P w K mg base CX0 (k+1) f fd ps sp:=by
 obtain⟨oc,od,kV,doc,pm,an,cdv,ct,osl,T,tc,td,tn,tl,rfl,lk,hcd,_⟩:=F.ex;refine PF lk hcd S len fun A outer s H vs Q E hr hsp=>?_;obtain⟨t,h,q⟩:=hbody cdv A outer s H vs Q E hr hsp;exact⟨t,h.nox,q⟩
theorem DE.b5{K:W.Frag}{st:Stmt}(F:DE K x qual st f fd)(p p1 p2 p3 p4:Str)(h:∀(a b c d e T kV doc pm:Value)(an:Option Addr)(cdv ct:Value),∃k:Option (Array Value)->Sem (List (Str×Value)),bindArgs (W.fnOf x qual (JM st) (Vv st) (Yd st) T kV doc pm an cdv ct) ⟨[a,b,c,d,e],[]⟩=seqItems? T >>=k/\k (some #[.bool false])=pure ([p,p1,p2,p3,p4].zip [a,b,c,d,e]):=by
   exact fun _ _ _ _ _ _ _ _ _ _ _ _=>⟨_,rfl,rfl⟩):Binds K fd [p,p1,p2,p3,p4] []:=fun s us X hl=>by
 obtain⟨oc,od,kV,doc,pm,an,cdv,ct,osl,T,tc,td,tn,tl,rfl,lk,hcd,lt⟩:=F.ex
 match us,hl with
 |[a,b,c,d,e],_=>
  obtain⟨k,h1,h2⟩:=h a b c d e (.ref T) kV doc pm an cdv ct;exact BindsTo.of_defaults rfl (X _ _ lt) rfl h1 h2
theorem Du.ti(d:Du):d.dat.ti=true:=by cases d <;> simp[Du.dat,Dat.ti,Dat.tis,UG,W.ti]
def Wx(wo:W)(way:List Int):Bool:=match goW wo [] way with
 |.inl _=>true
 |.inr _=>false
def dnD(b:Bool):Dat:=.lst (if b then[]else[.tup [.tup [],.non]])
end L2
namespace K4
open PySem L2
section
variable{C CK CG CO CW CD:Addr}
abbrev wop:List Str:=["book","F","worths","most"]
abbrev Od:List Str:=["book","F","worths","most","whole"]
theorem Q8(A:WA):(JQ A bg).lookup ("outcome":Str)=none:=rfl
theorem SE(A:WA):(JQ A bg).lookup ("done":Str)=none:=rfl
theorem CN:Yi wop wop (Yd MN):=Y2
theorem Ff:Yi ["book","F","worths","most","whole","walk","outcome"] Od (Yd MY):=Y2
structure RA1(H:Hp)(C CK bk gv:Addr)(df:Dd)(wos:List W):Prop where
 ex:∃(xs:List V)(ks:List (Str×Shp))(d:Str->Nat)(ds:List Dd),BI H C CK bk ks d ds/\df∈ds/\H gv=some (.tup xs)/\HasL H xs (wos.map W.dat)/\∀(i:Nat)(p:Str×Str)(u:W),df.1.2.1[i]?=some p->wos[i]?=some u->okW ks u p.2/\u.dep<3
 ln:wos.length=df.1.2.1.length
 l3:df.1.2.1.length<=3
 nd:(df.1.2.1.map (·.1)).Nodup
inductive SWO(C CK CG CW:Addr)(H:Hp)(Q:VK):List V->Prop
 |mk (bk gv:Addr) (df:Dd) (wos:List W) (ra:RA1 H C CK bk gv df wos)
  (q:∀(A:WA) Hm H',Same H Hm->WF Hm A->Same Hm H'->WS H' CW A 0 [] [] [] []->(∃G:GA,G.t=A.gr/\G.bk=bk/\GD Hm CG G df.1.1 (df.1.2.1.map (·.1)) wos)->Q (.ref A.t) H'):SWO C CK CG CW H Q [.ref bk,.str df.1.1,.ref gv,.int 1]
def Pg(C CK CG CW:Addr):Sp:=fun vs H Q _=>SWO C CK CG CW H Q vs
theorem Sm(F:Fun K "walk_of" "walk_of" MN f fd)(DA:Df P w K mg base (n+1) "check_asking" bfw (EI C CK .non))(DM:Df P w K mg base (n+1) "check_most" ["most","highest"] Py)(hC:mg "MOST_CELLS"=some u1)(rC:RelV (.int 500) u1)(mW:mg "Walk"=some (.ref CW))(MW:Mk K CW g1)(GW:Yf P w K mg base CX0 n g1 d1 ["self","ground","most"] (Ph CW))(bW:Binds K d1 ["self","ground","most"] [])(mG:mg "Ground"=some (.ref CG))(MG:Mk K CG g2)(GG:Yf P w K mg base CX0 n g2 d2 ["self","book","F","worths"] (Pp C CK CG))(bG:Binds K d2 ["self","book","F","worths"] []):Yf P w K mg base CX0 (n+2) f fd wop (Pg C CK CG CW):=by
 refine F.oi CN fun cdv A outer s H vs Q E hr h=>?_;obtain⟨bk,gv,df,wos,ra,q⟩:=h;refine⟨_,YY (Vm (VJ DA hr (pa3 (pv 0) (pv 1) (pv 2))))
  (YY (Vm (VJ DM hr (pa2 (pv 3) (JE rfl hC rC))))
  (YZ (Yh (Xz MW GW hr rfl mW bW .nil Y4 (pa2 (Xz MG GG hr rfl mG bG .nil Y4 (pa3 (pv 0) (pv 1) (pv 2))) (pv 3)))))),?_⟩
 show let T0:=_;let T1:=Yk _ T0;Yk _ T1 _ _ _
 intros
 obtain⟨xs,ks,d,ds,bi,hd,hg,hx,okw⟩:=ra.ex;refine⟨bk,gv,xs,ks,d,ds,df,wos,bi,hd,hg,hx,ra.ln,ra.l3,okw,fun H1 s1=>?_⟩;refine⟨1,500,by decide,by decide,?_⟩;intro x dx hx0 hdx hne;have sX:Same H1 (upd (upd H1 dx (.own x)) x (.ins CG dx [])):=fun b o e=>by rw[Yg (Yc e hx0),Yg (Yc e hdx)];exact e
 have tx:upd (upd H1 dx (.own x)) x (.ins CG dx []) x=some (.ins CG dx []):=Ye;generalize upd (upd H1 dx (.own x)) x (.ins CG dx [])=H2 at tx sX |-;refine⟨H1,x,dx,bk,gv,xs,ks,d,ds,df,wos,hx0,sX,tx,bi.mono s1,hd,s1 _ _ hg,hx.mono s1,ra.ln,ra.l3,ra.nd,fun G H3 e1 e2 s3 gd=>⟨rfl,?_⟩⟩;intro y dy hy0 hdy hne2;have sY:Same H3 (upd (upd H3 dy (.own y)) y (.ins CW dy [])):=fun b o e=>by rw[Yg (Yc e hy0),Yg (Yc e hdy)];exact e
 have ty:upd (upd H3 dy (.own y)) y (.ins CW dy []) y=some (.ins CW dy []):=Ye;generalize upd (upd H3 dy (.own y)) y (.ins CW dy [])=H4 at ty sY |-;refine⟨H3,y,dy,x,hy0,sY,ty,fun A' H5 f1 f2 wf s5 ws=>⟨rfl,?_⟩⟩;rw[<-f1];exact q A' H3 H5 (s1.trans s3) wf s5 ws ⟨G,by rw[e1,f2],e2,gd⟩
inductive A2(C CK:Addr)(H:Hp)(Q:VK):List V->Prop
 |mk (bk gv:Addr) (df:Dd) (wos:List W) (nm:Str) (i:Nat) (wo:W) (k:Nat) (way:List Int) (full:Bool) (ra:RA1 H C CK bk gv df wos) (ok:df.2.ok) (hi:(df.1.2.1.map (·.1))[i]?=some nm) (hw:wos[i]?=some wo) (gs:Goes df.2 nm i wo k (.body []) [] (UA i wo way)) (wy:Way way) (lw:way.length<=10) (fit:Fit wo way) (dp:wo.dep<3)
  (q:∀u H',Same H H'->Has H' u (.tup [(due wo i way full).dat,dnD (Wx wo way)])->Q u H'):A2 C CK H Q [.ref bk,.str df.1.1,.ref gv,.int 1,.bl full]
def FS(C CK:Addr):Sp:=fun vs H Q _=>A2 C CK H Q vs
theorem QZ(TW:WCl K CW)(F:DE K "asked" "asked" MY f fd)(DW:Df P w K mg base n "walk_of" wop (Pg C CK CG CW))(m1:VO K CW "outcome" g1)(G1:Yf P w K mg base CX0 n g1 d1 ["self","whole"] (FL C CK CG CO CW))(b1:Binds K d1 ["self","whole"] [])(m2:VO K CW "done" g2)(G2:Yf P w K mg base CX0 n g2 d2 ["self"] (N3 CG CW))(b2:Binds K d2 ["self"] []):Yf P w K mg base CX0 (n+1) f fd Od (FS C CK):=by
 refine F.oi Ff fun cdv A outer s H vs Q E hr h=>?_;obtain⟨bk,gv,df,wos,nm,i,wo,k,way,full,ra,ok,hi,hw,gs,wy,lw,fit,dp,q⟩:=h;refine⟨_,YY (Yu 5 Ff.nd (VJ DW hr (pa4 (pv 0) (pv 1) (pv 2) (pv 3))))
  (YY (Yu 6 Ff.nd (Y6 (pv 5) TW.cl m1 G1 hr b1 .nil Y4 (pa1 (pv 4))))
  (YZ (Yh (Yt (pa2 (pv 6) (Vf (pv 5) TW.cl m2 G2 hr b2 .nil Y4)))))),?_⟩
 show let T0:=_;let T1:=Yk _ T0;Yk _ T1 _ _ _
 intros
 refine⟨bk,gv,df,wos,ra,fun A' Hm H1 s0 wf s1 ws hG=>?_⟩;obtain⟨G,eG,ebk,gd⟩:=hG;obtain⟨xs,ks,d,ds,bi,hd,hg,hx,okw⟩:=ra.ex;have l3:wos.length<=3:=by rw[ra.ln];exact ra.l3
 have ak:AK Hm C CK CG A'.gr df nm i wos wo:=⟨⟨G,ks,d,ds,eG,by rw[ebk];exact bi.mono s0,hd,gd⟩,ok,ra.ln,ra.nd,hi,hw,l3⟩;refine⟨_,_,ws.ins,Q8 _,Hm,A',df,nm,i,wos,wo,k,way,full,wf,s1,ws,ak,gs,wy,lw,fit,dp,fun v us n' h' H2 s2 ws2 c1 c2 hv=>?_⟩;refine⟨_,_,ws2.ins,SE _,Hm,A',us,n',h',G,_,_,wos,wf,s2,ws2,eG,gd,?_,fun u H3 s3 tk hu=>⟨sl 2,fun t ht=>?_⟩⟩
 .cases e:goW wo [] way with
  |inl p=>exact .inl (c1 p e)
  |inr u=>exact .inr (c2 u e)
 .refine up_in ht _ fun H4 s4 g4=>q _ _ ((s0.trans s3).trans s4) ?_
  have ed:Dy h'=dnD (Wx wo way):=by
   unfold Dy dnD Wx
   cases e:goW wo [] way with
   |inl p=>rw[c1 p e];rfl
   |inr u=>obtain⟨y,z⟩:=c2 u e;rw[z];rfl
  rw[ed]at hu;exact Y1 g4 (Z4 ((VP tk _ (Du.ti _) hv).mono s4) (Z5 (hu.mono s4)))
theorem Kq{K:W.Frag}(F:DE K "asked" "asked" MY f fd):Binds K fd Od []:=F.b5 _ _ _ _ _
end
section
variable{f g C CK N fI:Addr}
structure DRt(ks:List (Str×Shp))(ds:List Dd)(x:Dd):Prop where
 ok:zD x
 kd:kdn ks (JA (ds.map (·.1))) 13 (kvP x.1.2.1) x.2=some x.1.2.2
inductive SBK(C CK:Addr)(H:Hp)(Q:VK):List V->Prop
 |mk (A:BA) (kv:List (Key×V)) (ks:List (Str×Shp)) (c d:Str->Nat) (ds:List Dd) (bd:BD H C CK A kv ks d ds) (kg:KG ks) (kk:KK 30 c d ks) (k6:ks.length<=6) (ho:∀x∈ds,Ku (ks.map (·.1)) c 200 x.1) (dok:∀x∈ds,DRt ks ds x) (q:∀H',Same H H'->Q .non H'):SBK C CK H Q [.ref A.t]
def P0(C CK:Addr):Sp:=fun vs H Q _=>SBK C CK H Q vs
theorem QW(B:Blt mg)(me:mg "enumerate"=none)(TB:BCl K C)(F:Fun K "check_bodies" "Book.check_bodies" MX f fd)(mH:VO K C "names" g)(GH:Yf P w K mg base CX0 n g gd ["self"] (Uv C CK))(bH:Binds K gd ["self"] [])(DK:Df P w K mg base n "kind_or_place" ["book","around","body"] (RJ C CK 13)):Yf P w K mg base CX0 (n+1) f fd ["self"] (P0 C CK):=by
 refine F.oi Jj fun cdv A outer s H vs Q E hr h=>?_;obtain⟨A',kv,ks,c,d,ds,bd,kg,kk,k6,ho,dok,q⟩:=h;have hu:=JF hr;refine⟨_,YZ (V1 Zv rfl (GQ rfl me (pa1 (Vf (pv 0) TB.cl mH GH hr bH .nil Y4))) (Vi (n:=2) rfl (Yx (Yp 1 Jj.nd) (Yx (Yp 2 Jj.nd) VW)))
   (YY (UI (Vc hu (Yz (pv 0) rfl) (pv 2) (fun _ _=>rfl)) (Vi (n:=3) rfl (Yx (Yp 3 Jj.nd) (Yx (Yp 4 Jj.nd) (Yx (Yp 5 Jj.nd) VW)))))
   (YY (UI (VJ DK hr (pa3 (pv 0) (VL (Wj rfl) rfl B.dict Uk (pa1 (pv 3))) (pv 5))) (Vi (n:=2) rfl (Yx (Yp 6 Jj.nd) (Yx (Yp 7 Jj.nd) VW))))
   (YY (Y0 (Yn Ud (pv 6) VI (Yv _)) (YZ V8) Yl)
   (YZ (Y0 (Yn Up (pv 6) (pv 4) (Yv _)) (YZ V8) Yl)))))),?_⟩
 dsimp only[Vb,Cx.nox,Cx.wish];show let T0:=_;let T1:=VC _ T0 _;let T2:=_;let T3:=Yk (VC _ T2 _) T1;let T4:=Yk _ T3;let T5:=Yk _ T4;UH _ _ T5 _ _ _
 intros
 show let a:=_;let b:=VC _ a _;let c:=_;let d:=Yk (VC _ c _) b;let e:=Yk _ d;let f:=Yk _ e;UH _ _ f _ _ _
 intros
 refine⟨_,_,bd.ins,Am _,A'.t,ks,d,ds,rfl,⟨A',kv,rfl,bd⟩,fun nl H1 s1 fnl hnl=>?_⟩;refine⟨nl,false,_,rfl,Z3 hnl,?_⟩
 let I:Nat->St->Hp->Prop:=fun i U Hi=>Same H1 Hi/\∃(z1 z2 z3 z4 z5 z6 z7:Option V),U=[some (.ref A'.t),z1,z2,z3,z4,z5,z6,z7]
 refine Dv (tp:=false) (xs:=ds.map fun x=>V.str x.1.1) I ⟨Z8 _,_,_,_,_,_,_,_,rfl⟩ (fun i U Hi _ z=>Z3 (z.1 _ _ hnl)) ?_ ?_
 .rintro BB' RR i x U Hi r hx ⟨si,z1,z2,z3,z4,z5,z6,z7,rfl⟩ hr'
  rw[ZH]at hx
  cases hc:ds[i]? with
  |none=>rw[hc]at hx;cases hx
  |some dx=>
   rw[hc]at hx;cases hx;have hm:=ZJ hc;have o1:=ho dx hm;have o2:=dok dx hm;refine up_in hr' _ fun HR sR gR=>?_;have bdR:=bd.mono ((s1.trans si).trans sR);obtain⟨v,e1,e2⟩:=bdR.at hm;obtain⟨ta,u,wv,rfl,hta,hup,hwb⟩:=X4 e2;refine⟨_,Z2 gR,rfl,?_⟩;refine⟨C,_,_,_,bdR.ins,TB.cl,TB.td,Ek _,_,e1,?_⟩;refine⟨_,Z2 hta,rfl,?_⟩;unfold psD at hup;obtain⟨l,xp,rfl,hl,hxs'⟩:=Yr hup;obtain⟨tp,rfl,prs⟩:=Ft (K:=K) hxs';replace prs:Rn K HR tp (kvP dx.1.2.1):=prs;have lps:(kvP dx.1.2.1).length=dx.1.2.1.length:=ZA _;have psn:=o1.nd
   have ndk:((kvP dx.1.2.1).map (·.1)).Nodup:=by
    unfold kvP;rw[List.map_map];unfold List.Nodup at psn |-;rw[List.pairwise_map]at psn |-;exact psn.imp fun hab q=>hab (Sum.inr.inj q)
   refine⟨l,tp,_,rfl,hl,prs,ndk,fun aA haA=>?_⟩;refine up_in haA _ fun H3 s3 g3=>?_;have l3:=o1.len;have d11:=o2.ok.dep;have d12:=o2.ok.size;refine⟨A'.t,aA,wv,ks,c,d,ds,kvP dx.1.2.1,dx.2,rfl,⟨A',kv,rfl,bdR.mono s3⟩,kk,fun f ps k e=>?_,fun q' hq=>?_,fun x' hx'=>(ho x' hx').len,.inl g3,by omega,hwb.mono s3,o2.ok.ok,by omega,by omega,fun r4 p4 H4 s4 h4 _=>?_⟩
   .obtain ⟨x',hx',e'⟩:=ZW.mp (Dp e)
    have:=(ho x' hx').own;rw[e']at this;exact this
   .obtain ⟨pr,hpr,rfl⟩:=ZW.mp hq
    exact⟨pr.1,pr.2,rfl,o1.kin pr hpr⟩
   rw[o2.kd]at h4;replace h4:H4 r4=some (.tup [.str dx.1.2.2,p4]):=h4;refine⟨_,Z2 h4,rfl,?_⟩;refine⟨rfl,_,rfl,Yy (by simp) ?_⟩;refine⟨rfl,_,rfl,Yy (by simp) ?_⟩;exact⟨((si.trans sR).trans s3).trans s4,_,_,_,_,_,_,_,rfl⟩
 .rintro U Hi ⟨si,_⟩
  exact q Hi (s1.trans si)
inductive SBN(C CK:Addr)(H:Hp)(Q:VK):List V->Prop
 |mk (x dx kl dl:Addr) (xs zs:List V) (ks:List (Str×Shp)) (c d:Str->Nat) (ds:List Dd) (hx:H x=some (.ins C dx [])) (hkl:H kl=some (.lst xs)) (hxs:HasL H xs (ks.map JW)) (kk:KK 30 c d ks) (nd:(ks.map (·.1)).Nodup) (kg:KG ks) (k0:0<ks.length) (k6:ks.length<=6) (hdl:H dl=some (.lst zs)) (hzs:HasL H zs (ds.map Ki)) (d0:0<ds.length) (d8:ds.length<=2) (wd:Wds 97 (ds.map fun x=>x.1.1)) (ho:∀x∈ds,Ku (ks.map (·.1)) c 200 x.1) (dok:∀x∈ds,DRt ks ds x)
  (q:∀H',(∀b o,b≠x->H b=some o->H' b=some o)->BI H' C CK x ks d ds->Q .non H'):SBN C CK H Q [.ref x,.ref kl,.ref dl]
def Pz(C CK:Addr):Sp:=fun vs H Q _=>SBN C CK H Q vs
theorem QV(hm:m+1<=n)(TB:BCl K C)(F:Fun K "__init__" "Book.__init__" BU f fd)(Mk':Mk K CK gi)(mC:mg "Kinds"=some (.ref CK))(GI:Yf P w K mg base CX0 m gi idd ["self","told"] (N2 CK))(bI:Binds K idd ["self","told"] [])(m1:VO K C "take_heads" g1)(G1:Yf P w K mg base CX0 n g1 d1 ["self","definitions"] (FR C CK))(b1:Binds K d1 ["self","definitions"] [])(m2:VO K C "check_bodies" g2)(G2:Yf P w K mg base CX0 n g2 d2 ["self"] (P0 C CK))(b2:Binds K d2 ["self"] []):
  Yf P w K mg base CX0 (n+1) f fd ["self","kinds","definitions"] (Pz C CK):=by
 refine F.oi LQ fun cdv A outer s H vs Q E hr h=>?_;obtain⟨x,dx,kl,dl,xs,zs,ks,c,d,ds,hx,hkl,hxs,kk,nd,kg,k0,k6,hdl,hzs,d0,d8,wd,ho,dok,q⟩:=h;have hrm:Vs (m+1) _:=hr.mono hm;refine⟨_,YY (VY (pv 0) (Xz Mk' GI hrm rfl mC bI .nil Y4 (pa1 (pv 1))) rfl)
  (YY (VY (pv 0) Vy rfl) (YY (VY (pv 0) Vy rfl) (YY (VY (pv 0) Vy rfl)
  (YY (Vm (Y6 (pv 0) TB.cl m1 G1 hr b1 .nil Y4 (pa1 (pv 2))))
  (YZ (Vm (Vf (pv 0) TB.cl m2 G2 hr b2 .nil Y4))))))),?_⟩
 dsimp only[Vb,Cx.nox,Cx.wish];show let T0:=_;let T1:=Yk _ T0;let T2:=Yk _ T1;let T3:=Yk _ T2;let T4:=Yk _ T3;Yk _ T4 _ _ _
 intros
 refine fun t dt ht hdt ndt=>?_;have tx:upd (upd H dt (.own t)) t (.ins CK dt []) t=some (.ins CK dt []):=Ye;have s7:Same H (upd (upd H dt (.own t)) t (.ins CK dt [])):=fun b o e=>by rw[Yg (Yc e ht),Yg (Yc e hdt)];exact e
 generalize upd (upd H dt (.own t)) t (.ins CK dt [])=H7 at tx s7 |-;have nxt:x≠t:=Yc hx ht;refine⟨t,dt,kl,xs,ks,c,d,rfl,tx,s7 _ _ hkl,hxs.mono s7,kk,nd,kg,k0,k6,fun H8 f8 ki8=>⟨rfl,?_⟩⟩;have s8:Same H H8:=fun b o e=>f8 b o (Yc e ht) (s7 b o e);have x8:=s8 _ _ hx;refine⟨x,C,dx,_,rfl,x8,TB.cl,TB.so,by decide,?_⟩;have x9:upd H8 x (.ins C dx (VX "sorts" (.ref t) [])) x=some (.ins C dx (VX "sorts" (.ref t) [])):=Ye;have r9:∀b o,b≠x->H8 b=some o->upd H8 x (.ins C dx (VX "sorts" (.ref t) [])) b=some o:=fun b o n e=>by rw[Yg n];exact e
 generalize upd H8 x (.ins C dx (VX "sorts" (.ref t) []))=H9 at x9 r9 |-;intro p1 hp1;refine⟨x,C,dx,_,rfl,by rw[Yg (Yc x9 hp1)];exact x9,TB.cl,TB.td,(by show 1<1000;decide),?_⟩;obtain⟨x1,a1,n1,r1⟩:=JZ (f:="told") (o:=.dK []) x9 hp1;generalize upd (upd H9 p1 (.dK [])) x (.ins C dx (VX "told" (.ref p1) (VX "sorts" (.ref t) [])))=H1 at x1 a1 r1 |-;intro p2 hp2;refine⟨x,C,dx,_,rfl,by rw[Yg (Yc x1 hp2)];exact x1,TB.cl,TB.rd,(by show 2<1000;decide),?_⟩;obtain⟨x2,a2,n2,r2⟩:=JZ (f:="rows") (o:=.dK []) x1 hp2;generalize upd (upd H1 p2 (.dK [])) x (.ins C dx (VX "rows" (.ref p2) (VX "told" (.ref p1) (VX "sorts" (.ref t) []))))=H2 at x2 a2 r2 |-;intro p3 hp3;refine⟨x,C,dx,_,rfl,by rw[Yg (Yc x2 hp3)];exact x2,TB.cl,TB.tn,(by show 3<1000;decide),?_⟩;obtain⟨x3,a3,n3,r3⟩:=JZ (f:="turns") (o:=.dK []) x2 hp3;generalize upd (upd H2 p3 (.dK [])) x (.ins C dx (VX "turns" (.ref p3) (VX "rows" (.ref p2) (VX "told" (.ref p1) (VX "sorts" (.ref t) [])))))=H3 at x3 a3 r3 |-
 let A':BA:=⟨x,dx,t,p1,p2,p3⟩
 have out:∀{b:Addr}{o:HO},X0 H8 x b=some o->b≠x/\H8 b=some o:=fun{b o} h=>by
  unfold X0 at h
  by_cases e:b=x
  .rw [Zp e]at h;cases h
  .rw [Zq e]at h;exact⟨e,h⟩
 have fr:∀b o,b≠x->H8 b=some o->H3 b=some o:=fun b o n e=>r3 b o n (r2 b o n (r1 b o n (r9 b o n e)));have sm:Same (X0 H8 x) H3:=fun b o h=>fr b o (out h).1 (out h).2
 have free:∀p:Addr,(∀o,p≠x->H8 p=some o->False)->X0 H8 x p=none:=fun p h=>by
  cases e:X0 H8 x p with
  |none=>rfl
  |some o=>exact(h o (out e).1 (out e).2).elim
 have c12:=r2 _ _ n1 a1;have c13:=r3 _ _ n1 c12;have c23:=r3 _ _ n2 a2;have bb:BB (X0 H8 x) H3 C CK A' ks d:=⟨x3,sm,ki8.out x8,free p1 fun o n e=>(by have:=r9 _ _ n e;rw[hp1]at this;cases this),free p2 fun o n e=>(by have:=r1 _ _ n (r9 _ _ n e);rw[hp2]at this;cases this),Yc a1 hp2,Zs n1,Zs n2⟩;have bt:BT H3 A' [] [] ks []:=⟨c13,c23,rfl,Z6,(fun y hy=>nomatch hy),ZG _⟩;have hin:∀{b:Addr}{o:HO},H b=some o->o≠.ins C dx []->X0 H8 x b=some o:=fun{b o} h n=>Bg (JR h hx n) (s8 _ _ h);have tl:TL H (X0 H8 x):=⟨fun b xs h=>hin h (by intro z;cases z),fun b xs h=>hin h (by intro z;cases z)⟩;refine⟨_,_,x3,Cz A',X0 H8 x,A',dl,zs,ks,c,d,ds,rfl,bb,bt,kk,k6,hin hdl (by intro z;cases z),HasL.tl tl _ hzs,d0,d8,wd,ho,fun H4 kv rv bb4 bt4=>?_⟩;have bd4:BD H4 C CK A' kv ks d ds:=⟨bb4.ins,bb4.so.mono bb4.sm,bt4.td,bt4.ke,bt4.va,wd.nd⟩;refine⟨_,_,bb4.ins,C3 A',A',kv,ks,c,d,ds,bd4,kg,kk,k6,ho,dok,fun H5 s5=>?_⟩;exact q H5 (fun b o n e=>s5 _ _ (bb4.sm _ _ (Bg n (s8 _ _ e)))) ⟨A',kv,rfl,bd4.mono s5⟩
end
end K4
namespace L2
open PySem
def lead(ks:List (Str×Shp)):Str->List Int->Option Str
 |y,[]=>some y
 |y,k::r=>match VR ks y with
  |some (.pair a b)=>lead ks (if k=0 then a else b) r
  |_=>none
theorem Wa(e:VR ks y=some (.pair a b)):lead ks y (k::r)=lead ks (if k=0 then a else b) r:=by
 conv=>lhs;unfold lead
 rw[e]
theorem RP:∀(ws:List Int){y0 y:Str},lead ks y0 ws=some y->VR ks y=some (.pair a b)->lead ks y0 (ws++[k])=some (if k=0 then a else b)
 |[],y0,y,h,e=>by
  unfold lead at h;cases h;rw[List.nil_append,Wa e];unfold lead
  rfl
 |j::r,y0,y,h,e=>by
  rw[List.cons_append]
  cases e0:VR ks y0 with
  |none=>unfold lead at h;rw[e0]at h;cases h
  |some s=>
   cases s with
   |tags ts=>unfold lead at h;rw[e0]at h;cases h
   |pair p q=>
    rw[Wa e0]at h |-;exact RP r h e
theorem U2:∀(ws:List Int){y0 y:Str}{u:W},Way ws->lead ks y0 ws=some y->okW ks u y0->Fit u ws/\∀pre v,goW u pre ws=.inr v->okW ks v y
 |[],y0,y,u,hw,h,ok=>by
  unfold lead at h;cases h
  cases u with
  |non=>exact⟨by unfold Fit;trivial,fun pre v z=>by rw[Jh]at z;cases z⟩
  |tag t=>exact⟨by unfold Fit;rfl,fun pre v z=>by rw[XO]at z;cases z;exact ok⟩
  |pair a b=>exact⟨by unfold Fit;trivial,fun pre v z=>by rw[Ge]at z;cases z;exact ok⟩
 |k::r,y0,y,u,hw,h,ok=>by
  cases u with
  |non=>exact⟨by unfold Fit;trivial,fun pre v z=>by rw[Jh]at z;cases z⟩
  |tag t=>
   unfold okW at ok;obtain⟨ts,e,_⟩:=ok;unfold lead at h;rw[e]at h;cases h
  |pair p q=>
   unfold okW at ok;obtain⟨a,b,e,o1,o2⟩:=ok;rw[Wa e]at h;have hk:=hw k Za
   have ok':okW ks (if k=0 then p else q) (if k=0 then a else b):=by
    by_cases z:k=0
    .rw [Zp z,Zp z];exact o1
    .rw [Zq z,Zq z];exact o2
   have ih:=U2 r (fun j hj=>hw j (ZM _ hj)) h ok';exact⟨by unfold Fit;exact⟨hk,ih.1⟩,fun pre v z=>ih.2 _ v (by rw[J3]at z;exact z)⟩
theorem Ia(e:VR ks y=some (.tags ts))(ok:okW ks v y)(n:v≠.non):∃t∈ts,v=.tag t:=by
 cases v with
 |non=>exact Zr rfl n
 |tag t=>
  unfold okW at ok;obtain⟨ts',e',m⟩:=ok;rw[e]at e';cases e';exact⟨t,m,rfl⟩
 |pair p q=>
  unfold okW at ok;obtain⟨a,b,e',_⟩:=ok;rw[e]at e';cases e'
theorem Nc:∀(ws pre:List Int){u v:W},goW u pre ws=.inr v->v≠.non
 |[],pre,u,v,h=>by cases u <;> (unfold goW at h;cases h) <;> (intro z;cases z)
 |k::r,pre,u,v,h=>by
  cases u with
  |non=>rw[Jh]at h;cases h
  |tag t=>rw[XO]at h;cases h;intro z;cases z
  |pair a b=>rw[J3]at h;exact Nc r _ h
theorem KK.pair(kk:KK top c d ks)(e:VR ks y=some (.pair a b)):a∈ks.map (·.1)/\b∈ks.map (·.1)/\d a+1<=d y/\d b+1<=d y:=by
 obtain⟨h1,h2,h3,h4,h5,h6⟩:=kk.at e;exact⟨h1,h2,by omega,by omega⟩
theorem MJ:∀rs:List Int,(J6 rs (.name x)).ok/\(J6 rs (.name x)).dep=rs.length/\(J6 rs (.name x)).size=rs.length+1
 |[]=>by unfold J6;simp[Bd.ok,Bd.dep,Bd.size]
 |r::rs=>by
  obtain⟨h1,h2,h3⟩:=MJ rs;unfold J6 MK
  split <;> (refine⟨by unfold Bd.ok;exact h1,by unfold Bd.dep;rw[h2,Zf];omega,by unfold Bd.size;rw[h3,Zf];omega⟩)
theorem DQ:∀ts:List Str,Bd.oks (ts.map Bd.tag)/\Bd.deps (ts.map Bd.tag)=0/\Bd.sizes (ts.map Bd.tag)=ts.length
 |[]=>by simp[Bd.oks,Bd.deps,Bd.sizes]
 |t::ts=>by
  obtain⟨h1,h2,h3⟩:=DQ ts;rw[ZV];exact⟨by unfold Bd.oks;exact⟨by unfold Bd.ok;trivial,h1⟩,by unfold Bd.deps;rw[h2];simp[Bd.dep],by unfold Bd.sizes;rw[h3,Zf];simp only[Bd.size];omega⟩
structure Mkg(ks:List (Str×Shp))(d:Str->Nat)(x y0:Str)(ws:List Int)(y:Str):Prop where
 wy:Way ws
 ld:lead ks y0 ws=some y
 kd:∀hd kv,VF kv (Sum.inr x)=some (.str y0)->Kd ks hd kv y (J6 ws.reverse (.name x))
 mem:y∈ks.map (·.1)
 dd:d y+ws.length<=d y0
theorem Mkg.nil(h:y∈ks.map (·.1)):Mkg ks d x y [] y:=⟨fun k h=>(by cases h),by unfold lead;rfl,fun hd kv e=>Kd.name e,h,ZG _⟩
theorem Mkg.snoc(m:Mkg ks d x y0 ws y)(kk:KK top c d ks)(e:VR ks y=some (.pair a b))(hk:k=0\/k=1):Mkg ks d x y0 (ws++[k]) (if k=0 then a else b):=by
 obtain⟨h1,h2,h3,h4⟩:=kk.pair e;have dd:=m.dd;refine⟨fun j hj=>?_,RP ws m.ld e,fun hd kv ev=>?_,?_,?_⟩
 .rcases ZX.mp hj with q|q
  .exact m.wy j q
  .rw [ZQ]at q;subst q;exact hk
 .rw [List.reverse_append]
  show Kd ks hd kv _ (MK k (J6 ws.reverse (.name x)));have:=m.kd hd kv ev;rcases hk with rfl|rfl
  .exact Kd.one e this
  .exact Kd.other e this
 .rcases hk with rfl|rfl
  .exact h1
  .exact h2
 .rw [ZL,List.length_singleton]
  rcases hk with rfl|rfl
  .show d a+_<=_;omega
  .show d b+_<=_;omega
structure Fin(ks:List (Str×Shp))(x y0:Str)(ws:List Int)(y:Str)(b:Bd):Prop where
 wy:Way ws
 l2:ws.length<=2
 kd:∀hd kv,VF kv (Sum.inr x)=some (.str y0)->Kd ks hd kv y b
 mem:y∈ks.map (·.1)
 ok:b.ok
 dep:b.dep<=12
 size:b.size<=100
 fit:∀u,okW ks u y0->Fit u ws
 go:∀u i,okW ks u y0->∃n,Goes b x i u n (.body []) [] (UA i u ws)
theorem Mkg.fin(m:Mkg ks d x y0 ws y)(d2:d y0<=2):Fin ks x y0 ws y (J6 ws.reverse (.name x)):=by
 have dd:=m.dd;obtain⟨h1,h2,h3⟩:=MJ (x:=x) ws.reverse;rw[List.length_reverse]at h2 h3;exact⟨m.wy,by omega,m.kd,m.mem,h1,by omega,by omega,fun u ok=>(U2 ws m.wy m.ld ok).1,fun u i ok=>Bz m.wy (by omega) (U2 ws m.wy m.ld ok).1⟩
theorem Mkg.cho(m:Mkg ks d x y0 ws y)(d2:d y0<=2)(kk:KK top c d ks)(e:VR ks y=some (.tags ts)):Fin ks x y0 ws y (.choose (J6 ws.reverse (.name x)) ts (ts.map .tag)):=by
 have dd:=m.dd;obtain⟨h1,h2,h3⟩:=MJ (x:=x) ws.reverse;rw[List.length_reverse]at h2 h3;obtain⟨t1,t2,_,_,nt⟩:=kk.at e;obtain⟨o1,o2,o3⟩:=DQ ts;refine⟨m.wy,by omega,fun hd kv ev=>Kd.choose e (m.kd hd kv ev) (ZA ..) fun b hb=>?_,m.mem,?_,?_,?_,fun u ok=>(U2 ws m.wy m.ld ok).1,fun u i ok=>?_⟩
 .obtain ⟨t,ht,rfl⟩:=ZW.mp hb
  exact Kd.tag e ht
 .unfold Bd.ok
  exact⟨h1,ZA ..,⟨t1,by omega⟩,o1⟩
 .unfold Bd.dep;rw[h2,o2];omega
 .unfold Bd.size;rw[h3,o3];omega
 .have lf:=U2 ws m.wy m.ld ok
  exact KJ m.wy (by omega) lf.1 nt (by omega) fun v hv=>Ia e (lf.2 [] v hv) (Nc ws [] hv)
def prD(p:Str×Str):Dat:=.tup [.str p.1,.str p.2]
def pk0(ws:List Str)(m:Nat)(y:Str):List (Str×Str):=(ws.take m).map fun w=>(w,y)
def pk(ws:List Str)(m:Nat)(y:Str)(k:Nat)(x y0:Str):List (Str×Str):=(pk0 ws m y).set k (x,y0)
theorem LW:NJ ws m y=(pk0 ws m y).map prD:=by unfold NJ pk0 prD;rw[List.map_map];rfl
theorem QD:(pk ws m y k x y0).map prD=((pk0 ws m y).map prD).set k (prD (x,y0)):=by unfold pk;rw[List.map_set]
theorem Bb(h:m<=ws.length):(pk ws m y k x y0).length=m:=by unfold pk pk0;rw[List.length_set,ZA,ZN];omega
theorem NG{α:Type}:∀{l:List α}{k:Nat}{x:α},l[k]?=some x->l.set k x=l
 |[],_,_,h=>by simp at h
 |a::l,0,x,h=>by cases h;rfl
 |a::l,k+1,x,h=>by show a::l.set k x=_;rw[NG (show l[k]?=some x from h)]
theorem TD(h:ws[k]?=some x)(hk:k<m):(pk ws m y k x y0).map (·.1)=ws.take m:=by
 unfold pk pk0;rw[List.map_set,List.map_map];have e:List.map ((fun x=>x.fst) ∘ fun w=>(w,y)) (List.take m ws)=List.take m ws:=by rw[show((fun x:Str×Str=>x.fst) ∘ fun w=>(w,y))=id from rfl,List.map_id]
 rw[e];exact NG (by rw[List.getElem?_take,Zp hk];exact h)
theorem Oy(l4:ws.length=4)(hk:k<m)(m3:m<=3){i:Nat}{p:Str×Str}(h:(pk ws m y k x y0)[i]?=some p):(i=k/\p=(x,y0))\/(i≠k/\p.2=y/\i<m):=by
 unfold pk at h;have pl:(pk0 ws m y).length=m:=by unfold pk0;rw[ZA,ZN];omega
 by_cases e:i=k
 .subst e
  rw[List.getElem?_set_self (by omega)]at h;cases h;exact .inl ⟨rfl,rfl⟩
 .rw [List.getElem?_set_ne (by omega)]at h
  have il:=(ZF.mp h).1;unfold pk0 at h;rw[ZH]at h;obtain⟨w,_,rfl⟩:=Zj.mp h;exact .inr ⟨e,rfl,by omega⟩
theorem SH:∀{ps:List (Str×Str)}{k:Nat}{p:Str×Str},(ps.map (·.1)).Nodup->ps[k]?=some p->VF (kvP ps) (Sum.inr p.1)=some (.str p.2)
 |[],k,p,nd,h=>by simp at h
 |q::ps,0,p,nd,h=>by cases h;exact Vw rfl
 |q::ps,k+1,p,nd,h=>by
  rw[ZV]at nd;have nd':=List.nodup_cons.mp nd;have h':ps[k]?=some p:=h;refine(Vx (fun z=>nd'.1 ?_)).trans (SH nd'.2 h');rw[show q.1=p.1 from Sum.inr.inj z];exact ZW.mpr ⟨p,ZJ h',rfl⟩
theorem LZ(l4:ws.length=4)(hk:k<m)(m3:m<=3)(h:c y0*c y ^ (m-1)<=200):Vd c (pk ws m y k x y0)<=200:=by
 match ws,l4 with
 |[a,b,e,g],_=>
  match m,k,hk,m3 with
  |1,0,_,_=>simp only[Vd,pk,pk0]at h |-;simpa using h
  |2,0,_,_=>simp only[Vd,pk,pk0]at h |-;simpa using h
  |2,1,_,_=>simp only[Vd,pk,pk0]at h |-;simpa[Nat.mul_comm]using h
  |3,0,_,_=>simp only[Vd,pk,pk0]at h |-;simpa[Nat.pow_succ,Nat.mul_assoc,Nat.mul_comm,Nat.mul_left_comm]using h
  |3,1,_,_=>simp only[Vd,pk,pk0]at h |-;simpa[Nat.pow_succ,Nat.mul_assoc,Nat.mul_comm,Nat.mul_left_comm]using h
  |3,2,_,_=>simp only[Vd,pk,pk0]at h |-;simpa[Nat.pow_succ,Nat.mul_assoc,Nat.mul_comm,Nat.mul_left_comm]using h
theorem Si(w:Wds 97 ws)(l4:ws.length=4)(hk:k<m)(m3:m<=3)(hx:ws[k]?=some x)(hy:y∈ns)(hy0:y0∈ns)(hz:z∈ns)(h:c y0*c y ^ (m-1)<=200):Ku ns c 200 (f,pk ws m y k x y0,z):=by
 have e:=TD (y:=y) (y0:=y0) hx hk;refine⟨by show(pk ws m y k x y0).length<=3;rw[Bb (by omega)];exact m3,fun p hp=>?_,hz,?_,fun p hp=>?_,LZ l4 hk m3 h⟩
 .obtain ⟨i,hi⟩:=List.mem_iff_getElem?.mp hp
  rcases Oy l4 hk m3 hi with⟨_,rfl⟩|⟨_,e,_⟩
  .exact hy0
  .rw [e];exact hy
 .show ((pk ws m y k x y0).map (·.1)).Nodup
  rw[e];exact w.nd.sublist (List.take_sublist _ _)
 .have:p.1∈ws:=by
   have hm:p.1∈(pk ws m y k x y0).map (·.1):=ZW.mpr ⟨p,hp,rfl⟩;rw[e]at hm;exact Zk hm
  exact⟨(w.len _ this).1,(w.len _ this).2,w.abc _ this⟩
theorem Em(F:Fin ks x y0 way z b)(kg:KG ks)(kk:KK 30 c d ks)(w:Wds 97 ws)(l4:ws.length=4)(hk:k<m)(m3:m<=3)(hx:ws[k]?=some x):K4.DRt ks [((f,pk ws m y k x y0,z),b)] ((f,pk ws m y k x y0,z),b):=by
 refine⟨⟨F.ok,F.dep,F.size⟩,Kd.kdn kg (fun z ts e=>(kk.at e).1) 13 _ _ _ (F.kd _ _ ?_) (by have:=F.dep;show b.dep<13;omega)⟩;have nd:((pk ws m y k x y0).map (·.1)).Nodup:=by rw[TD hx hk];exact w.nd.sublist (List.take_sublist _ _)
 have hp:(pk ws m y k x y0)[k]?=some (x,y0):=by
  unfold pk;rw[List.getElem?_set_self (by unfold pk0;rw[ZA,ZN];omega)]
 exact SH nd hp
theorem Gk(h:Vp H p)(e:H r=some o)(n:∀xs,o≠.lst xs):r≠p:=fun z=>by
 obtain⟨a,b,c,d,h2⟩:=h;rw[<-z,e]at h2;cases h2;exact n _ rfl
theorem W.ni(w:W):w.dat.ni=true:=Dat.ni_tn (W.tn w)
theorem Ml{H H':Hp}(s:SameB p H H')(st:Vp H p)(h:Has H v d)(n:d.ni=true):Has H' v d:=Bx (K:=default) (sa:=0) s ⟨st⟩ d n h
theorem BI.st(b:BI H C CK t ks d ds)(s:SameB p H H')(st:Vp H p):BI H' C CK t ks d ds:=by
 have go:∀{r:Addr}{o:HO},H r=some o->(∀xs,o≠.lst xs)->H' r=some o:=fun h n=>s _ _ (Gk st h n) h;have pn:Pen default 0 H p:=⟨st⟩;obtain⟨A,kv,rfl,bd⟩:=b;obtain⟨A',S,e,kd,kr⟩:=bd.so;refine⟨A,kv,rfl,go bd.ins (fun _ z=>nomatch z),⟨A',S,e,⟨go kd.ins (fun _ z=>nomatch z),go kd.sh (fun _ z=>nomatch z),go kd.wo (fun _ z=>nomatch z),go kd.he (fun _ z=>nomatch z),go kd.pd (fun _ z=>nomatch z),go kd.tk (fun _ z=>nomatch z),go kd.pk (fun _ z=>nomatch z),kd.nd⟩,?_⟩,go bd.td (fun _ z=>nomatch z),bd.ke,UE s pn _ (Dat.nis_of (Gi ds)) bd.va,bd.nd⟩;refine⟨kr.ke,fun y s' h=>let⟨v,h1,h2⟩:=kr.sh y s' h;⟨v,h1,Bx s pn _ (Dat.ni_of (Shp.st s')) h2⟩,fun y h=>?_,kr.he,kr.pd,kr.tk,kr.pk,kr.ln⟩;obtain⟨l,xs,h1,h2,h3⟩:=kr.wo y h;have nw:=GX W.ni (Ys ks 3 y);exact⟨l,xs,h1,s _ _ (pn.lst h2 h3 nw) h2,UE s pn _ nw h3⟩
theorem UN.st(h:UN H a ks)(s:SameB p H H')(st:Vp H p):UN H' a ks:=by
 obtain⟨kvs,r,k,v⟩:=h;refine⟨kvs,r.imp (fun h=>s _ _ (Gk st h fun _ z=>by cases z) h) fun⟨o,h⟩=>⟨o,s _ _ (Gk st h fun _ z=>by cases z) h⟩,k,fun y sh e=>?_⟩;obtain⟨u,h1,h2⟩:=v y sh e;exact⟨u,h1,Ml s st h2 (Dat.ni_of (Shp.st sh))⟩
def LsD(H:Hp)(a:Addr)(ds:List Dat):Prop:=∃xs,H a=some (.lst xs)/\HasL H xs ds
theorem LsD.st(h:LsD H a ds)(s:SameB p H H')(st:Vp H p)(n:Dat.nis ds=true):LsD H' a ds:=by
 obtain⟨xs,h1,h2⟩:=h;have pn:Pen default 0 H p:=⟨st⟩;exact⟨xs,s _ _ (pn.lst h1 h2 n) h1,UE s pn _ n h2⟩
theorem LsD.mono(h:LsD H a ds)(s:Same H H'):LsD H' a ds:=let⟨xs,h1,h2⟩:=h;⟨xs,s _ _ h1,h2.mono s⟩
theorem GJ(ps:List (Str×Str)):Dat.nis (ps.map prD)=true:=GX (fun p=>by unfold prD Dat.ni;simp[Dat.nis,Dat.ni]) ps
theorem XI(ks:List (Str×Shp)):Dat.nis (ks.map JW)=true:=Dat.nis_of (RQ ks)
theorem UW(us:List W):Dat.nis (us.map W.dat)=true:=GX W.ni us
theorem NA(ws:List Str):Dat.nis (ws.map Dat.str)=true:=GX (fun w=>by unfold Dat.ni;rfl) ws
theorem RG:∀ws:List Str,HasL H (ws.map V.str) (ws.map Dat.str)
 |[]=>Z6
 |w::ws=>Z4 VD (RG ws)
theorem Kz(us:List W):Dat.tis (us.map W.dat)=true:=J9 fun d hd=>by obtain⟨u,_,rfl⟩:=ZW.mp hd;exact W.ti u
theorem HasL.set{H:Hp}:∀{xs:List V}{ds:List Dat}{k:Nat}{v:V}{d:Dat},HasL H xs ds->Has H v d->HasL H (xs.set k v) (ds.set k d)
 |[],[],k,v,d,h,hv=>Z6
 |[],_::_,k,v,d,h,hv=>by unfold HasL at h;exact h.elim
 |_::_,[],k,v,d,h,hv=>by unfold HasL at h;exact h.elim
 |x::xs,e::ds,0,v,d,h,hv=>by unfold HasL at h;exact Z4 hv h.2
 |x::xs,e::ds,k+1,v,d,h,hv=>by unfold HasL at h;exact Z4 h.1 (HasL.set h.2 hv)
theorem Tp{β:Type}{F:β->Dat}(n:Nat)(X:Nat->V->Prop)(E:Nat->β->Prop)(st:Vp H p)(ti:∀b,(F b).ti=true)(hn:n<=1000)(hgo:∀i H',i<n->SameB p H H'->J.go i H')(hstop:∀H',SameB p H H'->J.stop n H')(hyl:∀i x H1 H2,SameB p H H1->J.yld i H1 x H2->H2=H1/\X i x)(hs:∀i x H1 (R:V->Hp->Prop),i<n->X i x->SameB p H H1->Vp H1 p->(∀v b H3,SameB p H1 H3->Vp H3 p->Has H3 v (F b)->E i b->R v H3)->g x s0 H1 fun s2 H2=>te s2 H2 R)(hd:∀vs (bs:List β) q H',H q=none->SameB p H H'->Vp H' p->H' q=some (.lst vs)->HasL H' vs (bs.map F)->bs.length=n->(∀(i:Nat) b,bs[i]?=some b->E i b)->Q (.ref q) H'):Tv J g te s0 Q H:=by
 have fs:∀bs:List β,Dat.tis (bs.map F)=true:=fun bs=>J9 fun d hd=>by obtain⟨u,_,rfl⟩:=ZW.mp hd;exact ti u
 refine V0 n (MD (by omega)) (fun i vs H'=>SameB p H H'/\Vp H' p/\vs.length=i/\∃bs,HasL H' vs (bs.map F)/\∀(i:Nat) b,bs[i]?=some b->E i b) ⟨SameB.refl _ _,st,rfl,[],Z6,fun i b h=>by simp at h⟩ (fun i vs H' z=>z.2.2.1) ?_ ?_ ?_ ?_
 .rintro i vs H' hi ⟨s,_⟩
  exact hgo i H' hi s
 .rintro vs H' ⟨s,_⟩
  exact hstop H' s
 .rintro i vs H' x H'' R hi ⟨s,st',z2,bs,z3,z4⟩ yl rT
  obtain⟨rfl,y⟩:=hyl i x H' H'' s yl;refine hs i x _ R hi y s st' fun v b H3 s3 p3 h3 e=>rT _ _ ⟨s.trans s3,p3,by rw[ZL,z2];rfl,bs++[b],?_,fun j c hj=>?_⟩
  .rw [ZK]
   exact Z7 (UD (st'.tkB s3) _ (fs bs) z3) (Z5 h3)
  .have lb:=z3.length
   rw[ZA]at lb;rcases Nat.lt_or_ge j bs.length with q|q
   .rw [List.getElem?_append_left q]at hj;exact z4 j c hj
   .have jl:=(ZF.mp hj).1
    rw[ZL,List.length_singleton]at jl;have:j=bs.length:=by omega
    subst this;rw[List.getElem?_append_right (ZG _),Nat.sub_self]at hj;cases hj;rw[<-lb,z2];exact e
 .rintro vs H' q ⟨s,st',z2,bs,z3,z4⟩ hq
  have s2:=Yo hq (.lst vs);have lb:=z3.length;rw[ZA]at lb;exact hd vs bs q _ (s.free (st'.ne hq) hq) (s.trans s2.sb) (st'.sm s2) Ye (z3.mono s2) (by omega) z4
theorem Kc:∃r,(due wo k ws false).dat=.tup (.str (if Wx wo ws then "never" else "worth")::r):=by
 unfold due Wx
 cases goW wo [] ws with
 |inl p=>exact⟨_,by unfold Du.dat;rfl⟩
 |inr u=>exact⟨_,by unfold U6 Du.dat;rfl⟩
def Mz(wo:W)(k:Nat)(ws:List Int)(full:Bool):Dat:=.tup [(due wo k ws full).dat,dnD (Wx wo ws)]
theorem W.nt:∀w:W,w.dat.nt=true
 |.non=>by simp[W.dat,Dat.nt]
 |.tag _=>by simp[W.dat,Dat.nt]
 |.pair a b=>by simp[W.dat,Dat.nt,Dat.nts,W.nt a,W.nt b]
theorem PY(ws:List Int):(JG ws).nt=true:=by
 unfold JG Dat.nt;rw[GU,List.map_map];simp[Function.comp_def,Dat.nt]
theorem Ap(b:Bool):(dnD b).nt=true:=by cases b <;> simp[dnD,Dat.nt,Dat.nts]
theorem Q1:(Mz wo k ws full).nt=true:=by
 have:(due wo k ws full).dat.nt=true:=by
  cases due wo k ws full <;> simp[Du.dat,Dat.nt,Dat.nts,PY,W.nt]
 simp[Mz,Dat.nt,Dat.nts,this,Ap]
theorem Ds:∀(ws pre:List Int){u:W}{r:List Int},goW u pre ws=.inl r->r.length<=pre.length+ws.length
 |[],pre,u,r,h=>by
  cases u <;> (unfold goW at h;cases h)
  simp
 |k::ws,pre,u,r,h=>by
  cases u with
  |non=>rw[Jh]at h;cases h;omega
  |tag t=>rw[XO]at h;cases h
  |pair a b=>
   rw[J3]at h;have:=Ds ws _ h;rw[ZL,List.length_singleton]at this;rw[Zf];omega
theorem Xm:∀{u:W}{ws r:List Int},VG u ws=some r->r.length<=ws.length+u.dep
 |.non,ws,r,h=>by unfold VG at h;cases h;omega
 |.tag t,ws,r,h=>by unfold VG at h;cases h
 |.pair a b,ws,r,h=>by
  unfold VG at h;unfold W.dep
  cases e:VG a (ws++[0])with
  |some q=>
   rw[e]at h;cases h;have:=Xm e;rw[ZL,List.length_singleton]at this;omega
  |none=>
   rw[e]at h;have:=Xm h;rw[ZL,List.length_singleton]at this;omega
theorem W.dat_dep:∀w:W,w.dat.dep=w.dep
 |.non=>by simp[W.dat,Dat.dep,W.dep]
 |.tag _=>by simp[W.dat,Dat.dep,W.dep]
 |.pair a b=>by simp[W.dat,Dat.dep,Dat.deps,W.dep,W.dat_dep a,W.dat_dep b]
theorem RV:∀ws:List Int,Dat.deps (ws.map Dat.int)=0
 |[]=>by simp[Dat.deps]
 |w::ws=>by simp[Dat.deps,Dat.dep,RV ws]
theorem K0(ws:List Int):(JG ws).dep=1:=by unfold JG Dat.dep;rw[RV]
structure DuS(d:Du):Prop where
 nl:∀k r,d=.nev k r->r.length<=100
 wd:∀w,d=.wo w->w.dep<3
theorem PJ(hl:ws.length<=10)(hd:wo.dep<3):DuS (due wo k ws full):=by
 unfold due
 cases e:goW wo [] ws with
 |inl p=>
  have:=Ds ws [] e;rw[List.length_nil]at this;exact⟨fun k r z=>by cases z;omega,fun w z=>nomatch z⟩
 |inr u=>
  have ud:=Gf ws [] wo e
  cases full with
  |true=>
   show DuS (U6 u k ws true);unfold U6
   cases ef:VG u ws with
   |some r=>
    have:=Xm ef;exact⟨fun k r' z=>by cases z;omega,fun w z=>nomatch z⟩
   |none=>exact⟨fun k r z=>(nomatch z),fun w z=>by cases z;omega⟩
  |false=>
   show DuS (U6 u k ws false);unfold U6;refine⟨fun k r z=>(nomatch z),fun w z=>?_⟩;cases z;cases u <;> simp[shown,W.dep]at ud |-
theorem Oe(hl:ws.length<=10)(hd:wo.dep<3):(Mz wo k ws full).dep<=4:=by
 have s:=PJ (k:=k) (full:=full) hl hd
 have h1:(due wo k ws full).dat.dep<=3:=by
  cases e:due wo k ws full with
  |nev k r=>simp[Du.dat,Dat.dep,Dat.deps,K0]
  |wo w=>
   have:=s.wd w e;simp only[Du.dat,Dat.dep,Dat.deps,W.dat_dep];omega
 have h2:(dnD (Wx wo ws)).dep<=3:=by cases Wx wo ws <;> simp[dnD,Dat.dep,Dat.deps]
 simp only[Mz,Dat.dep,Dat.deps];omega
theorem W.sm:∀(n:Nat)(w:W),w.dep<n->w.dat.sm n
 |n+1,.non,h=>by unfold W.dat Dat.sm;trivial
 |n+1,.tag _,h=>by unfold W.dat Dat.sm;trivial
 |n+1,.pair a b,h=>by
  have e:(W.pair a b).dep=1+max a.dep b.dep:=by conv=>lhs;unfold W.dep
  rw[e]at h;unfold W.dat Dat.sm;refine⟨by simp,fun d hd=>?_⟩;rcases Zd.mp hd with rfl|hd
  .exact W.sm n a (by omega)
  .rw [ZQ]at hd;subst hd;exact W.sm n b (by omega)
theorem Q0(hl:ws.length<=10)(hd:wo.dep<3):(Mz wo k ws full).sm 6:=by
 have s:=PJ (k:=k) (full:=full) hl hd
 have h1:(due wo k ws full).dat.sm 5:=by
  cases e:due wo k ws full with
  |nev k r=>
   have:=s.nl k r e;unfold Du.dat;refine⟨by simp,fun d hd=>?_⟩;simp only[Zd,List.not_mem_nil,or_false]at hd;rcases hd with rfl|rfl|rfl
   .trivial
   .trivial
   .unfold JG
    refine⟨by rw[ZA];omega,fun d hd=>?_⟩;obtain⟨j,_,rfl⟩:=ZW.mp hd
    trivial
  |wo w=>
   have:=s.wd w e;unfold Du.dat;refine⟨by simp,fun d hd=>?_⟩;simp only[Zd,List.not_mem_nil,or_false]at hd;rcases hd with rfl|rfl
   .trivial
   .exact W.sm 4 w (by omega)
 have h2:(dnD (Wx wo ws)).sm 5:=by
  cases Wx wo ws <;> simp[dnD,Dat.sm]
 unfold Mz;refine⟨by simp,fun d hd=>?_⟩;simp only[Zd,List.not_mem_nil,or_false]at hd;rcases hd with rfl|rfl
 .exact h1
 .exact h2
theorem KK.d2(kk:KK top c d ks)(h:y∈ks.map (·.1)):d y<=2:=by
 obtain⟨s,e⟩:=Vl h;have:=kk.at e
 cases s with
 |tags ts=>obtain⟨_,_,_,h4,_⟩:=this;omega
 |pair a b=>obtain⟨_,_,_,_,_,h6⟩:=this;exact h6
theorem KK.c30(kk:KK 30 c d ks)(h:y∈ks.map (·.1)):c y<=30:=by
 obtain⟨s,e⟩:=Vl h;have:=kk.at e
 cases s with
 |tags ts=>obtain⟨_,_,_,_,_⟩:=this;omega
 |pair a b=>obtain⟨_,_,_,h4,_⟩:=this;exact h4
theorem Iu:2<=(UL n0 n1 n2 ts dp).length/\(UL n0 n1 n2 ts dp).length<=3:=by unfold UL;cases dp <;> simp
theorem KF(h:Has H x (JW k)):∃a v,x=.ref a/\H a=some (.tup [.str k.1,v])/\Has H v k.2.dat:=TX h
theorem UN.get(S:UN H a ks)(e:VR ks y=some s):∃v,Vh H a (.str y) (some v)/\Has H v s.dat:=by
 obtain⟨kvs,rd,ek,ev⟩:=S;obtain⟨v,h1,h2⟩:=ev y s e;exact⟨v,.inl ⟨kvs,Sum.inr y,rd,rfl,h1.symm⟩,h2⟩
theorem D7{xs:List V}{v:V}:atI (xs++[v]) (-1)=some v:=by
 unfold atI ixN;rw[Zq (by decide),Zp (by rw[ZL,List.length_singleton];omega)];show(xs++[v])[_]?=some v;rw[List.getElem?_append_right (by rw[ZL,List.length_singleton];omega)];rw[show(-1+((xs++[v]).length:Int)).toNat-xs.length=0 by rw[ZL,List.length_singleton];omega]
 rfl
theorem EF:¬decide (V.str (shW (.tags ts))=V.str "pair")=true:=by show ¬decide (V.str "tags"=V.str "pair")=true;decide +kernel
theorem EV:decide (V.str (shW (.pair a b))=V.str "pair")=true:=by show decide (V.str "pair"=V.str "pair")=true;decide +kernel
theorem EE:decide (V.str (shW (.tags ts))=V.str "tags")=true:=by show decide (V.str "tags"=V.str "tags")=true;decide +kernel
theorem Nn:∀ts:List Str,Bd.brs (ts.map Bd.tag) ts=ts.map fun t=>.tup [.str t,.tup [.str "tag",.str t]]
 |[]=>by unfold Bd.brs;rfl
 |t::ts=>by
  rw[ZV,ZV,<-Nn ts]
  conv=>lhs;unfold Bd.brs
  unfold Bd.dat
  rfl
theorem NV{H:Hp}(h:H a=some (.lst xs))(g:HasL H xs ds):Has H (.ref a) (.lst ds):=by
 unfold Has;exact⟨a,xs,rfl,h,g⟩
theorem L0{H:Hp}:Has H .non .non:=by unfold Has;rfl
def Sf(K:W.Frag):List V->Hp->VK->Prop:=fun xs H Q=>∃p ys,xs=[.ref p]/\(SqL K H p ys\/SqT K H p ys)/\Q (.int (ys.length:Nat)) H
theorem Rc(K:W.Frag)(hK:X.K=K:=by rfl):Jb X (.builtin "len") (Sf K):=by
 subst hK;exact Y3
end L2
namespace K4
open PySem L2
section
variable{C CK CG CO CW CD:Addr}
theorem J7:Yi ["stream","kinds","shapes","words","own","some","others","parameters","at","body","way","book","worth","worths","full","done","found"] ["stream"] (Yd Xh):=Y2
theorem Qb:List.Nodup [("tag":Str)]:=by decide +kernel
theorem Qd:List.Nodup [("k":Str),"stream","some"]:=by decide +kernel
theorem Ii:List.Nodup [("name":Str),"kind","stream","others"]:=by decide +kernel
inductive STR(H:Hp)(Q:VK):List V->Prop
 |mk (p:Addr) (st:Vp H p) (q:∀H',SameB p H H'->Q (.bl true) H'):STR H Q [.ref p]
def Pi:Sp:=fun vs H Q _=>STR H Q vs
theorem Ss(B:Blt mg)(F:Fun K "_law_told_right" "_law_told_right" Xh f fd)(DSh:Df P w K mg base (n+6) "_law_shapes" ["stream"] FK)(DS:Df P w K mg base (n+6) "_law_small" ["stream","many"] W8)(DT:Df P w K mg base (n+6) "_law_take" ["stream","many"] WD)(DWo:Df P w K mg base (n+6) "_law_worths" skp (RI 3))(DFl:Df P w K mg base (n+6) "_law_flat" flp Pq)(mB:mg "Book"=some (.ref C))(MB:Mk K C g)(GB:Yf P w K mg base CX0 (n+5) g gd ["self","kinds","definitions"] (Pz C CK))(bB:Binds K gd ["self","kinds","definitions"] [])(DD:Df P w K mg base (n+6) "_law_due" ["worth","at","way","full"] (Pw 3))(DA:Df P w K mg base (n+6) "asked" Od (FS C CK))(DN:Df P w K mg base (n+6) "_law_no_truths" ["thing"] (EH 6)):Yf P w K mg base CX0 (n+7) f fd ["stream"] Pi:=by
 refine F.oi J7 fun cdv A outer s H vs Q E hr h=>?_;obtain⟨p,st,q⟩:=h;have hu:=JF hr;refine⟨_,YY (Yu 1 J7.nd (VJ DSh hr (pa1 (pv 0))))
  (YY (Yu 2 J7.nd (VL (B6 rfl) rfl B.dict Uk (pa1 (pv 1))))
  (YY (Yu 3 J7.nd (VJ DS hr (pa2 (pv 0) (Ya))))
  (YY (Yu 4 J7.nd (Yj (r:=VS K) Ym (Yj VA (pv 1) (VJ DT hr (pa2 (pv 0) (Y7 Y3 rfl B.len Zu (pa1 (pv 1))))) (fun _ _=>rfl)) (Ya)))
  (YY (Yu 5 J7.nd (VJ DWo hr (pa2 (pv 2) (pv 4))) (hx:=Or.inr rfl))
  (YY (Yu 6 J7.nd (VJ DWo hr (pa2 (pv 2) (Yj (r:=VS K) Ym (Yj VA (pv 1) (Ya)) (Ya)))) (hx:=Or.inr rfl))
  (YY (Yu 7 J7.nd (VJ DFl hr (pa5 (pv 0) (pv 3) (Y7 Y3 rfl B.len Zu (pa1 (pv 5))) (Y7 Y3 rfl B.len Zu (pa1 (pv 6))) (Yj (r:=VS K) Ym (Yj VA (pv 1) (Ya)) (Ya)))))
  (YY (Yu 8 J7.nd (VJ DT hr (pa2 (pv 0) (Y7 Y3 rfl B.len Zu (pa1 (pv 7))))))
  (YY (UI (Yt (pa2 (Yj VA (pv 3) (pv 8) (fun _ _=>rfl)) (pv 4))) (TF (pv 7) (pv 8) set_list))
  (YY (Yu 9 J7.nd (Yt (pa2 (Yw) (Yj VA (pv 3) (pv 8) (fun _ _=>rfl)))))
  (YY (Yu 10 J7.nd (Yt (Vj)))
  (YY (G7 Zv (PW.pt (G6 (Yn VQ (Yj (r:=VS K) Ym (Vc hu (pv 2) (pv 4) (fun _ _=>rfl)) (Ya)) Yw (Yv _)) (Xw (Yn X1 (VJ DT hr (pa2 (pv 0) (Ya))) Ya (Yv _))))) (YY (Yu 10 J7.nd (VB (r:=fun x y H Q=>Ux K x y H Q\/Uw K x y H Q) Ue (pv 10) (Yt (pa1 (VJ DT hr (pa2 (pv 0) (Ya)))))))
  (YY (Yu 9 J7.nd (Yt (pa2 (Yj VA (Vg (pa2 (Yw) (Yw))) (Yj (r:=VS K) Ym (pv 10) (NL Gh Ya)) (fun _ _=>rfl)) (pv 9))))
  (YZ (Yu 4 J7.nd (Yj (r:=VS K) Ym (Vc hu (pv 2) (pv 4) (fun _ _=>rfl)) (VB V9 Ya (Yj (r:=VS K) Ym (pv 10) (NL Gh Ya))) (fun _ _=>rfl)))))))
  (YY (Y0 (PW.pt (G6 (Yn VQ (Yj (r:=VS K) Ym (Vc hu (pv 2) (pv 4) (fun _ _=>rfl)) (Ya)) Yw (Yv _)) (Xw (Yn VQ (VJ DT hr (pa2 (pv 0) (Ya))) Ya (Yv _))))) (YZ (Yu 9 J7.nd (Yt (pa3 (Yw) (pv 9) (VL Vq rfl B.tuple VN (pa1 (V6 ["tag"] [] (JV (Yj (r:=VS K) Ym (Vc hu (pv 2) (pv 4) (fun _ _=>rfl)) (Ya))) (Vu (i:=0) (by decide)) (fun cl C fp s H=>Yp 0 Qb rfl (Or.inl rfl) (Or.inr rfl)) (fun cl C fp s H=>Yt (pa2 (pv 0) (Yt (pa2 (Yw) (pv 0)))))))))))) Yl)
  (YY (Yu 11 J7.nd (Xz MB GB hr rfl mB bB .nil Y4 (pa2 (pv 1) (Vg (pa1 (Yt (pa4 (Yj VA (pv 3) (Ya)) (VL Vq rfl B.tuple VN (pa1 (pv 7))) (pv 4) (pv 9))))))))
  (YY (V1 Zv rfl (JL (VB TJ (Vg (pa1 (VI))) (V6 ["k"] [0,5] (Jd rfl B.range (pa1 Ya)) (Vu (i:=0) (by decide)) (fun cl C fp s H=>Yp 0 Qd rfl (Or.inl rfl) (Or.inr rfl)) (fun cl C fp s H=>Yj (r:=EQ K) VA (pv 2) (VJ DT hr (pa2 (pv 1) (Y7 (Rc K) rfl B.len Zu (pa1 (pv 2))))) (fun _ _=>rfl))))) (Yp 12 J7.nd)
   (YY (Dh (i0:=13) ["name","kind"] [0,6] J7.nd rfl (Or.inl rfl) (JL (pv 7)) TY (fun cl C fp s H=>Vi (n:=2) rfl (Yx (Yp 0 Ii rfl (Or.inl rfl) (Or.inr rfl)) (Yx (Yp 1 Ii rfl (Or.inl rfl) (Or.inr rfl)) VW))) (fun cl C fp s H=>Yj (r:=EQ K) VA (pv 3) (VJ DT hr (pa2 (pv 2) (Y7 (Rc K) rfl B.len Zu (pa1 (pv 3))))) (fun _ _=>rfl)))
  (YY (UI (pv 12) (TF (pv 13) (pv 8) set_list))
  (YY (Yu 14 J7.nd (V7 VQ (VJ DT hr (pa2 (pv 0) (Ya))) Ya rfl))
  (YY (Yu 15 J7.nd (Vg (pa1 (Yt (pa2 (Yt (Vj)) (VI))))))
  (YY (Y0 (Yn VQ (Yj (r:=VS K) Ym (VJ DD hr (pa4 (pv 12) (pv 8) (pv 10) (Uo))) (Ya)) Yw (Yv _)) (YZ (Yu 15 J7.nd (Vg (Vj)))) Yl)
  (YY (Yu 16 J7.nd (VJ DA hr (pa5 (pv 11) (Yj VA (pv 3) (Ya)) (VL Vq rfl B.tuple VN (pa1 (pv 13))) (Ya) (pv 14))))
  (YZ (Y0 (PW.pt (UQ (Yn (Bi hr) (pv 16) (Yt (pa2 (VJ DD hr (pa4 (pv 12) (pv 8) (pv 10) (pv 14))) (pv 15))) (Yv _)) (Jl (JH (Ve (VJ DN hr (pa1 (pv 16)))))))) (YZ (Yh (Uo))) Yl)))))))))
  (YZ (Yh (Uo))))))))))))))))),?_⟩
 show let T0:=_;let T1:=_;let T2:=VC _ T1 _;let T3:=Yk _ T2;let T4:=_;let T5:=Yk (VC _ T4 _) T3;let T6:=Yk _ T5;let T7:=Yk _ T6;let T8:=Yk _ T7;let T9:=Yk _ T8;let T10:=Yk (UH _ _ T9) T0;let T11:=Yk _ T10;let T12:=_;let T13:=Yk (VC _ T12 _) T11;let T14:=_;let T15:=Yk _ T14;let T16:=Yk _ T15;let T17:=Yk (Rw _ T16) T13;let T18:=Yk _ T17;let T19:=Yk _ T18;let T20:=Yk _ T19;let T21:=Yk _ T20;let T22:=Yk _ T21;let T23:=Yk _ T22;let T24:=Yk _ T23;let T25:=Yk _ T24;let T26:=Yk _ T25;let T27:=Yk _ T26;Yk _ T27 _ _ _
 intros
 refine⟨p,st,fun kl xs ks c d H1 s1 st1 fkl hkl hxs sh=>?_⟩;obtain⟨n0,n1,n2,tgs,dp,ek0⟩:=sh.ex;have kk:=sh.kk;have kl2:=Iu (n0:=n0) (n1:=n1) (n2:=n2) (ts:=tgs) (dp:=dp);rw[<-ek0]at kl2;have k0:ks[0]?=some (n0,.tags tgs):=by rw[ek0];rfl
 have L1:LsD H1 kl (ks.map JW):=⟨xs,hkl,hxs⟩;obtain⟨ts,kvs,exs,prs,ek,ev⟩:=RS (K:=K) hxs
 have ndk:(kvs.map (·.1)).Nodup:=by
  rw[ek];have:=sh.nd;unfold List.Nodup at this |-;rw[List.pairwise_map]at this |-;exact this.imp fun hab z=>hab (Sum.inr.inj z)
 refine⟨kl,ts,kvs,rfl,Z3 (by rw[<-exs];exact hkl),prs,ndk,fun sa hsa=>?_⟩;refine up_in hsa _ fun H2 s2 gsa=>?_;have S2:UN H2 sa ks:=⟨kvs,.inl gsa,ek,fun y s e=>let⟨v,h1,h2⟩:=ev y s e;⟨v,h1,h2.mono s2⟩⟩;have st2:=st1.sm s2;refine⟨p,4,rfl,st2,by decide,fun wl ws H3 s3 st3 fwl nwl hwl lw wd=>?_⟩;have L3:=(L1.mono s2).st s3 st2 (XI ks);have S3:=S2.st s3 st2;have W3:LsD H3 wl (ws.map Dat.str):=⟨_,hwl,RG ws⟩;have lks:=kl2;obtain⟨xs3,hkl3,hxs3⟩:=id L3;have lx3:=hxs3.length;rw[ZA]at lx3;refine⟨kl,xs3,rfl,.inl (Z3 hkl3),p,_,rfl,st3,by omega,by omega,fun r H4 r0 r1 b4 st4=>?_⟩;have s4:SameB p H3 H4:=b4.sb;obtain⟨r,rfl⟩:=Int.eq_ofNat_of_zero_le r0;have L4:=L3.st s4 st3 (XI ks);have S4:=S3.st s4 st3;have W4:=W3.st s4 st3 (NA ws);obtain⟨xs4,hkl4,hxs4⟩:=id L4;have lx4:=hxs4.length;rw[ZA]at lx4;have rl:r<xs4.length:=by omega
 obtain⟨ky,hky,hky2⟩:=getD hxs4 (ZD rl);obtain⟨ka,kv,ekx,hka,_⟩:=KF hky2;refine⟨_,_,Z3 hkl4,Y5 (ZD rl),?_⟩;rw[ekx];refine⟨_,_,Z2 hka,at0,?_⟩;have my0:ky.1∈ks.map (·.1):=ZW.mpr ⟨ky,ZJ hky,rfl⟩;generalize ky.1=y0 at my0 hka |-;have mn0:n0∈ks.map (·.1):=ZW.mpr ⟨_,ZJ k0,rfl⟩;have dy0:=kk.d2 my0;have dn0:=kk.d2 mn0;refine⟨sa,y0,ks,30,c,d,S4,kk,ZG _,my0,by omega,by omega,fun al xa H5 s5 fal hal hxa=>?_⟩;have L5:=L4.mono s5;obtain⟨xs5,hkl5,hxs5⟩:=id L5;have lx5:=hxs5.length;rw[ZA]at lx5;have r5:0<xs5.length:=by omega
 have hat5:atI xs5 0=some (xs5[0]'r5):=Y5 (j:=0) (ZD r5);obtain⟨k5,hk5,hk52⟩:=getD hxs5 (ZD r5);rw[k0]at hk5;cases hk5;obtain⟨ka5,kv5,ekx5,hka5,_⟩:=KF hk52;refine⟨_,_,Z3 hkl5,hat5,?_⟩;rw[ekx5];refine⟨_,_,Z2 hka5,at0,?_⟩;refine⟨sa,n0,ks,30,c,d,S4.mono s5,kk,ZG _,mn0,by omega,by omega,fun ol xo H6 s6 fol hol hxo=>?_⟩;have s46:=s5.trans s6;have S6:=S4.mono s46;have L6:=L4.mono s46;have W6:=W4.mono s46;have A6:LsD H6 al ((Ys ks 3 y0).map W.dat):=⟨xa,s6 _ _ hal,hxa.mono s6⟩;have O6:LsD H6 ol ((Ys ks 3 n0).map W.dat):=⟨xo,hol,hxo⟩;have st6:=st4.sm s46;obtain⟨wy1,wy2,wy3⟩:=V4 kk 3 y0 my0 (by omega);obtain⟨wn1,wn2,wn3⟩:=V4 kk 3 n0 mn0 (by omega);have la:=hxa.length;have lo:=hxo.length;rw[ZA]at la lo;have cy30:=kk.c30 my0;have cn30:=kk.c30 mn0;have hwl6:H6 wl=some (.lst (ws.map V.str)):=s46 _ _ (s4 _ _ nwl hwl);have hka6:=s6 _ _ hka5;refine⟨al,_,rfl,.inl (Z3 (s6 _ _ hal)),ol,_,rfl,.inl (Z3 hol),_,_,Z3 (s6 _ _ hkl5),hat5,?_⟩;rw[ekx5];refine⟨_,_,Z2 hka6,at0,?_⟩;refine⟨p,wl,ws,xa.length,xo.length,n0,st6,hwl6,nwl,lw,by omega,by omega,by omega,by omega,fun pl zs m H7 s7 st7 fpl hpl hzs m1 m3 hrows=>?_⟩;rw[la,wy1,lo,wn1]at hrows;rw[LW]at hzs;have lz:=hzs.length;rw[ZA]at lz;have lpk:(pk0 ws m n0).length=m:=by unfold pk0;rw[ZA,ZN];omega
 refine⟨pl,zs,rfl,.inl (Z3 hpl),p,_,rfl,st7,by omega,by omega,fun r H8 r0' r1' b8 st8=>?_⟩;have s8:SameB p H7 H8:=b8.sb;obtain⟨k,rfl⟩:=Int.eq_ofNat_of_zero_le r0';have km:k<m:=by omega
 have npl:pl≠p:=st6.ne fpl;have s68:=s7.trans s8;have hwl8:H8 wl=some (.lst (ws.map V.str)):=s68 _ _ nwl hwl6;have kw:k<ws.length:=by omega
 obtain⟨x,hx⟩:∃x,ws[k]?=some x:=⟨_,ZD kw⟩;have ax:atI (ws.map V.str) (k:Int)=some (.str x):=Y5 (by rw[ZH,hx];rfl);refine⟨_,_,Z3 hwl8,ax,sl 2,fun t9 ht9=>?_⟩;refine up_in ht9 _ fun H9 s9 g9=>?_;have hpl9:=s9 _ _ (s8 _ _ npl hpl);refine⟨pl,zs,k,k,rfl,rfl,hpl9,?_,?_⟩
 .unfold ixN
  rw[Zp (by omega),Zp (by omega)]
  rfl
 refine fld_in pl _ fun H10 b10 g10=>?_;have s610:SameB p H6 H10:=fun b o n e=>b10 _ _ (Yc e fpl) (s9 _ _ (s68 _ _ n e))
 have st10:Vp H10 p:=by
  obtain⟨a,b,c',d',h⟩:=st8.sm s9;exact⟨a,b,c',d',b10 _ _ npl.symm h⟩
 have tk10:=Jf b10 hpl9
 have P10:LsD H10 pl ((pk ws m n0 k x y0).map prD):=by
  refine⟨_,g10,?_⟩;rw[QD];have h9:=(UE (K:=K) (sa:=0) s8 ⟨st7⟩ _ (GJ _) hzs).mono s9;have ti:Dat.tis ((pk0 ws m n0).map prD)=true:=J9 fun d hd=>by obtain⟨u,_,rfl⟩:=ZW.mp hd;simp[prD,Dat.ti,Dat.tis]
  exact(UD tk10 _ ti h9).set (UY (tk10 _ _ g9))
 have S10:=S6.st s610 st6;have L10:=L6.st s610 st6 (XI ks);have W10:=W6.st s610 st6 (NA ws);have A10:=A6.st s610 st6 (UW _);have O10:=O6.st s610 st6 (UW _);have hwl10:H10 wl=some (.lst (ws.map V.str)):=s610 _ _ nwl hwl6;have sH10:SameB p H H10:=((((s1.trans s2.sb).trans s3).trans s4).trans s46.sb).trans s610;refine⟨_,_,Z3 hwl10,ax,sl 2,fun t11 ht11=>?_⟩;refine up_in ht11 _ fun H11 s11 g11=>⟨sl 0,fun t12 ht12=>?_⟩;refine up_in ht12 _ fun H12 s12 g12=>?_;have s1012:=s11.trans s12
 have hb12:Has H12 (.ref t11) (J6 [] (.name x)).dat:=by
  show Has H12 (.ref t11) (Bd.name x).dat;unfold Bd.dat;exact UY (s12 _ _ g11)
 have hw12:Has H12 (.ref t12) (JG []):=Dm g12;dsimp only[Vo];refine XC (fun U H'=>∃(wv bv:V)(ws':List Int)(y:Str),U=[some (.ref p),some (.ref kl),some (.ref sa),some (.ref wl),some (.str y),some (.ref al),some (.ref ol),some (.ref pl),some (.int (k:Nat)),some bv,some wv,none,none,none,none,none,none]/\SameB p H10 H'/\Vp H' p/\Has H' wv (JG ws')/\Has H' bv (J6 ws'.reverse (.name x)).dat/\Mkg ks d x y0 ws' y) ?key ?main
 case main=>
  intro N hN
  let W:Nat->St->Hp->Prop:=fun m' U H'=>∃(wv bv:V)(ws':List Int)(y:Str),U=[some (.ref p),some (.ref kl),some (.ref sa),some (.ref wl),some (.str y),some (.ref al),some (.ref ol),some (.ref pl),some (.int (k:Nat)),some bv,some wv,none,none,none,none,none,none]/\SameB p H10 H'/\Vp H' p/\Has H' wv (JG ws')/\Has H' bv (J6 ws'.reverse (.name x)).dat/\Mkg ks d x y0 ws' y/\d y=m'
  refine⟨W,⟨d y0,_,_,[],y0,rfl,s1012.sb,st10.sm s1012,hw12,hb12,.nil my0,rfl⟩,?_⟩;rintro m' U H' ⟨wv,bv,ws',y,rfl,sb,st',hw',hb',mk,em⟩;obtain⟨sh',esh⟩:=Vl mk.mem;obtain⟨v,hg,hv⟩:=(S10.st sb st10).get esh;obtain⟨va,vys,rfl,hva⟩:=NF hv;refine⟨_,hg,_,_,Z2 hva,at0,rfl,_,rfl,?_⟩
  cases sh' with
  |tags ts'=>exact Yy EF (Yy (by simp) (hN _ _ ⟨wv,bv,ws',y,rfl,sb,st',hw',hb',mk⟩))
  |pair a b=>
   refine VE EV ?_;refine⟨p,4,rfl,st',by decide,by decide,fun r Ha r0 r1 ba sta=>⟨_,rfl,?_⟩⟩;have sba:=sb.trans ba.sb;have tka:=st'.tkB ba.sb
   by_cases hr0:0<r
   .refine VE (decide_eq_true hr0) ⟨fun U H'=>∃m'',m''<m'/\W m'' U H',fun U' H' z=>z,?_⟩
    refine⟨p,2,rfl,sta,by decide,by decide,fun j Hb j0 j1 bb stb=>⟨sl 1,fun t ht=>?_⟩⟩;have hj:j=0\/j=1:=by omega
    have tkb:=sta.tkB bb.sb;refine up_in ht _ fun Hc sc gc=>?_;have hwc:=(VP tkb _ (UG _) (VP tka _ (UG _) hw')).mono sc;have dd:=mk.dd;refine XT hwc (XG gc) (by simp) (by simp;omega) fun u Hd sd hud=>?_;obtain⟨ua,rfl,hua⟩:=Jq hud;rw[ZK]at hua;refine⟨sl 2,fun l hl=>?_⟩;refine up_in hl _ fun He se ge=>?_;refine⟨1,rfl,_,_,Z2 (se _ _ hua),D7,?_⟩;have sbe:SameB p H10 He:=((sba.trans bb.sb).trans (sc.trans sd).sb).trans se.sb;have ste:=stb.sm ((sc.trans sd).trans se);obtain⟨v2,hg2,hv2⟩:=(S10.st sbe st10).get esh;have hbe:=(VP tkb _ (Bd.ti _) (VP tka _ (Bd.ti _) hb')).mono ((sc.trans sd).trans se);have ej:atI [V.str "one",V.str "other"] j=some (.str (if j=0 then "one" else "other")):=by rcases hj with rfl|rfl <;> rfl
    refine⟨_,_,Z3 ge,ej,sl 2,fun t2 ht2=>?_⟩;refine up_in ht2 _ fun Hf sf gf=>?_;have sbf:=sbe.trans sf.sb;have hv3:Has Hf v2 (Shp.pair a b).dat:=hv2.mono sf;unfold Shp.dat at hv3;obtain⟨pa,pys,rfl,hpa,hpl2⟩:=Yr hv3;obtain⟨x1,r1',rfl,e1,hlA⟩:=Yb hpl2;obtain⟨x2,r2',rfl,e2,hlB⟩:=Yb hlA;obtain⟨x3,r3',rfl,e3,hlC⟩:=Yb hlB;obtain rfl:=Y8 hlC;obtain rfl:=has_str e2;obtain rfl:=has_str e3;obtain⟨v4,hg4,hv4⟩:=(S10.st sbf st10).get esh;unfold Shp.dat at hv4;obtain⟨pa4,pys4,rfl,hpa4,hpl4⟩:=Yr hv4;obtain⟨z1,q1,rfl,f1,hmA⟩:=Yb hpl4;obtain⟨z2,q2,rfl,f2,hmB⟩:=Yb hmA;obtain⟨z3,q3,rfl,f3,hmC⟩:=Yb hmB;obtain rfl:=Y8 hmC;obtain rfl:=has_str f2;obtain rfl:=has_str f3;have ej2:atI [z1,V.str a,V.str b] (1+j)=some (.str (if j=0 then a else b)):=by rcases hj with rfl|rfl <;> rfl
    refine⟨_,hg4,1,rfl,_,_,Z2 (sf _ _ (se _ _ hua)),D7,_,_,Z2 hpa4,ej2,?_⟩;have mk2:=mk.snoc kk esh hj;have dm:=mk2.mem
    have dlt:d (if j=0 then a else b)<m':=by
     obtain⟨_,_,h3,h4⟩:=kk.pair esh;rcases hj with rfl|rfl
     .show d a<m';omega
     .show d b<m';omega
    refine⟨_,dlt,.ref ua,.ref t2,ws'++[j],_,rfl,sbf,ste.sm sf,(hud.mono se).mono sf,?_,mk2,rfl⟩;rw[List.reverse_append];show Has Hf (.ref t2) (MK j (J6 ws'.reverse (.name x))).dat;have hbf:=hbe.mono sf;rcases hj with rfl|rfl
    .show Has Hf (.ref t2) (Bd.one _).dat
     conv=>arg 3;unfold Bd.dat
     exact Y1 gf (Z4 VD (Z5 hbf))
    .show Has Hf (.ref t2) (Bd.other _).dat
     conv=>arg 3;unfold Bd.dat
     exact Y1 gf (Z4 VD (Z5 hbf))
   .exact Yy (by simp;omega) ((hN _ _ ⟨wv,bv,ws',y,rfl,sba,sta,VP tka _ (UG _) hw',VP tka _ (Bd.ti _) hb',mk⟩))
 rintro U H13 ⟨wv,bv,way,y,rfl,sb13,st13,hw13,hb13,mk⟩;refine XC (fun U H'=>∃(wv bv:V)(b:Bd),U=[some (.ref p),some (.ref kl),some (.ref sa),some (.ref wl),some (.str y),some (.ref al),some (.ref ol),some (.ref pl),some (.int (k:Nat)),some bv,some wv,none,none,none,none,none,none]/\SameB p H10 H'/\Vp H' p/\Has H' wv (JG way)/\Has H' bv b.dat/\Fin ks x y0 way y b) ?key2 ?main2
 case main2=>
  intro N hN;obtain⟨sh',esh⟩:=Vl mk.mem;obtain⟨v,hg,hv⟩:=(S10.st sb13 st10).get esh;have hv':=hv;obtain⟨va,vys,rfl,hva⟩:=NF hv;refine⟨_,hg,_,_,Z2 hva,at0,rfl,_,rfl,?_⟩
  cases sh' with
  |pair a b=>exact Yy EU (Yy (by simp) (hN _ _ ⟨wv,bv,_,rfl,sb13,st13,hw13,hb13,mk.fin dy0⟩))
  |tags ts'=>
   refine VE EE ?_;refine⟨p,2,rfl,st13,by decide,by decide,fun r Ha r0 r1 ba sta=>⟨rfl,_,rfl,?_⟩⟩;have sba:=sb13.trans ba.sb;have tka:=st13.tkB ba.sb
   by_cases hr1:r=1
   .refine VE (by rw[hr1];decide) ?_
    obtain⟨v2,hg2,hv2⟩:=(S10.st sba st10).get esh;unfold Shp.dat at hv2;obtain⟨va2,ys2,rfl,hva2,hl2⟩:=Yr hv2;obtain⟨x1,r1',rfl,e1,hlA⟩:=Yb hl2;obtain⟨x2,r2',rfl,e2,hlB⟩:=Yb hlA;obtain rfl:=Y8 hlB;obtain⟨tt,xt,rfl,htt,hxt⟩:=Yr e2;refine⟨_,hg2,_,_,Z2 hva2,at1,⟨_,Z2 htt⟩,?_⟩;obtain⟨t1,t2,_,_,nt⟩:=kk.at esh;refine UV (us:=ts') (D:=Dat.str) (F:=fun t=>.tup [.str t,.tup [.str "tag",.str t]]) (fun H' s=>itt (Z2 (s _ _ htt))) hxt (by omega) (fun u xx H1 R hm s1 hx1 hR=>?_) fun vs q1 H1 fq s1 hq hvs=>?_
    .obtain rfl:=has_str hx1
     refine⟨sl 2,fun ta hta=>?_⟩;refine up_in hta _ fun H2 s2 g2=>⟨sl 2,fun tb htb=>?_⟩;refine up_in htb _ fun H3 s3 g3=>hR _ _ (s2.trans s3) ?_;exact Y1 g3 (Z4 VD (Z5 (UY (s3 _ _ g2))))
    refine⟨q1,vs,rfl,.inl ⟨Z3 hq,fun tp htp=>?_⟩⟩;refine up_in htp _ fun Hb sb' gb=>⟨sl 3,fun tc htc=>?_⟩;refine up_in htc _ fun Hc sc gc=>?_;have sac:=(s1.trans sb').trans sc;refine hN _ _ ⟨wv,_,_,rfl,sba.trans sac.sb,sta.sm sac,(VP tka _ (UG _) hw13).mono sac,?_,mk.cho dy0 kk esh⟩
    conv=>arg 3;unfold Bd.dat
    rw[Nn];exact Y1 gc (Z4 VD (Z4 ((VP tka _ (Bd.ti _) hb13).mono sac) (Z5 (Y1 (sc _ _ gb) (hvs.mono (sb'.trans sc))))))
   .exact Yy (by simp[hr1]) (hN _ _ ⟨wv,bv,_,rfl,sba,sta,VP tka _ (UG _) hw13,VP tka _ (Bd.ti _) hb13,mk.fin dy0⟩)
 rintro U H14 ⟨wv,bv,b,rfl,sb14,st14,hw14,hb14,fin⟩;clear hw13 hb13 sb13 st13 mk;obtain⟨f3,hf3⟩:∃f3,ws[3]?=some f3:=⟨_,ZD (by omega)⟩;have a3:atI (ws.map V.str) 3=some (.str f3):=Y5 (j:=3) (by rw[ZH,hf3];rfl);have wlp:∀{H':Hp},SameB p H10 H'->H' wl=some (.lst (ws.map V.str)):=fun s=>s _ _ nwl hwl10;obtain⟨zs14,hpl14,hzs14⟩:=P10.st sb14 st10 (GJ _);refine⟨_,_,Z3 (wlp sb14),a3,pl,zs14,rfl,.inl ⟨Z3 hpl14,fun tp htp=>?_⟩⟩;refine up_in htp _ fun H15 s15 g15=>⟨sl 4,fun td htd=>?_⟩;refine up_in htd _ fun H16 s16 g16=>⟨sl 1,fun dl hdl=>?_⟩;refine up_in hdl _ fun H17 s17 g17=>?_;have s1417:=(s15.trans s16).trans s17;intro bx dx hbx hdx hne;have sX:Same H17 (upd (upd H17 dx (.own bx)) bx (.ins C dx [])):=fun b o e=>by rw[Yg (Yc e hbx),Yg (Yc e hdx)];exact e
 have tx:upd (upd H17 dx (.own bx)) bx (.ins C dx []) bx=some (.ins C dx []):=Ye;generalize upd (upd H17 dx (.own bx)) bx (.ins C dx [])=H18 at tx sX |-;have s1418:=s1417.trans sX;have sb18:SameB p H10 H18:=sb14.trans s1418.sb;obtain⟨xs18,hkl18,hxs18⟩:=L10.st sb18 st10 (XI ks)
 let df:Dd:=((f3,pk ws m n0 k x y0,y),b)
 have edf:Has H18 (.ref td) (Ki df):=by
  have s1618:=s17.trans sX;exact Y1 (s1618 _ _ g16) (Z4 VD (Z4 (Y1 ((s16.trans s1618) _ _ g15) (hzs14.mono s1418)) (Z4 VD (Z5 (hb14.mono s1418)))))
 have wd3:Wds 97 ([df].map fun x=>x.1.1):=by
  have hm:=ZJ hf3;exact⟨by simp,fun z hz=>wd.len z (by simp at hz;rw[hz];exact hm),fun z hz=>wd.abc z (by simp at hz;rw[hz];exact hm)⟩
 have hdk:Ku (ks.map (·.1)) c 200 df.1:=Si wd lw km m3 hx mn0 my0 fin.mem hrows;have hdr:DRt ks [df] df:=Em fin sh.kg kk wd lw km m3 hx;refine⟨bx,dx,kl,dl,xs18,_,ks,c,d,[df],tx,hkl18,hxs18,kk,sh.nd,sh.kg,by omega,by omega,sX _ _ g17,Z5 edf,by simp,by simp,wd3,fun z hz=>(by rw[ZQ]at hz;rw[hz];exact hdk),fun z hz=>(by rw[ZQ]at hz;rw[hz];exact hdr),fun H19 s19 bi=>⟨rfl,?_⟩⟩;have s1719:Same H17 H19:=fun b o e=>s19 _ _ (Yc e hbx) (sX _ _ e);have s1419:=s1417.trans s1719;have st19:=st14.sm s1419;have sb19:SameB p H10 H19:=sb14.trans s1419.sb;have hw19:=hw14.mono s1419;clear tx sX s19;refine⟨sl 1,fun l1 hl1=>?_⟩;refine up_in hl1 _ fun H20 s20 g20=>?_;have sb20:=sb19.trans s20.sb;have st20:=st19.sm s20;refine⟨5,rfl,by decide,by decide,?_⟩;refine Tp (F:=W.dat) 5 (fun _ _=>True) (fun _ u=>u∈Ys ks 3 y0) st20 W.ti (by decide) (fun i H' hi _=>hi) (fun H' _=>ZG _) (fun i xx Ha Hb _ yl=>⟨yl.1,trivial⟩) (fun i xx Ha R hi _ sa' sta hR=>?_) fun vs us q1 H21 fq s21 st21 hq hvs lus hus=>?_
 .have sba:=sb20.trans sa'
  obtain⟨xa',hal',hxa'⟩:=A10.st sba st10 (UW _);have lxa:=hxa'.length;rw[ZA]at lxa;refine⟨al,_,rfl,.inl (Z3 hal'),p,_,rfl,sta,by omega,by omega,fun r Hb r0 r1 bb stb=>?_⟩;obtain⟨r,rfl⟩:=Int.eq_ofNat_of_zero_le r0;obtain⟨xb,halb,hxb⟩:=A10.st (sba.trans bb.sb) st10 (UW _);have lxb:=hxb.length;rw[ZA]at lxb;have rl:r<xb.length:=by omega
  obtain⟨u,hu1,hu2⟩:=getD hxb (ZD rl);exact⟨_,_,Z3 halb,Y5 (ZD rl),hR _ u _ bb.sb stb hu2 (ZJ hu1)⟩
 have nl1:l1≠p:=st19.ne hl1;refine⟨l1,q1,_,_,rfl,rfl,s21 _ _ nl1 g20,hq,by rw[hvs.length,ZA,lus];decide,fun l2 hl2=>?_⟩;refine up_in hl2 _ fun H22 s22 g22=>?_;have nl2:l2≠p:=st21.ne hl2;have s1922:SameB p H19 H22:=(s20.sb.trans s21).trans s22.sb;have sb22:=sb19.trans s1922;have st22:=st21.sm s22;have hw22:=VP (st19.tkB s1922) _ (UG _) hw19;have bi22:=bi.st s1922 st19
 have hws:HasL H22 ([V.non]++ vs) ((W.non::us).map W.dat):=by
  rw[ZV];exact Z4 (by unfold W.dat Has;rfl) (hvs.mono s22)
 refine⟨⟨_,Z3 g22⟩,?_⟩
 let I:Nat->St->Hp->Prop:=fun _ U H'=>SameB p H22 H'/\Vp H' p/\∃z12 z13 z14 z15 z16,U=[some (.ref p),some (.ref kl),some (.ref sa),some (.ref wl),some (.str y),some (.ref al),some (.ref ol),some (.ref pl),some (.int (k:Nat)),some bv,some wv,some (.ref bx),z12,z13,z14,z15,z16]
 refine Td (xs:=[V.non]++ vs) I ⟨SameB.refl _ _,st22,_,_,_,_,_,rfl⟩ (fun i U H' _ z=>Z3 (z.1 _ _ nl2 g22)) ?_ ?_
 case refine_2=>
  rintro U H' ⟨z1,_⟩;exact q H' (sH10.trans (sb22.trans z1))
 rintro i xw U H23 hxw ⟨sb23,st23,z12,z13,z14,z15,z16,rfl⟩;obtain⟨u,hu,hxu⟩:=getD hws hxw
 have oku:okW ks u y0/\u.dep<3:=by
  rcases Zd.mp (ZJ hu)with rfl|hm
  .exact ⟨by unfold okW;trivial,by unfold W.dep;decide⟩
  .obtain ⟨j,hj⟩:=List.mem_iff_getElem?.mp hm
   have hm2:=hus j u hj;have:=wy3 u hm2;exact⟨UX 3 y0 u hm2,by omega⟩
 have hxu23:Has H23 xw u.dat:=Ml sb23 st22 hxu (W.ni u);have sbb:SameB p H10 H23:=sb22.trans sb23;have hw23:=VP (st22.tkB sb23) _ (UG _) hw22;obtain⟨zs23,hpl23,hzs23⟩:=P10.st sbb st10 (GJ _);have lz23:=hzs23.length;rw[ZA,Bb (by omega)]at lz23;refine⟨⟨_,Z3 hpl23⟩,?_⟩;refine Tp (F:=W.dat) m (fun i xx=>zs23[i]?=some xx) (fun _ u=>u∈Ys ks 3 n0) st23 W.ti (by omega) (fun i H' hi s=>(itl (K:=K) (Z3 (s _ _ npl hpl23))).go i (by omega)) (fun H' s=>by have:=(itl (K:=K) (Z3 (s _ _ npl hpl23))).stop;rw[lz23]at this;exact this) (fun i xx Ha Hb s yl=>(itl (K:=K) (Z3 (s _ _ npl hpl23))).yld i xx Hb yl) (fun i xx Ha R hi hxx sa' sta hR=>?_) fun vs3 bs wq H24 fwq s24 st24 hwq hvs3 lbs hbs=>?_
 .have h1:=UE (K:=K) (sa:=0) sa' ⟨st23⟩ _ (GJ _) hzs23
  obtain⟨pr,hpr,hd1⟩:=getD h1 hxx;unfold prD at hd1;obtain⟨ta,ys,rfl,hta,hl⟩:=Yr hd1;obtain⟨x1,r1',rfl,e1,hlA⟩:=Yb hl;obtain⟨x2,r2',rfl,e2,hlB⟩:=Yb hlA;obtain rfl:=Y8 hlB;refine⟨_,Z2 hta,rfl,?_⟩;have sba:=sbb.trans sa';obtain⟨xa',hal',hxa'⟩:=O10.st sba st10 (UW _);have lxa:=hxa'.length;rw[ZA]at lxa;refine⟨ol,_,rfl,.inl (Z3 hal'),p,_,rfl,sta,by omega,by omega,fun r Hb r0 r1 bb stb=>?_⟩;obtain⟨r,rfl⟩:=Int.eq_ofNat_of_zero_le r0;obtain⟨xb,halb,hxb⟩:=O10.st (sba.trans bb.sb) st10 (UW _);have lxb:=hxb.length;rw[ZA]at lxb;have rl:r<xb.length:=by omega
  obtain⟨u,hu1,hu2⟩:=getD hxb (ZD rl);exact⟨_,_,Z3 halb,Y5 (ZD rl),hR _ u _ bb.sb stb hu2 (ZJ hu1)⟩
 have lv3:=hvs3.length;rw[ZA]at lv3;refine⟨wq,vs3,k,k,rfl,rfl,hwq,?_,?_⟩
 .unfold ixN
  rw[Zp (by omega),Zp (by omega)]
  rfl
 refine fld_in wq _ fun H25 b25 g25=>?_;have nwq:wq≠p:=st23.ne fwq;have sb25:SameB p H23 H25:=fun b o n e=>b25 _ _ (Yc e fwq) (s24 _ _ n e)
 have st25:Vp H25 p:=by
  obtain⟨a,b,c',d',h⟩:=st24;exact⟨a,b,c',d',b25 _ _ nwq.symm h⟩
 have tk25:=Jf b25 hwq
 have W25:LsD H25 wq ((bs.set k u).map W.dat):=by
  refine⟨_,g25,?_⟩;rw[List.map_set];exact(UD tk25 _ (Kz bs) hvs3).set (VP tk25 _ (W.ti u) (Ml s24 st23 hxu23 (W.ni u)))
 refine⟨p,2,rfl,st25,by decide,by decide,fun r H26 r0 r1 b26 st26=>⟨rfl,?_⟩⟩;generalize decide (V.int r=V.int 1)=full;have sb26:SameB p H23 H26:=sb25.trans b26.sb;have W26:=W25.st b26.sb st25 (UW _);have hw26:=VP (st23.tkB sb26) _ (UG _) hw23;have hx26:=Ml sb26 st23 hxu23 (W.ni u);have bi26:=bi22.st (sb23.trans sb26) st22;have hwl26:=wlp (sbb.trans sb26);have fl2:=fin.l2;refine⟨sl 0,fun t1 ht1=>?_⟩;refine up_in ht1 _ fun H27 s27 g27=>⟨sl 2,fun t2 ht2=>?_⟩;refine up_in ht2 _ fun H28 s28 g28=>⟨sl 1,fun l3 hl3=>?_⟩;refine up_in hl3 _ fun H29 s29 g29=>?_;have s2629:=(s27.trans s28).trans s29;dsimp only[Vo];refine XC (fun U H'=>∃dv:V,U=[some (.ref p),some (.ref kl),some (.ref sa),some (.ref wl),some (.str y),some (.ref al),some (.ref ol),some (.ref pl),some (.int (k:Nat)),some bv,some wv,some (.ref bx),some xw,some (.ref wq),some (.bl full),some dv,z16]/\Same H26 H'/\Has H' dv (dnD (Wx u way))) ?key3 ?main3
 case main3=>
  intro N hN;refine⟨xw,wv,u,way,k,false,hx26.mono s2629,hw26.mono s2629,fin.fit u oku.1,oku.2,by omega,fun du H30 s30 hdu=>?_⟩;obtain⟨rr,er⟩:=Kc (wo:=u) (k:=k) (ws:=way);rw[er]at hdu;obtain⟨td',ys,rfl,htd',hl⟩:=Yr hdu;obtain⟨x1,r1',rfl,e1,hlA⟩:=Yb hl;obtain rfl:=has_str e1;refine⟨_,_,Z2 htd',at0,rfl,_,rfl,?_⟩
  cases en:Wx u way with
  |true=>
   refine VE (by decide +kernel) ⟨sl 0,fun l4 hl4=>?_⟩;refine up_in hl4 _ fun H31 s31 g31=>hN _ _ ⟨.ref l4,rfl,(s2629.trans s30).trans s31,?_⟩;rw[en];exact NV g31 Z6
  |false=>
   refine Yy (by decide +kernel) (hN _ _ ⟨.ref l3,rfl,s2629.trans s30,?_⟩);have s2830:=s29.trans s30;rw[en];exact NV (s30 _ _ g29) (Z5 (Y1 (s2830 _ _ g28) (Z4 (Y1 ((s28.trans s2830) _ _ g27) Z6) (Z5 L0))))
 rintro U H31 ⟨dv,rfl,s31,hdv⟩;obtain⟨wx,hwx,hwxs⟩:=W26.mono s31;refine⟨_,_,Z3 (s31 _ _ hwl26),a3,wq,_,rfl,.inl ⟨Z3 hwx,fun gv hgv=>?_⟩⟩;refine up_in hgv _ fun H32 s32 g32=>?_;have s2632:=s31.trans s32;have epn:(pk ws m n0 k x y0).map (·.1)=ws.take m:=TD hx km;have lpk':(pk ws m n0 k x y0).length=m:=Bb (by omega)
 have ra:RA1 H32 C CK bx gv df (bs.set k u):=by
  refine⟨⟨_,ks,d,[df],bi26.mono s2632,ZQ.mpr rfl,g32,hwxs.mono s32,fun j pr v hj hv=>?_⟩,?_,?_,?_⟩
  .rcases Oy lw km m3 hj with⟨rfl,rfl⟩|⟨nj,ej,_⟩
   .rw [List.getElem?_set_self (by omega)]at hv
    cases hv;exact oku
   .rw [List.getElem?_set_ne (Zs nj)]at hv
    have hm2:=hbs j v hv;have:=wn3 v hm2;rw[ej];exact⟨UX 3 n0 v hm2,by omega⟩
  .show _=(pk ws m n0 k x y0).length
   rw[List.length_set,lpk',lbs]
  .show (pk ws m n0 k x y0).length<=3
   omega
  .show ((pk ws m n0 k x y0).map (·.1)).Nodup
   rw[epn];exact wd.nd.sublist (List.take_sublist _ _)
 obtain⟨nn,gs⟩:=fin.go u k oku.1;refine⟨bx,gv,df,bs.set k u,x,k,u,nn,way,full,ra,fin.ok,?_,?_,gs,fin.wy,by omega,fin.fit u oku.1,oku.2,fun fo H33 s33 hfo=>?_⟩
 .show ((pk ws m n0 k x y0).map (·.1))[k]?=some x
  rw[epn,List.getElem?_take,Zp km];exact hx
 .exact List.getElem?_set_self (by omega)
 have s2633:=s2632.trans s33;refine⟨xw,wv,u,way,k,full,hx26.mono s2633,hw26.mono s2633,fin.fit u oku.1,oku.2,by omega,fun du H34 s34 hdu=>⟨sl 2,fun t ht=>?_⟩⟩;refine up_in ht _ fun H35 s35 g35=>?_;have s3335:=s34.trans s35;have hfo35:Has H35 fo (Mz u k way full):=hfo.mono s3335;have ad:=Oe (k:=k) (full:=full) (ws:=way) (wo:=u) (by omega) oku.2;refine⟨Mz u k way full,Mz u k way full,hfo35,Y1 g35 (Z4 (hdu.mono s35) (Z5 (hdv.mono ((s32.trans s33).trans s3335)))),by omega,_,rfl,Yy (by rw[Dat.pq_self];simp) ?_⟩;refine⟨fo,_,hfo35,Q0 (by omega) oku.2,fun H36 s36=>⟨_,rfl,Yy (by rw[Q1];simp) ?_⟩⟩;have s2636:=(s2633.trans s3335).trans s36;exact⟨sb23.trans (sb26.trans s2636.sb),st26.sm s2636,_,_,_,_,_,rfl⟩
end
section
theorem Ou:Yi ["script","cell"] ["script"] (Yd Bs):=Y2
inductive Aw(K:W.Frag)(H:Hp)(Q:VK):List V->Prop
 |mk (a:Addr) (ns:List Int) (hS:SqL K H a (ns.map V.int)) (hl:ns.length<=63) (q:∀H',Q (.bl true) H'):Aw K H Q [.ref a]
def DX(K:W.Frag):Sp:=fun vs H Q _=>Aw K H Q vs
theorem Kl{ns:List Int}(lo hi:Option Int):∃ms:List Int,UU (ns.map V.int) lo hi=ms.map V.int:=by
 unfold UU;exact⟨_,by rw[<-List.map_drop,<-List.map_take]⟩
theorem QQ(B:Blt mg)(F:Fun K "law" "law" Bs f fd)(DS:Df P w K mg base n "_law_stream" ["cell"] ND)(DR:Df P w K mg base n "_law_told_right" ["stream"] Pi):Yf P w K mg base CX0 (n+1) f fd ["script"] (DX K):=by
 refine F.oi Ou fun cdv A outer s H vs Q E hr h=>?_;obtain⟨a,ns,hS,hl,q⟩:=h;refine⟨_,YY (V1 Zv rfl (JL (V3 MH (VB TJ (VL Jr rfl B.list JC (pa1 (pv 0))) (VB QK (Vg (pa1 (Ya))) (VL Wi rfl B.int Wn (pa1 (V7 VQ (Y7 Y3 rfl B.len Zu (pa1 (pv 0))) Ya rfl))))) JK (JJ Ya))) (Yp 1 Ou.nd)
   (YZ (Y0 (JH (Ve (VJ DR hr (pa1 (VJ DS hr (pa1 (pv 1))))))) (YZ (V8)) Yl)))
  (YZ (Yh (Uo))),?_⟩
 dsimp only[Vb,Cx.nox,Cx.wish];show let T0:=_;let T1:=_;let T2:=VC _ T1 _;Yk (UH _ _ T2) T0 _ _ _
 intros
 refine⟨a,_,rfl,.inl hS,fun l1 h1=>?_⟩;refine up_in h1 _ fun H1 s1 g1=>⟨sl 1,fun l2 h2=>?_⟩;refine up_in h2 _ fun H2 s2 g2=>⟨a,_,rfl,.inl (s2.seq (s1.seq hS)),rfl,.inr ⟨_,rfl,?_⟩⟩;refine⟨l2,_,[.int 0],rfl,rfl,g2,?_,?_,?_,fun l3 h3=>?_⟩
 .split <;> decide
 .split <;> decide
 .split <;> decide
 obtain⟨zs,ez,lz⟩:∃zs:List Int,(List.replicate (if decide (V.int ((ns.map V.int).length:Nat)=V.int 0)=true then(1:Int)else 0).toNat [V.int 0]).flatten=zs.map V.int/\zs.length<=1:=by
  split
  .exact ⟨[0],rfl,ZG _⟩
  .exact ⟨[],rfl,by decide⟩
 rw[ez];refine up_in h3 _ fun H3 s3 g3=>?_;refine⟨l1,l3,_,_,rfl,rfl,s3 _ _ (s2 _ _ g1),g3,Zh (Yq (by rw[ZA,ZA];omega)),fun l4 h4=>?_⟩;rw[<-ZK];refine up_in h4 _ fun H4 s4 g4=>⟨63,rfl,l4,_,rfl,Z3 g4,fun l5 h5=>?_⟩;obtain⟨ms,em⟩:=Kl (ns:=ns++ zs) none (some 63);rw[em];refine up_in h5 _ fun H5 s5 g5=>⟨⟨_,Z3 g5⟩,?_⟩
 let I:Nat->St->Hp->Prop:=fun i U Hi=>Same H5 Hi/\∃z1:Option V,U=[some (.ref a),z1]
 refine Td (xs:=ms.map V.int) I ⟨Z8 _,_,rfl⟩ (fun i U Hi _ z=>Z3 (z.1 _ _ g5)) ?_ fun U Hi _=>q Hi;rintro i x U Hi hx ⟨si,z1,rfl⟩;rw[ZH]at hx;obtain⟨ce,_,rfl⟩:=Zj.mp hx;refine⟨ce,rfl,fun p H6 f6 b6 st6=>?_⟩;refine⟨p,st6,fun H7 s7=>⟨_,rfl,Yy (by simp) ⟨?_,_,rfl⟩⟩⟩;exact si.trans ((b6.sb.trans s7).same f6)
end
def At(K:W.Frag)(f:Addr)(x q:Str)(st:Stmt):Prop:=∃(oc:Value)(od:Option Addr)(kV dc pm:Value)(an:Option Addr)(cd ct:Value)(sl:Array (Option Value)),K.lookup f=some ⟨oc,od,.func (W.fnOf x q (JM st) (Vv st) (Yd st) .none kV dc pm an cd ct),sl⟩/\W.codeIn K cd q=true/\W.keepIn K (.ref f)=true
theorem At.of{K:W.Frag}{f:Addr}{x q:Str}{st:Stmt}{oc:Value}{od:Option Addr}{kV dc pm:Value}{an:Option Addr}{cd ct:Value}{sl:Array (Option Value)}(l:K.lookup f=some ⟨oc,od,.func (W.fnOf x q (JM st) (Vv st) (Yd st) .none kV dc pm an cd ct),sl⟩)(d:W.codeIn K cd q=true)(k:W.keepIn K (.ref f)=true):At K f x q st:=⟨oc,od,kV,dc,pm,an,cd,ct,sl,l,d,k⟩
section
variable{K:W.Frag}{x q:Str}{st:Stmt}{f:Addr}{fd:FuncData}{ps:List Str}
def BA1(x q:Str)(st:Stmt)(ps:List Str)(us:List Value):Prop:=∀(kV doc pm:Value)(an:Option Addr)(cdv ct:Value),bindArgs (W.fnOf x q (JM st) (Vv st) (Yd st) .none kV doc pm an cdv ct) ⟨us,[]⟩=pure (ps.zip us)
def Kv:Nat->(List Value->Prop)->Prop
 |0,R=>R []
 |n+1,R=>∀a,Kv n fun us=>R (a::us)
theorem Kv.at:∀{n:Nat}{R:List Value->Prop}{us:List Value},Kv n R->us.length=n->R us
 |0,_,[],h,_=>h
 |_+1,R,a::_,h,e=>Kv.at (R:=fun us=>R (a::us)) (h a) (Nat.succ.inj e)
theorem _root_.L2.Fun.bn(F:Fun K x q st f fd)(ps:List Str)(h:Kv ps.length (BA1 x q st ps)):Binds K fd ps []:=F.binds fun _ _ _ _ _ _ _ e=>h.at e _ _ _ _ _ _
theorem _root_.L2.Fun.b1(F:Fun K x q st f fd)(p:Str)(h:∀a,BA1 x q st [p] [a]:=by exact fun _ _ _ _ _ _ _=>rfl):Binds K fd [p] []:=F.bn [p] h
theorem _root_.L2.Fun.b2(F:Fun K x q st f fd)(p p1:Str)(h:∀a b,BA1 x q st [p,p1] [a,b]:=by exact fun _ _ _ _ _ _ _ _=>rfl):Binds K fd [p,p1] []:=F.bn [p,p1] h
theorem _root_.L2.Fun.b3(F:Fun K x q st f fd)(p p1 p2:Str)(h:∀a b c,BA1 x q st [p,p1,p2] [a,b,c]:=by exact fun _ _ _ _ _ _ _ _ _=>rfl):Binds K fd [p,p1,p2] []:=F.bn [p,p1,p2] h
theorem _root_.L2.Fun.b4(F:Fun K x q st f fd)(p p1 p2 p3:Str)(h:∀a b c d,BA1 x q st [p,p1,p2,p3] [a,b,c,d]:=by exact fun _ _ _ _ _ _ _ _ _ _=>rfl):Binds K fd [p,p1,p2,p3] []:=F.bn [p,p1,p2,p3] h
theorem _root_.L2.Fun.b5(F:Fun K x q st f fd)(p p1 p2 p3 p4:Str)(h:∀a b c d i,BA1 x q st [p,p1,p2,p3,p4] [a,b,c,d,i]:=by exact fun _ _ _ _ _ _ _ _ _ _ _=>rfl):Binds K fd [p,p1,p2,p3,p4] []:=F.bn [p,p1,p2,p3,p4] h
end
theorem At.fn{K:W.Frag}{f:Addr}{x q:Str}{st:Stmt}(h:At K f x q st):∃fd,Fun K x q st f fd:=by
 obtain⟨_,_,_,_,_,_,_,_,_,l,d,k⟩:=h;exact⟨_,KQ (st:=st) l d k⟩
def GA(K:W.Frag)(x:Str)(f:Addr)(st:Stmt):Prop:=W.nsIn K mainGlobals x=some (some (.ref f))/\At K f x x st
def GR(K:W.Frag)(a:Addr)(y x:Str)(f:Addr)(st:Stmt):Prop:=W.nsIn K a y=some (some (.ref f))/\At K f x x st
def GM(K:W.Frag)(C:Addr)(x q:Str)(f:Addr)(st:Stmt):Prop:=(W.findIn K (.ref C) x=some (some (.ref f))/\W.isFn K (.ref f)=true)/\At K f x q st
def GN(K:W.Frag)(x:Str):Prop:=W.nsIn K mainGlobals x=some none
def GC(K:W.Frag)(x:Str)(f:Addr):Prop:=W.nsIn K mainGlobals x=some (some (.ref f))
def GV(K:W.Frag)(x:Str)(v:V)(u:Value):Prop:=W.nsIn K mainGlobals x=some (some u)/\RelV v u
def GF(K:W.Frag)(C:Addr)(x:Str):Prop:=W.findIn K (.ref C) x=some none
theorem GA.go{K:W.Frag}{h:Heap}{mg:Str->Option Value}{x:Str}{f:Addr}{st:Stmt}(X:K.In h)(G:h.Ns mainGlobals mg)(a:GA K x f st):∃fd,Fun K x x st f fd/\W.keepIn K (.ref f)=true/\mg x=some (.ref f):=
 let⟨fd,F⟩:=a.2.fn
 ⟨fd,F,F.kp,W.mg_of X G a.1⟩
theorem GR.go{K:W.Frag}{c:Addr}{y x:Str}{f:Addr}{st:Stmt}(a:GR K c y x f st):∃fd,Fun K x x st f fd/\W.keepIn K (.ref f)=true/\W.nsIn K c y=some (some (.ref f)):=
 let⟨fd,F⟩:=a.2.fn
 ⟨fd,F,F.kp,a.1⟩
theorem GM.go{K:W.Frag}{c:Addr}{x q:Str}{f:Addr}{st:Stmt}(a:GM K c x q f st):∃fd,Fun K x q st f fd/\VO K c x f:=
 let⟨fd,F⟩:=a.2.fn
 ⟨fd,F,a.1.1,a.1.2,F.kp⟩
theorem GV.go{K:W.Frag}{h:Heap}{mg:Str->Option Value}{x:Str}{v:V}{u:Value}(X:K.In h)(G:h.Ns mainGlobals mg)(a:GV K x v u):mg x=some u/\RelV v u:=⟨W.mg_of X G a.1,a.2⟩
structure CA(K:W.Frag)(C:Addr):Prop where
 pg:W.plainGet K C Str.empty=true
 hd:W.hasDictIn K C=true
 po:W.plainOver K C=true
 sa:W.findIn K (.ref C) "__setattr__"=some (some (.builtin "object.__setattr__"))
 ma:W.makesIn K C=true
 kc:W.keepIn K (.ref C)=true
def AtD(K:W.Frag)(f:Addr)(x q:Str)(st:Stmt):Prop:=∃(oc:Value)(od:Option Addr)(kV dc pm:Value)(an:Option Addr)(cd ct:Value)(sl:Array (Option Value))(T:Addr)(tc:Value)(td:Option Addr)(tn:Nat)(tl:Array (Option Value)),K.lookup f=some ⟨oc,od,.func (W.fnOf x q (JM st) (Vv st) (Yd st) (.ref T) kV dc pm an cd ct),sl⟩/\W.codeIn K cd q=true/\W.keepIn K (.ref f)=true/\K.lookup T=some ⟨tc,td,.seq #[.bool false] tn,tl⟩
theorem AtD.of{K:W.Frag}{f T:Addr}{x q:Str}{st:Stmt}{oc tc:Value}{od td:Option Addr}{kV dc pm:Value}{an:Option Addr}{cd ct:Value}{sl tl:Array (Option Value)}{tn:Nat}(l:K.lookup f=some ⟨oc,od,.func (W.fnOf x q (JM st) (Vv st) (Yd st) (.ref T) kV dc pm an cd ct),sl⟩)(d:W.codeIn K cd q=true)(k:W.keepIn K (.ref f)=true)(t:K.lookup T=some ⟨tc,td,.seq #[.bool false] tn,tl⟩):AtD K f x q st:=⟨oc,od,kV,dc,pm,an,cd,ct,sl,T,tc,td,tn,tl,l,d,k,t⟩
def GAD(K:W.Frag)(x:Str)(f:Addr)(st:Stmt):Prop:=W.nsIn K mainGlobals x=some (some (.ref f))/\AtD K f x x st
theorem GAD.go{K:W.Frag}{h:Heap}{mg:Str->Option Value}{x:Str}{f:Addr}{st:Stmt}(X:K.In h)(G:h.Ns mainGlobals mg)(a:GAD K x f st):∃fd,DE K x x st f fd/\W.keepIn K (.ref f)=true/\mg x=some (.ref f):=by
 obtain⟨h1,oc,od,kV,dc,pm,an,cd,ct,sl,T,tc,td,tn,tl,l,d,k,t⟩:=a;exact⟨_,⟨⟨oc,od,kV,dc,pm,an,cd,ct,sl,T,tc,td,tn,tl,rfl,l,d,t⟩,k⟩,k,W.mg_of X G h1⟩
theorem all_at{l:W.OpenLaw}{w:World}{K:W.Frag}{h:Heap}{mg:Str->Option Value}{fa CK C CG CO CW CD aR fA f1 f2 f3 f4 f5 f6 f7 f8 f9 f10 f11 f12 f13 f14 f15 f16 f17 f18 f19 f20 f21 f22 f23 f24 f25 f26 f27 f28 f29 f30 f31 f32 f33 f34 f35 f36 f37 f38 f39 f40 f41 f42 f43 f44 f45 f46 f47 f48 f49 f50 f51 f52 f53 f54 f55 f56 f57 f58 f59 f60 f61 f62 f63 f64 f65 f66 f67 f68 f69 f70 f71 f72 f73 f74 f75 f76 f77 f78 f79:Addr}{es:Array DictEntry}{nR:Nat}{u1v u2v u3v u4v u5v u6v u7v u8v u9v u10v u11v u12v:Value}(X:K.In h)(G:h.Ns mainGlobals mg)(hfa:mg "law"=some (.ref fa))(aC:GC K "Kinds" CK)(aB:GC K "Book" C)(aG':GC K "Ground" CG)(aO':GC K "Going" CO)(aW':GC K "Walk" CW)(aD':GC K "Doing" CD)(aU:GC K "RULES" aR)(lR:K.lookup aR=some ⟨.type "dict",none,.dict es nR,#[]⟩)(kR:W.KeysLit w.params es.toList)(aA:GAD K "asked" fA MY)(a1:GA K "parts" f1 BE)(a2:GA K "part_at" f2 Gw)(a3:GA K "kind_or_place" f3 sKP)(a4:GA K "kind_of_part" f4 BL)(a5:GA K "is_name" f5 MT)(a6:GA K "is_tag" f6 BO)(a7:GA K "is_spelt" f7 N9)(a8:GA K "part_of" f8 MQ)(a9:GA K "are_parameters" f9 BX)(a10:GA K "row_count" f10 WO)(a11:GA K "rows_over" f11 WN)(a12:GA K "is_row_over" f12 Xc)(a13:GA K "is_asking" f13 WP)(a14:GA K "check_asking" f14 Ua)(a15:GA K "named" f15 BH)(a16:GA K "check_most" f16 Xd)(a17:GA K "walk_of" f17 MN)(a18:GA K "_law_mixed" f18 BJ)(a19:GA K "_law_stream" f19 MP)(a20:GA K "_law_take" f20 Fh)(a21:GA K "_law_words" f21 N8)(a22:GA K "_law_small" f22 BC)(a23:GA K "_law_worths" f23 Ga)(a24:GA K "_law_no_truths" f24 XH)(a25:GA K "_law_shapes" f25 Mg)(a26:GA K "_law_first_none" f26 Uh)(a27:GA K "_law_due" f27 Qf)(a28:GA K "_law_flat" f28 Iq)(a29:GA K "_law_told_right" f29 Xh)(a30:GA K "law" f30 Bs)(a31:GR K aR "tag" "kind_of_tag_body" f31 Fj)(a32:GR K aR "name" "kind_of_name_body" f32 BN)(a33:GR K aR "pair" "kind_of_pair_body" f33 BM)(a34:GR K aR "one" "kind_of_one_body" f34 Fk)(a35:GR K aR "other" "kind_of_other_body" f35 MR)(a36:GR K aR "choose" "kind_of_choose_body" f36 Gy)(a37:GR K aR "ask" "kind_of_ask_body" f37 Fm)(a38:GR K aR "let" "kind_of_let_body" f38 Fl)(a39:GM K CK "__init__" "Kinds.__init__" f39 Fn)(a40:GM K CK "take" "Kinds.take" f40 BK)(a41:GM K CK "take_tags" "Kinds.take_tags" f41 Fi)(a42:GM K CK "take_pair" "Kinds.take_pair" f42 BF)(a43:GM K CK "names" "Kinds.names" f43 BG)(a44:GM K CK "worths_of" "Kinds.worths_of" f44 WM)(a45:GM K CK "shape_of" "Kinds.shape_of" f45 Gv)(a46:GM K CK "kind_of_tag" "Kinds.kind_of_tag" f46 MS)(a47:GM K CK "kind_of_pair" "Kinds.kind_of_pair" f47 Gx)(a48:GM K CK "is_worth" "Kinds.is_worth" f48 Xu)(a49:GM K C "__init__" "Book.__init__" f49 BU)(a50:GM K C "take_heads" "Book.take_heads" f50 BQ)(a51:GM K C "is_head" "Book.is_head" f51 BV)(a52:GM K C "check_bodies" "Book.check_bodies" f52 MX)(a53:GM K C "kinds" "Book.kinds" f53 MV)(a54:GM K C "names" "Book.names" f54 MU)(a55:GM K C "parameters" "Book.parameters" f55 BR)(a56:GM K C "kind_of" "Book.kind_of" f56 BS)(a57:GM K C "body_of" "Book.body_of" f57 BW)(a58:GM K C "told_of" "Book.told_of" f58 BP)(a59:GM K CG "__init__" "Ground.__init__" f59 KP)(a60:GM K CG "part_given" "Ground.part_given" f60 Xk)(a61:GM K CG "head_given" "Ground.head_given" f61 Xl)(a62:GM K CO "__init__" "Going.__init__" f62 Id)(a63:GM K CO "begin" "Going.begin" f63 Bn)(a64:GM K CO "go_on" "Going.go_on" f64 Ie)(a65:GM K CO "from_body" "Going.from_body" f65 WY)(a66:GM K CO "from_thing" "Going.from_thing" f66 Xg)(a67:GM K CO "from_head" "Going.from_head" f67 WX)(a68:GM K CW "__init__" "Walk.__init__" f68 E7)(a69:GM K CW "birth_of" "Walk.birth_of" f69 Gg)(a70:GM K CW "done" "Walk.done" f70 E8)(a71:GM K CW "want" "Walk.want" f71 E6)(a72:GM K CW "end" "Walk.end" f72 PZ)(a73:GM K CW "outcome" "Doing.outcome" f73 Tl)(a74:GM K CW "whole_of" "Doing.whole_of" f74 X7)(a75:GM K CW "head_of_thing" "Doing.head_of_thing" f75 Xn)(a76:GM K CW "head_of_cell" "Doing.head_of_cell" f76 Wh)(a77:GM K CW "go_into" "Doing.go_into" f77 Ms)(a78:GM K CW "going_of" "Doing.going_of" f78 Tn)(a79:GM K CD "__init__" "Doing.__init__" f79 Kk)(z1:GN K "len")(z2:GN K "isinstance")(z3:GN K "bool")(z4:GN K "str")(z5:GN K "int")(z6:GN K "tuple")(z7:GN K "list")(z8:GN K "dict")(z9:GN K "all")(z10:GN K "zip")(z11:GN K "max")(z12:GN K "range")(z13:GN K "sorted")(z14:GN K "min")(z15:GN K "sum")(z16:GN K "enumerate")(z17:GN K "any")(z18:GN K "ValueError")(g1:GV K "SMALL" (.str (Str.ofString "abcdefghijklmnopqrstuvwxyz")) u1v)(g2:GV K "GREAT" (.str (Str.ofString "ABCDEFGHIJKLMNOPQRSTUVWXYZ")) u2v)(g3:GV K "LONGEST" (.int 8) u3v)(g4:GV K "MOST_KINDS" (.int 6) u4v)(g5:GV K "MOST_TAGS" (.int 4) u5v)(g6:GV K "MOST_WORTHS" (.int 30) u6v)(g7:GV K "MOST_PAIRS_DEEP" (.int 2) u7v)(g8:GV K "MOST_DEFINITIONS" (.int 8) u8v)(g9:GV K "MOST_PARAMETERS" (.int 3) u9v)(g10:GV K "MOST_ROWS" (.int 200) u10v)(g11:GV K "MOST_ROWS_IN_ALL" (.int 400) u11v)(g12:GV K "MOST_CELLS" (.int 500) u12v)(caCK:CA K CK)(caC:CA K C)(caCG:CA K CG)(caCO:CA K CO)(caCW:CA K CW)(nk1:GF K CK "shapes")(nk2:GF K CK "worths")(nk3:GF K CK "heights")(nk4:GF K CK "pairs_deep")(nk5:GF K CK "tag_kinds")(nk6:GF K CK "pair_kinds")(nb1:GF K C "sorts")(nb2:GF K C "told")(nb3:GF K C "rows")(nb4:GF K C "turns")(ng1:GF K CG "book")(ng2:GF K CG "given")(ng3:GF K CG "births")(ng4:GF K CG "numbers")(ng5:GF K CG "starts")(no1:GF K CO "ground")(no2:GF K CO "number")(no3:GF K CO "f")(no4:GF K CO "place")(no5:GF K CO "known")(no6:GF K CO "body")(no7:GF K CO "waiting")(nw1:GF K CW "ground")(nw2:GF K CW "most")(nw3:GF K CW "begun")(nw4:GF K CW "under_way")(nw5:GF K CW "wanters")(nw6:GF K CW "wants")(nw7:GF K CW "heads")(y1:W.specialIn K (.ref CD) "__getattribute__"=some (some (.builtin "type.__getattribute__")))(y2:W.readsIn K CD (.type "type")=true)(y3:W.findCls K (.ref CD) (.type "type") "__init__"=some (.val (.ref f79))):∃fd:FuncData,(∀(s:Shared)(v:Value),BindsTo s fd ⟨[v],[]⟩ [("script",v)])/\∀base:Heap,K.In base->base.Ns mainGlobals mg->Yf l.prog w K mg base CX0 40 fa fd ["script"] (DX K):=by
 have e:=hfa.symm.trans (W.mg_of X G a30.1);cases e;obtain⟨d1,F1,k1,m1⟩:=a1.go X G;obtain⟨d2,F2,k2,m2⟩:=a2.go X G;obtain⟨d3,F3,k3,m3⟩:=a3.go X G;obtain⟨d4,F4,k4,m4⟩:=a4.go X G;obtain⟨d5,F5,k5,m5⟩:=a5.go X G;obtain⟨d6,F6,k6,m6⟩:=a6.go X G;obtain⟨d7,F7,k7,m7⟩:=a7.go X G;obtain⟨d8,F8,k8,m8⟩:=a8.go X G;obtain⟨d9,F9,k9,m9⟩:=a9.go X G;obtain⟨d10,F10,k10,m10⟩:=a10.go X G;obtain⟨d11,F11,k11,m11⟩:=a11.go X G;obtain⟨d12,F12,k12,m12⟩:=a12.go X G;obtain⟨d13,F13,k13,m13⟩:=a13.go X G;obtain⟨d14,F14,k14,m14⟩:=a14.go X G;obtain⟨d15,F15,k15,m15⟩:=a15.go X G;obtain⟨d16,F16,k16,m16⟩:=a16.go X G;obtain⟨d17,F17,k17,m17⟩:=a17.go X G;obtain⟨d18,F18,k18,m18⟩:=a18.go X G;obtain⟨d19,F19,k19,m19⟩:=a19.go X G;obtain⟨d20,F20,k20,m20⟩:=a20.go X G;obtain⟨d21,F21,k21,m21⟩:=a21.go X G;obtain⟨d22,F22,k22,m22⟩:=a22.go X G;obtain⟨d23,F23,k23,m23⟩:=a23.go X G;obtain⟨d24,F24,k24,m24⟩:=a24.go X G;obtain⟨d25,F25,k25,m25⟩:=a25.go X G;obtain⟨d26,F26,k26,m26⟩:=a26.go X G;obtain⟨d27,F27,k27,m27⟩:=a27.go X G;obtain⟨d28,F28,k28,m28⟩:=a28.go X G;obtain⟨d29,F29,k29,m29⟩:=a29.go X G;obtain⟨_,_,kV,dc,pm,an,cd,ct,_,l',d',k30⟩:=a30.2;have F30:=KQ (st:=Bs) l' d' k30;obtain⟨d31,F31,k31,a31⟩:=a31.go;obtain⟨d32,F32,k32,a32⟩:=a32.go;obtain⟨d33,F33,k33,a33⟩:=a33.go;obtain⟨d34,F34,k34,a34⟩:=a34.go;obtain⟨d35,F35,k35,a35⟩:=a35.go;obtain⟨d36,F36,k36,a36⟩:=a36.go;obtain⟨d37,F37,k37,a37⟩:=a37.go;obtain⟨d38,F38,k38,a38⟩:=a38.go;obtain⟨d39,F39,w39⟩:=a39.go;obtain⟨d40,F40,w40⟩:=a40.go;obtain⟨d41,F41,w41⟩:=a41.go;obtain⟨d42,F42,w42⟩:=a42.go;obtain⟨d43,F43,w43⟩:=a43.go;obtain⟨d44,F44,w44⟩:=a44.go;obtain⟨d45,F45,w45⟩:=a45.go;obtain⟨d46,F46,w46⟩:=a46.go;obtain⟨d47,F47,w47⟩:=a47.go;obtain⟨d48,F48,w48⟩:=a48.go;obtain⟨d49,F49,w49⟩:=a49.go;obtain⟨d50,F50,w50⟩:=a50.go;obtain⟨d51,F51,w51⟩:=a51.go;obtain⟨d52,F52,w52⟩:=a52.go;obtain⟨d53,F53,w53⟩:=a53.go;obtain⟨d54,F54,w54⟩:=a54.go;obtain⟨d55,F55,w55⟩:=a55.go;obtain⟨d56,F56,w56⟩:=a56.go;obtain⟨d57,F57,w57⟩:=a57.go;obtain⟨d58,F58,w58⟩:=a58.go;obtain⟨d59,F59,w59⟩:=a59.go;obtain⟨d60,F60,w60⟩:=a60.go;obtain⟨d61,F61,w61⟩:=a61.go;obtain⟨d62,F62,w62⟩:=a62.go;obtain⟨d63,F63,w63⟩:=a63.go;obtain⟨d64,F64,w64⟩:=a64.go;obtain⟨d65,F65,w65⟩:=a65.go;obtain⟨d66,F66,w66⟩:=a66.go;obtain⟨d67,F67,w67⟩:=a67.go;obtain⟨d68,F68,w68⟩:=a68.go;obtain⟨d69,F69,w69⟩:=a69.go;obtain⟨d70,F70,w70⟩:=a70.go;obtain⟨d71,F71,w71⟩:=a71.go;obtain⟨d72,F72,w72⟩:=a72.go;obtain⟨d73,F73,w73⟩:=a73.go;obtain⟨d74,F74,w74⟩:=a74.go;obtain⟨d75,F75,w75⟩:=a75.go;obtain⟨d76,F76,w76⟩:=a76.go;obtain⟨d77,F77,w77⟩:=a77.go;obtain⟨d78,F78,w78⟩:=a78.go;obtain⟨d79,F79,w79⟩:=a79.go;obtain⟨dA,FA,kA,mA⟩:=aA.go X G;have mC:=W.mg_of X G aC;have mB:=W.mg_of X G aB;have mG:=W.mg_of X G aG';have mO:=W.mg_of X G aO';have mW:=W.mg_of X G aW';have mD:=W.mg_of X G aD';have mU:=W.mg_of X G aU;have B:Blt mg:=⟨W.mg_none_of X G z1,W.mg_none_of X G z2,W.mg_none_of X G z3,W.mg_none_of X G z4,W.mg_none_of X G z5,W.mg_none_of X G z6,W.mg_none_of X G z7,W.mg_none_of X G z8,W.mg_none_of X G z9,W.mg_none_of X G z10,W.mg_none_of X G z11,W.mg_none_of X G z12,W.mg_none_of X G z13⟩;have nmin:=W.mg_none_of X G z14;have nsum:=W.mg_none_of X G z15;have nenumerate:=W.mg_none_of X G z16;have nany:=W.mg_none_of X G z17;have nValueError:=W.mg_none_of X G z18;obtain⟨q1,r1⟩:=g1.go X G;obtain⟨q2,r2⟩:=g2.go X G;obtain⟨q3,r3⟩:=g3.go X G;obtain⟨q4,r4⟩:=g4.go X G;obtain⟨q5,r5⟩:=g5.go X G;obtain⟨q6,r6⟩:=g6.go X G;obtain⟨q7,r7⟩:=g7.go X G;obtain⟨q8,r8⟩:=g8.go X G;obtain⟨q9,r9⟩:=g9.go X G;obtain⟨q10,r10⟩:=g10.go X G;obtain⟨q11,r11⟩:=g11.go X G;obtain⟨q12,r12⟩:=g12.go X G;have T:KCl K CK:=⟨⟨caCK.pg,caCK.hd,caCK.po,caCK.sa⟩,nk1,nk2,nk3,nk4,nk5,nk6⟩;have TB:BCl K C:=⟨⟨caC.pg,caC.hd,caC.po,caC.sa⟩,nb1,nb2,nb3,nb4⟩;have TG:GCl K CG:=⟨⟨caCG.pg,caCG.hd,caCG.po,caCG.sa⟩,ng1,ng2,ng3,ng4,ng5⟩;have TO:OCl K CO:=⟨⟨caCO.pg,caCO.hd,caCO.po,caCO.sa⟩,no1,no2,no3,no4,no5,no6,no7⟩;have TW:WCl K CW:=⟨⟨caCW.pg,caCW.hd,caCW.po,caCW.sa⟩,nw1,nw2,nw3,nw4,nw5,nw6,nw7⟩;refine⟨W.fnOf "law" "law" (JM Bs) (Vv Bs) (Yd Bs) .none kV dc pm an cd ct,fun s v=>.of_eq rfl,fun base hIn _=>?_⟩;have tk:∀n,Yf l.prog w K mg base CX0 (n+2) f20 _ ["stream","many"] WD:=fun n=>Lp F20 (IP (n:=n) F18) (F18.b2 _ _) k18 m18;have wo:∀n,Yf l.prog w K mg base CX0 (n+3) f21 _ ["stream","many","letters","ways"] W5:=fun n=>IK B F21 (tk n) (F20.b2 _ _) k20 m20;have sm:∀n,Yf l.prog w K mg base CX0 (n+4) f22 _ ["stream","many"] W8:=fun n=>IM F22 (wo n) (F21.b4 _ _ _ _) k21 m21;have pA:Yf l.prog w K mg base CX0 1 f1 _ _ Xr:=ok_parts (n:=0) B F1;have sp:Yf l.prog w K mg base CX0 1 f7 _ _ W7:=IL (n:=0) B F7 q3 r3;have na:Yf l.prog w K mg base CX0 2 f5 _ _ (Uu 97):=Ea (n:=1) F5 sp (F7.b2 _ _) k7 m7 q1 r1;have ta:Yf l.prog w K mg base CX0 2 f6 _ _ (Uu 65):=IV (n:=1) F6 sp (F7.b2 _ _) k7 m7 q2 r2;have tt:Yf l.prog w K mg base CX0 3 f41 _ _ (N1 CK):=Lq (n:=2) B T F41 q5 r5 ta (F6.b1 _) k6 m6;have tp:Yf l.prog w K mg base CX0 3 f42 _ _ (Ry CK):=IN (n:=2) B T F42 q7 r7 q6 r6;have kt:Yf l.prog w K mg base CX0 4 f40 _ _ (R0 CK):=IQ (n:=3) B T F40 (na.mono (by decide)) (F5.b1 _) k5 m5 tt (F41.b3 _ _ _) w41 tp (F42.b4 _ _ _ _) w42;have ini:Yf l.prog w K mg base CX0 5 f39 _ _ (N2 CK):=Lx (n:=4) B T F39 q4 r4 kt (F40.b3 _ _ _) w40;have knm:Yf l.prog w K mg base CX0 1 f43 _ _ (XA CK):=IO (n:=0) B T F43;have kwo:Yf l.prog w K mg base CX0 1 f44 _ _ (Ju CK):=NN (n:=0) B T F44;have ksh:Yf l.prog w K mg base CX0 1 f45 _ _ (U9 CK):=Bj (n:=0) T F45;have kto:Yf l.prog w K mg base CX0 1 f46 _ _ (Gq CK):=EZ (n:=0) T F46;have kpo:Yf l.prog w K mg base CX0 1 f47 _ _ (WH CK):=Bm (n:=0) T F47;have bki:Yf l.prog w K mg base CX0 1 f53 _ _ (JU C CK):=Ec (n:=0) TB F53;have bnm:Yf l.prog w K mg base CX0 1 f54 _ _ (Uv C CK):=Eb (n:=0) B TB F54;have to:Yf l.prog w K mg base CX0 1 f58 _ _ (Gn C CK):=Lo (n:=0) B TB F58;have cP:Yf l.prog w K mg base CX0 2 f55 _ _ (Gp C CK):=Lr (n:=1) TB F55 w58 to (F58.b2 _ _);have cK:Yf l.prog w K mg base CX0 2 f56 _ _ (Rz C CK):=IU (n:=1) TB F56 w58 to (F58.b2 _ _);have cY:Yf l.prog w K mg base CX0 2 f57 _ _ (R9 C CK):=IX (n:=1) TB F57 w58 to (F58.b2 _ _);have kpt:Yf l.prog w K mg base CX0 2 f4 _ _ (W9 C CK):=IR (n:=1) TB T F4 w53 (bki) (F53.b1 _) w45 (ksh) (F45.b2 _ _);have R1:RA l.prog w K mg base C CK (fun k=>findBy JS es k) "tag" _:=⟨f31,_,U0 lR a31,Ls (n:=2) TB T F31 w53 ((bki.mono (by decide))) (F53.b1 _) w46 ((kto.mono (by decide))) (F46.b2 _ _),k31,F31.b4 _ _ _ _⟩;have R2:RA l.prog w K mg base C CK (fun k=>findBy JS es k) "name" _:=⟨f32,_,U0 lR a32,IT (n:=2) F32,k32,F32.b4 _ _ _ _⟩;have R3:RA l.prog w K mg base C CK (fun k=>findBy JS es k) "pair" _:=⟨f33,_,U0 lR a33,IS (n:=2) TB T F33 w53 ((bki.mono (by decide))) (F53.b1 _) w47 ((kpo.mono (by decide))) (F47.b3 _ _ _),k33,F33.b4 _ _ _ _⟩;have R4:RA l.prog w K mg base C CK (fun k=>findBy JS es k) "one" _:=⟨f34,_,U0 lR a34,Lu (n:=2) F34 ⟨f4,_,m4,k4,F4.b3 _ _ _,kpt⟩,k34,F34.b4 _ _ _ _⟩;have R5:RA l.prog w K mg base C CK (fun k=>findBy JS es k) "other" _:=⟨f35,_,U0 lR a35,EY (n:=2) F35 ⟨f4,_,m4,k4,F4.b3 _ _ _,kpt⟩,k35,F35.b4 _ _ _ _⟩;have R6:RA l.prog w K mg base C CK (fun k=>findBy JS es k) "choose" _:=⟨f36,_,U0 lR a36,Bl (n:=0) B nany TB T F36 w53 ((bki.mono (by decide))) (F53.b1 _) w45 ((ksh.mono (by decide))) (F45.b2 _ _),k36,F36.b4 _ _ _ _⟩;have R7:RA l.prog w K mg base C CK (fun k=>findBy JS es k) "ask" _:=⟨f37,_,U0 lR a37,Lw (n:=0) TB F37 w54 ((bnm.mono (by decide))) (F54.b1 _) w55 (cP) (F55.b2 _ _) w56 (cK) (F56.b2 _ _),k37,F37.b4 _ _ _ _⟩;have R8:RA l.prog w K mg base C CK (fun k=>findBy JS es k) "let" _:=⟨f38,_,U0 lR a38,Lv (n:=2) F38,k38,F38.b4 _ _ _ _⟩;have kp:Yf l.prog w K mg base CX0 16 f3 _ _ (RJ C CK 13):=O8 B nenumerate TB T F3 (F3.b3 _ _ _) m3 w53 (bki.mono (by decide)) (F53.b1 _) w43 (knm.mono (by decide)) (F43.b1 _) ⟨f1,_,m1,k1,F1.b1 _,pA.mono (by decide)⟩ mU (L9 hIn lR kR) (fun L=>Fp L R1 R2 R3 R4 R5 R6 R7 R8) 13;have ap:Yf l.prog w K mg base CX0 3 f9 _ _ (MC CK):=IZ (n:=2) B T F9 q9 r9 ⟨f5,_,m5,k5,F5.b1 _,na⟩ w43 ((knm.mono (by decide))) (F43.b1 _);have rc:Yf l.prog w K mg base CX0 2 f10 _ _ (Xa CK):=NP (n:=1) B T F10 w44 (kwo) (F44.b2 _ _);have ro:Yf l.prog w K mg base CX0 2 f11 _ _ (XZ CK):=NO (n:=1) B T F11 w44 (kwo) (F44.b2 _ _);have ih:Yf l.prog w K mg base CX0 4 f51 _ _ (MA C CK):=IY (n:=3) TB T F51 ⟨f5,_,m5,k5,F5.b1 _,na.mono (by decide)⟩ ⟨f9,_,m9,k9,F9.b2 _ _,ap⟩ w43 ((knm.mono (by decide))) (F43.b1 _);have th:Yf l.prog w K mg base CX0 5 f50 _ _ (FR C CK):=IW (n:=4) B nenumerate TB F50 q8 r8 q10 r10 q11 r11 w51 ih (F51.b4 _ _ _ _) ⟨f10,_,m10,k10,F10.b2 _ _,rc.mono (by decide)⟩ ⟨f11,_,m11,k11,F11.b2 _ _,ro.mono (by decide)⟩;have cb:Yf l.prog w K mg base CX0 17 f52 _ _ (P0 C CK):=QW (n:=16) B nenumerate TB F52 w54 (bnm.mono (by decide)) (F54.b1 _) ⟨f3,_,m3,k3,F3.b3 _ _ _,kp⟩;have bi:Yf l.prog w K mg base CX0 18 f49 _ _ (Pz C CK):=QV (n:=17) (m:=5) (by decide) TB F49 ⟨caCK.ma,w39.1,w39.2,caCK.kc⟩ mC ini (F39.b2 _ _) w50 (th.mono (by decide)) (F50.b2 _ _) w52 cb (F52.b1 _);have po:Yf l.prog w K mg base CX0 1 f8 _ _ Pk:=Sv (n:=0) B F8;have pat:Yf l.prog w K mg base CX0 2 f2 _ _ WG:=Bk (n:=1) F2 ⟨f1,_,m1,k1,F1.b1 _,pA⟩;have iw:Yf l.prog w K mg base CX0 4 f48 _ _ (NE CK 3):=Iv B T F48 (F48.b3 _ _ _) w48 3;have iro:Yf l.prog w K mg base CX0 5 f12 _ _ (Pj CK):=Su (n:=4) B T F12 w48 iw (F48.b3 _ _ _);have ia:Yf l.prog w K mg base CX0 6 f13 _ _ (EI C CK (.bl true)):=S5 (n:=5) TB F13 w54 (bnm.mono (by decide)) (F54.b1 _) w53 (bki.mono (by decide)) (F53.b1 _) w55 (cP.mono (by decide)) (F55.b2 _ _) ⟨f12,_,m12,k12,F12.b3 _ _ _,iro⟩;have cka:Yf l.prog w K mg base CX0 7 f14 _ _ (EI C CK .non):=AJ (n:=6) F14 ⟨f13,_,m13,k13,F13.b3 _ _ _,ia⟩;have ckm:Yf l.prog w K mg base CX0 1 f16 _ _ Py:=AI (n:=0) F16;have pg:Yf l.prog w K mg base CX0 2 f60 _ _ (Pl CG):=Sw (n:=1) B nany TG F60 ⟨f8,_,m8,k8,F8.b2 _ _,po⟩;have hg:Yf l.prog w K mg base CX0 3 f61 _ _ (LB CG):=S8 (n:=2) B TG F61 w60 pg (F60.b3 _ _ _);have nam:Yf l.prog w K mg base CX0 3 f15 _ _ (Pn C CK):=S0 (n:=2) B TB F15 w55 (cP) (F55.b2 _ _);have gi:Yf l.prog w K mg base CX0 4 f59 _ _ (Pp C CK CG):=AB (n:=3) B TG F59 ⟨f15,_,m15,k15,F15.b3 _ _ _,nam⟩;have oi':Yf l.prog w K mg base CX0 3 f62 _ _ (Pm C CK CG CO):=Sy (n:=2) TB TG TO F62 w57 (cY) (F57.b2 _ _);have ft:Yf l.prog w K mg base CX0 4 f66 _ _ (Pr CG CO):=AC (n:=3) TG TO F66 w61 hg (F61.b3 _ _ _);have fb:Yf l.prog w K mg base CX0 3 f65 _ _ (Pu CG CO):=AG (n:=2) TO F65 ⟨f2,_,m2,k2,F2.b2 _ _,pat⟩;have fh:Yf l.prog w K mg base CX0 4 f67 _ _ (Ps CG CO):=AF (n:=0) nenumerate TO F67;have go:Yf l.prog w K mg base CX0 5 f64 _ _ (FN CG CO):=AA (n:=4) B TO F64 w65 (fb.mono (by decide)) (F65.b3 _ _ _) w66 (ft) (F66.b2 _ _) w67 (fh) (F67.b2 _ _);have beg:Yf l.prog w K mg base CX0 6 f63 _ _ (FQ CG CO):=QY (n:=5) TO F63 w64 (go) (F64.b2 _ _);have gof:Yf l.prog w K mg base CX0 5 f78 _ _ (FM C CK CG CO CW):=QS (n:=3) TW F78 mO ⟨caCO.ma,w62.1,w62.2,caCO.kc⟩ oi' (F62.b3 _ _ _);have gin:Yf l.prog w K mg base CX0 7 f77 _ _ (FO C CK CG CO CW):=QT (n:=6) TW TO F77 w78 (gof.mono (by decide)) (F78.b2 _ _) w63 (beg) (F63.b1 _);have wan:Yf l.prog w K mg base CX0 8 f71 _ _ (Nz C CK CG CO CW):=Ln (n:=7) B TW F71 w77 (gin) (F77.b2 _ _);have wen:Yf l.prog w K mg base CX0 1 f72 _ _ (N0 CW):=Lm (n:=0) TW F72;have hoc:Yf l.prog w K mg base CX0 9 f76 _ _ (Po C CK CG CO CW):=S9 (n:=8) B TW TO F76 w71 (wan) (F71.b2 _ _) w72 (wen.mono (by decide)) (F72.b3 _ _ _);have hot:Yf l.prog w K mg base CX0 4 f75 _ _ (LA CG CW):=S7 (n:=3) TW TG F75 w61 (hg) (F61.b3 _ _ _);have who:Yf l.prog w K mg base CX0 7 f74 _ _ (FJ CG CW 3):=Oh (L:=4) B TW F74 w75 (hot) (F75.b2 _ _) w74 (F74.b2 _ _) 3;have out:Yf l.prog w K mg base CX0 10 f73 _ _ (FL C CK CG CO CW):=QP (n:=9) TW F73 w76 (hoc) (F76.b2 _ _) w74 (who.mono (by decide)) (F74.b2 _ _);have bir:Yf l.prog w K mg base CX0 1 f69 _ _ (FP CG CW):=QX (n:=0) TW TG F69;have don:Yf l.prog w K mg base CX0 2 f70 _ _ (N3 CG CW):=Ly (n:=1) TW F70 w69 (bir) (F69.b2 _ _);have din:Yf l.prog w K mg base CX0 1 f79 _ _ (Px CW):=AH (n:=0) TW F79;have win:Yf l.prog w K mg base CX0 2 f68 _ _ (Ph CW):=Sn (n:=1) TW F68 mD ⟨y1,y2,y3,w79.kp⟩ din (F79.b3 _ _ _);have wao:Yf l.prog w K mg base CX0 9 f17 _ _ (Pg C CK CG CW):=Sm (n:=7) F17 ⟨f14,_,m14,k14,F14.b3 _ _ _,cka.mono (by decide)⟩ ⟨f16,_,m16,k16,F16.b2 _ _,ckm.mono (by decide)⟩ q12 r12 mW ⟨caCW.ma,w68.1,w68.2,caCW.kc⟩ (win.mono (by decide)) (F68.b3 _ _ _) mG ⟨caCG.ma,w59.1,w59.2,caCG.kc⟩ (gi.mono (by decide)) (F59.b4 _ _ _ _);have ask:Yf l.prog w K mg base CX0 11 fA _ _ (FS C CK):=QZ (n:=10) TW FA ⟨f17,_,m17,k17,F17.b4 _ _ _ _,wao.mono (by decide)⟩ w73 (out) (F73.b2 _ _) w70 (don.mono (by decide)) (F70.b1 _);have lw:Yf l.prog w K mg base CX0 4 f23 _ _ (RI 3):=E2 B F23 (F23.b2 _ _) m23 3;have nt:Yf l.prog w K mg base CX0 7 f24 _ _ (EH 6):=O2 B F24 (F24.b1 _) m24 6;have shp:Yf l.prog w K mg base CX0 10 f25 _ _ FK:=QO (n:=9) B F25 ⟨f20,_,m20,k20,F20.b2 _ _,tk 7⟩ ⟨f21,_,m21,k21,F21.b4 _ _ _ _,wo 6⟩ ⟨f22,_,m22,k22,F22.b2 _ _,sm 5⟩;have fn:Yf l.prog w K mg base CX0 4 f26 _ _ (EJ 3):=PH B F26 (F26.b2 _ _) m26 3;have du:Yf l.prog w K mg base CX0 5 f27 _ _ (Pw 3):=QU (n:=3) (L:=4) B F27 ⟨f26,_,m26,k26,F26.b2 _ _,fn⟩;have fl:Yf l.prog w K mg base CX0 10 f28 _ _ Pq:=AE (n:=9) B F28 ⟨f20,_,m20,k20,F20.b2 _ _,tk 7⟩;have tr:Yf l.prog w K mg base CX0 20 f29 _ _ Pi:=Ss (n:=13) B F29 ⟨f25,_,m25,k25,F25.b1 _,shp.mono (by decide)⟩ ⟨f22,_,m22,k22,F22.b2 _ _,sm 15⟩ ⟨f20,_,m20,k20,F20.b2 _ _,tk 17⟩ ⟨f23,_,m23,k23,F23.b2 _ _,lw.mono (by decide)⟩ ⟨f28,_,m28,k28,F28.b5 _ _ _ _ _,fl.mono (by decide)⟩ mB ⟨caC.ma,w49.1,w49.2,caC.kc⟩ bi (F49.b3 _ _ _) ⟨f27,_,m27,k27,F27.b4 _ _ _ _,du.mono (by decide)⟩ ⟨fA,_,mA,kA,Kq FA,ask.mono (by decide)⟩ ⟨f24,_,m24,k24,F24.b1 _,nt.mono (by decide)⟩;exact QQ (n:=39) B F30 ⟨f19,_,m19,k19,F19.b1 _,EX (n:=38) F19⟩ ⟨f29,_,m29,k29,F29.b1 _,tr.mono (by decide)⟩
theorem goes{l:W.OpenLaw}{q:Program}{loose:List Str}{XP:(Str->Option Value)->Heap->Prop}{YP:World->Heap->Prop}{d:DefRec}{K:Params->W.Frag}(hn:l.most=some 63)(hdf:d.params.defaults=[])(hY:∀(w:World)(h:Heap),YP w h->(K w.params).In h)(F:∀(w:World)(mg:Str->Option Value)(fa:Addr)(h:Heap),(K w.params).In h->h.Ns mainGlobals mg->mg d.name=some (.ref fa)->
   ∃fd:FuncData,(∀(s:Shared)(u:Value),BindsTo s fd ⟨[u],[]⟩ [("script",u)])/\∀base:Heap,(K w.params).In base->base.Ns mainGlobals mg->Yf l.prog w (K w.params) mg base CX0 40 fa fd ["script"] (DX (K w.params))):
  W.WalkO q loose XP YP l.row.toRowW d [] (fun f vs=>PySem.call f vs):=
 L2.walk_of (n:=63) (k:=40) (x:="script") (CX:=fun _=>CX0) (sp:=fun w=>DX (K w.params)) hn (by decide) hdf ⟨rfl,by decide,by decide⟩ hY F (fun _ _ a ns hl _ hS=>⟨a,ns,hS,hl,fun _=>rfl⟩) fun _ _ _ _ _ z=>z
end K4
namespace PySem.W.Fast
def tw10011525447379653622:=()
def tw10115722848068303253:=()
def tw10148836456122860193:=()
def tw10163759460877562331:=()
def tw10211152232782293587:=()
def tw1021296039583878260:=()
def tw10220251584000541900:=()
def tw10270529534312518395:=()
def tw10287733053220320194:=()
def tw10292490203421948234:=()
def tw10322189863593966144:=()
def tw10374123409046707093:=()
def tw10423799311490665259:=()
def tw1044170627068664435:=()
def tw10450829821673242606:=()
def tw10454152375365117394:=()
def tw10465463818492962942:=()
def tw10471934472808613566:=()
def tw10552610058870666893:=()
def tw10559871493462896712:=()
def tw10586119662060421051:=()
def tw10624596085671564488:=()
def tw10637360696337733423:=()
def tw10644983922327556546:=()
def tw10645267868559549910:=()
def tw10650070585784409335:=()
def tw10662159342901914855:=()
def tw10678558766788034528:=()
def tw10706948446703684832:=()
def tw10803821536911101043:=()
def tw10848146946283144485:=()
def tw10879550775242688398:=()
def tw10898761509938130232:=()
def tw10898947085592360975:=()
def tw10921245819148923032:=()
def tw10923961202272421632:=()
def tw10935244176596611505:=()
def tw10985033377245255809:=()
def tw10989000377040801167:=()
def tw11007765170759860732:=()
def tw11049886581540744913:=()
def tw11072345022299587800:=()
def tw11105460466724101117:=()
def tw11117223122533502332:=()
def tw11134221865774666010:=()
def tw11185451419052714940:=()
def tw11250540145661448149:=()
def tw11251986353990030892:=()
def tw112611116165031589:=()
def tw11275036455850325160:=()
def tw11283050024263950827:=()
def tw11295544392236757884:=()
def tw11368472924443089935:=()
def tw11377827514804088028:=()
def tw11471108094483218128:=()
def tw11534736597829345655:=()
def tw11535931474230507880:=()
def tw11551234677174901346:=()
def tw11590245223838618410:=()
def tw1161300255872870333:=()
def tw11676734479379535917:=()
def tw11677623648860431816:=()
def tw11692933528532589293:=()
def tw11695499808346269825:=()
def tw11699646605894319995:=()
def tw11727331086971893108:=()
def tw11746905414694473706:=()
def tw11758517367772313051:=()
def tw11795459400380332742:=()
def tw11819774968740058465:=()
def tw11824260719901421172:=()
def tw1185364882802219018:=()
def tw11881551106378047129:=()
def tw11891796156794863260:=()
def tw11913893855362540353:=()
def tw11927348715449114076:=()
def tw11933401274816021565:=()
def tw11940584240381628348:=()
def tw11954421971401396787:=()
def tw1195615051818412023:=()
def tw1204214152249056668:=()
def tw12061887007493048712:=()
def tw1208686276477489186:=()
def tw12115130686071200441:=()
def tw12126196362038529277:=()
def tw12152212748940723074:=()
def tw12204037512769332687:=()
def tw12249958654905737197:=()
def tw12268606186005562345:=()
def tw12280510428412515996:=()
def tw12301857406473574488:=()
def tw12305147526607262445:=()
def tw12324909939192141145:=()
def tw12350512344104404068:=()
def tw12372186993202192728:=()
def tw12420506018218558196:=()
def tw12435013776408934994:=()
def tw12440244598250638601:=()
def tw12498390804083854671:=()
def tw12573547988877453240:=()
def tw12582720151592779943:=()
def tw12650397121305465199:=()
def tw1265495398983350235:=()
def tw12763741836590490646:=()
def tw12777261870599246961:=()
def tw12833490508804636427:=()
def tw12911399582608594789:=()
def tw12931661236223670415:=()
def tw12950597346203130075:=()
def tw12969540590240464254:=()
def tw12979870149608920975:=()
def tw12983403424436974445:=()
def tw13022953422871221478:=()
def tw13030082521263246583:=()
def tw13045512801410872094:=()
def tw13076485792071867851:=()
def tw13093948553187373707:=()
def tw13104366074639745998:=()
def tw1312451691491985949:=()
def tw13187163898517799521:=()
def tw13197010323793351079:=()
def tw13202394245076974213:=()
def tw13209647602593811460:=()
def tw13211512013836760676:=()
def tw13215313788442638443:=()
def tw13217684859023877818:=()
def tw13232636415512918166:=()
def tw13239405067892901124:=()
def tw13245896280480929890:=()
def tw13278271353821015334:=()
def tw13281639558450906898:=()
def tw13307395417258822660:=()
def tw13311756566911819965:=()
def tw13382507345622637473:=()
def tw13434427423544921785:=()
def tw13435572882866155801:=()
def tw13458267526134119221:=()
def tw13530150351205449867:=()
def tw13559707066288059451:=()
def tw13568416183352881163:=()
def tw13585254897308165295:=()
def tw13591629224025932980:=()
def tw13602499488388479149:=()
def tw13602888044895540276:=()
def tw1364345851925896905:=()
def tw13650637853705137146:=()
def tw13672510541581717534:=()
def tw13678889095817086072:=()
def tw13685786721035073977:=()
def tw13687994723182675070:=()
def tw13718789969982486371:=()
def tw13740725723163293069:=()
def tw13772904161314324854:=()
def tw13788240404132911837:=()
def tw13806447762253000582:=()
def tw13826146977790871934:=()
def tw13859171830005306861:=()
def tw13894729691666962397:=()
def tw13902669302621267467:=()
def tw13946065823431001138:=()
def tw13946869096688283047:=()
def tw13964624623928553789:=()
def tw14019504045070454911:=()
def tw14033764214053664141:=()
def tw1403665423262980383:=()
def tw14045790235389881011:=()
def tw14051888898315408957:=()
def tw14055117497517881517:=()
def tw14056650502023932655:=()
def tw14058930438387912339:=()
def tw14059622015237790653:=()
def tw14064186421741790844:=()
def tw14067248446201275071:=()
def tw14074329328642053250:=()
def tw1408711753377912611:=()
def tw14092534632117569014:=()
def tw14113641385026992635:=()
def tw14125115292150785523:=()
def tw14139352707364128246:=()
def tw14143406323150426544:=()
def tw14143561201772444547:=()
def tw14239374215939234124:=()
def tw14272821824072883433:=()
def tw1432064652232036649:=()
def tw14325440251346483869:=()
def tw14364063917022988526:=()
def tw14375599911263939357:=()
def tw14401800332358671410:=()
def tw14426177067014527177:=()
def tw14448808090772613:=()
def tw14510970224109503769:=()
def tw14527345127543065625:=()
def tw14539841678228519409:=()
def tw14566176497151100653:=()
def tw1458748196644994474:=()
def tw14603114513671513433:=()
def tw14611161450606581194:=()
def tw14614506997954152283:=()
def tw14635670796695050512:=()
def tw14639589464207875566:=()
def tw14663193786364316570:=()
def tw1466372153660965448:=()
def tw14690755835992421394:=()
def tw14718395716699116580:=()
def tw14722950456948962184:=()
def tw14726329984906860424:=()
def tw14731189066359327600:=()
def tw14806141152476071657:=()
def tw14848777907181477561:=()
def tw14874525286717454850:=()
def tw14925781964398758182:=()
def tw14941396386391668491:=()
def tw14958430833936451000:=()
def tw15082890263767026171:=()
def tw15097646763457866431:=()
def tw15118765498176765317:=()
def tw1512238519114411973:=()
def tw15133572448593018044:=()
def tw15133697682965809061:=()
def tw15151497012438486241:=()
def tw15160994436893393659:=()
def tw15162939267556395644:=()
def tw15191016195986348874:=()
def tw15208969125304811782:=()
def tw15209708849248766772:=()
def tw15270565941759562508:=()
def tw15277066251645557938:=()
def tw15285811984326247265:=()
def tw15298996277461044949:=()
def tw15303042527765867661:=()
def tw15303858565905923145:=()
def tw15310853652650963498:=()
def tw15313304128068288895:=()
def tw15314262216724266493:=()
def tw15335060777918502389:=()
def tw15350006676577305279:=()
def tw15374452093828756373:=()
def tw15397661636838013415:=()
def tw15413199255568540819:=()
def tw15428558037296635552:=()
def tw15451932588877803030:=()
def tw15481050787075525387:=()
def tw15527844345899323990:=()
def tw15600781731916748623:=()
def tw15604788627876214664:=()
def tw15613726754822794582:=()
def tw15614938679769165246:=()
def tw15619584670287610071:=()
def tw1565486464623427526:=()
def tw15712297174209920275:=()
def tw15748713952548605087:=()
def tw15769378809491878934:=()
def tw15849557920652738463:=()
def tw15919746346104453396:=()
def tw15966624508847277611:=()
def tw16019186336071222768:=()
def tw16026648387715741899:=()
def tw16057733159661792422:=()
def tw16065701943354702205:=()
def tw16067083296038855366:=()
def tw16086475225641282186:=()
def tw16116272608034883982:=()
def tw16126375223542096286:=()
def tw1619658132445644179:=()
def tw16209208521269876233:=()
def tw16213084055512626166:=()
def tw16229775377480656920:=()
def tw16249503410294424627:=()
def tw1625708387533596005:=()
def tw16274360113310111991:=()
def tw16360017469996186652:=()
def tw16367358109735845003:=()
def tw16371214770930898900:=()
def tw16386575484353112098:=()
def tw16387881403725158709:=()
def tw16416132602432131212:=()
def tw16426476422340773769:=()
def tw16467358719816951498:=()
def tw16473479431697183225:=()
def tw16488644707130913595:=()
def tw1650014353493104682:=()
def tw16514269565632436789:=()
def tw1656184148666492037:=()
def tw16563481418737769101:=()
def tw16564366219627423602:=()
def tw16577187513453063729:=()
def tw1661211603228541152:=()
def tw16627323795600147697:=()
def tw16662321391325177269:=()
def tw16686322238609735626:=()
def tw16704514064379408764:=()
def tw16711243383093787053:=()
def tw16731499108226672174:=()
def tw16765116642237711909:=()
def tw16784288551764843349:=()
def tw16796555181232218142:=()
def tw16796732155062353315:=()
def tw16826010585915548278:=()
def tw16871574474029539126:=()
def tw16875506048383405375:=()
def tw16878764588622005158:=()
def tw16903440732268397267:=()
def tw16907524298337495409:=()
def tw16929578079045688350:=()
def tw16931415464967883830:=()
def tw16959742835482414318:=()
def tw1698213383206132926:=()
def tw16994535447740787350:=()
def tw17014948832206779031:=()
def tw17016190096496988656:=()
def tw17025242379900193921:=()
def tw1707024551386504170:=()
def tw17075202061063954052:=()
def tw17104860166097791218:=()
def tw17142291165705818724:=()
def tw17184338963117119536:=()
def tw17215963102744905149:=()
def tw17235510740154080375:=()
def tw17241514353511999500:=()
def tw17245203035648389622:=()
def tw17264741940272113613:=()
def tw17276831738319533327:=()
def tw17283298943937314055:=()
def tw17284633312942434381:=()
def tw17295059793746011454:=()
def tw17299505209153220070:=()
def tw17310401499311526482:=()
def tw17312217805453640829:=()
def tw17341759141872122135:=()
def tw17350862287770192520:=()
def tw17362952430589508675:=()
def tw17422207290221697539:=()
def tw17437167250413066868:=()
def tw17466081916286218194:=()
def tw17468080675254090698:=()
def tw17487625397376230425:=()
def tw17511038571125920727:=()
def tw17562023952583802896:=()
def tw17568010987522022532:=()
def tw17578079573573795020:=()
def tw17594958451392206549:=()
def tw1760464320875049539:=()
def tw17617683042566954448:=()
def tw17627906279494769625:=()
def tw17631281768101507849:=()
def tw17715800646361010000:=()
def tw17763349488891701589:=()
def tw17773733822835132980:=()
def tw17814195136844843735:=()
def tw17824576615699327558:=()
def tw17844686017231150277:=()
def tw17881863749941964712:=()
def tw17892783921745378172:=()
def tw17922924338955917439:=()
def tw17980151963702717781:=()
def tw17994460290731790495:=()
def tw18041536718695517047:=()
def tw18049529527377422022:=()
def tw18079800241026343011:=()
def tw18152340915135957272:=()
def tw18183069582689944416:=()
def tw18184154170440747231:=()
def tw18211512393971782193:=()
def tw18218727351201168444:=()
def tw18229612306576451510:=()
def tw18247088487810192741:=()
def tw18248285094835630079:=()
def tw18265057878165205783:=()
def tw18266883760080793451:=()
def tw18277019903670311682:=()
def tw18314376186073821489:=()
def tw18326496605977586172:=()
def tw18353629304165247678:=()
def tw18395882155245987021:=()
def tw18402587471681248714:=()
def tw1853088998846437998:=()
def tw1879354717848286649:=()
def tw1893061956204056003:=()
def tw1899441901511104803:=()
def tw1919155257766909638:=()
def tw1985559749072336366:=()
def tw2016770932029119862:=()
def tw2018068479128768470:=()
def tw2025147254282425838:=()
def tw2027690855156696458:=()
def tw2051920481097960002:=()
def tw2061982944030181476:=()
def tw2062030383075581629:=()
def tw2076694874250451356:=()
def tw2083891437008031613:=()
def tw2086395638363911938:=()
def tw2103740806986802427:=()
def tw2145135375898657924:=()
def tw2160567561605254720:=()
def tw2179830547513627162:=()
def tw2180872537583346482:=()
def tw2263913264382629043:=()
def tw2272187261152921163:=()
def tw2280848380690753550:=()
def tw2288694496792774889:=()
def tw2290994758480779593:=()
def tw2316065423431376322:=()
def tw233363945429139725:=()
def tw2358830914081604779:=()
def tw2383070334557090632:=()
def tw2402588813770143887:=()
def tw2458402177518562771:=()
def tw2472276442869185765:=()
def tw2499938197167188023:=()
def tw250482936626794088:=()
def tw2520606178335447652:=()
def tw2527380202494317828:=()
def tw2576223040788437224:=()
def tw2577264789894677761:=()
def tw2584186622360133565:=()
def tw2601276939488242115:=()
def tw2657334250348157316:=()
def tw2677074922071354764:=()
def tw2728104887095618586:=()
def tw273046972010440929:=()
def tw2741533533718821416:=()
def tw2744446909274302209:=()
def tw2748120558239962965:=()
def tw2764997105424272210:=()
def tw2772123950905175784:=()
def tw2833854152900274541:=()
def tw2841092356294047273:=()
def tw2842557310525144352:=()
def tw2857174298184447809:=()
def tw290012314159695837:=()
def tw2903160204032382776:=()
def tw2919998853803779095:=()
def tw2929244570201848552:=()
def tw3001845715238835905:=()
def tw3011244933804269785:=()
def tw3089460761556896673:=()
def tw3094851239782732106:=()
def tw3123517822703215442:=()
def tw3147679624224902240:=()
def tw3187588569524267974:=()
def tw3223128329594120974:=()
def tw32449074495454859:=()
def tw3262571652014077111:=()
def tw3267449444987826880:=()
def tw3271469437185793895:=()
def tw3294885439932065382:=()
def tw3306113349521640957:=()
def tw3349949367515374025:=()
def tw3355247178677894139:=()
def tw3368773374186071248:=()
def tw3376913281323570027:=()
def tw3454549753245407617:=()
def tw3498885779923115954:=()
def tw3505087710020636535:=()
def tw3508446615156359425:=()
def tw3516891433936195831:=()
def tw3569528406969992400:=()
def tw3584270998051726551:=()
def tw3589614726025448930:=()
def tw3604548743536148590:=()
def tw3660890394743367512:=()
def tw3662247113307267124:=()
def tw3692272888804180273:=()
def tw3734659904301152698:=()
def tw3803877871569985553:=()
def tw3818490732574322001:=()
def tw3862814404389350565:=()
def tw3888470470201753010:=()
def tw3894304497474643754:=()
def tw3915575094649200386:=()
def tw3917462743311025372:=()
def tw3942239361172455169:=()
def tw3951616731184821860:=()
def tw3983948559351534550:=()
def tw4016711316477237144:=()
def tw4020147888097915173:=()
def tw4038058686071986092:=()
def tw4047191767185691386:=()
def tw4055390122584897321:=()
def tw4057564311419381252:=()
def tw4058743317497958818:=()
def tw4085707290884251853:=()
def tw4094530958691695417:=()
def tw4102715583356220832:=()
def tw4112580087068572194:=()
def tw4119485919363403499:=()
def tw4136372971287447911:=()
def tw4210568347796446539:=()
def tw431702816027275841:=()
def tw4318902490651222889:=()
def tw4356519282478467330:=()
def tw4360553995698267286:=()
def tw4375861300958369170:=()
def tw4383190749566902900:=()
def tw4445204067544922813:=()
def tw4466682032855289600:=()
def tw4502638437811748933:=()
def tw4524975200001188038:=()
def tw4554330344022124019:=()
def tw456276138247834011:=()
def tw4572057999904352402:=()
def tw4576603703330876104:=()
def tw4603575060858788224:=()
def tw461453469821444367:=()
def tw4615258234453917698:=()
def tw4627381366018124374:=()
def tw4628169585680058901:=()
def tw4642346094255544794:=()
def tw4650330871139395721:=()
def tw4653310367309433143:=()
def tw4678586320511396203:=()
def tw4678639447770975395:=()
def tw4679621607906945926:=()
def tw4711663740439289684:=()
def tw4721048964152706548:=()
def tw4800464924661221291:=()
def tw4801455972329183890:=()
def tw4813150614582847854:=()
def tw4836500719511249729:=()
def tw4841782839753809975:=()
def tw4847990918950539405:=()
def tw4881853591126510446:=()
def tw4889147308550065639:=()
def tw4902346353325327023:=()
def tw491969585662869834:=()
def tw4919798050900161102:=()
def tw4929839735864174443:=()
def tw4947907540004779409:=()
def tw4949675945427535186:=()
def tw4950282964764140158:=()
def tw4969438284195445403:=()
def tw5008335063555963650:=()
def tw504625597430767100:=()
def tw506239689525293531:=()
def tw5063309853582993583:=()
def tw5076403323765071627:=()
def tw5076607705073870731:=()
def tw5083320212855552153:=()
def tw5124301955688896032:=()
def tw5152445290929112921:=()
def tw5153193452601449791:=()
def tw5201579859503424550:=()
def tw5222964387322235156:=()
def tw5232561088939813277:=()
def tw5322033696206209272:=()
def tw5327342768078787241:=()
def tw532748129489605799:=()
def tw5362951386149333248:=()
def tw5377836305369497404:=()
def tw5382192372069455291:=()
def tw5396780849707959004:=()
def tw5419527059712291903:=()
def tw5447715881059106403:=()
def tw546993302322856604:=()
def tw5494413280532441060:=()
def tw5499106622169588972:=()
def tw5510079734069566135:=()
def tw5511360660109365739:=()
def tw5536536403783424281:=()
def tw560841555024084677:=()
def tw5686053992121179051:=()
def tw5690322868444813287:=()
def tw5691802746939707822:=()
def tw5723259957589969256:=()
def tw572805700173048340:=()
def tw5736898386755913367:=()
def tw5810519086576857889:=()
def tw5841591335847075962:=()
def tw5859253011763765852:=()
def tw5860046807392988088:=()
def tw591357131905843045:=()
def tw5921246647516714929:=()
def tw592596693415361199:=()
def tw5938761308256682980:=()
def tw5955405739508676706:=()
def tw5957281720051370030:=()
def tw5983766045232812290:=()
def tw6000443360513916871:=()
def tw6014078004876461078:=()
def tw6030836517834641036:=()
def tw6060918702148207403:=()
def tw6097443819814623624:=()
def tw6110125723170850239:=()
def tw61113150240982426:=()
def tw6114759139593918997:=()
def tw6137826434171871879:=()
def tw6156910650146751273:=()
def tw6164664775965882632:=()
def tw6178493879604330997:=()
def tw6196511141806101280:=()
def tw6235245128785014659:=()
def tw6248171284095241303:=()
def tw6260997761400440745:=()
def tw6280977892304020308:=()
def tw6344416750053005264:=()
def tw6358696441347454874:=()
def tw6360599744829122779:=()
def tw6412053283895189486:=()
def tw6500435146725440077:=()
def tw6512550040976866187:=()
def tw6516704497682340290:=()
def tw6536691120029428751:=()
def tw6586106241806593863:=()
def tw6589667221303233291:=()
def tw6598231833650878468:=()
def tw6643405134380327689:=()
def tw6667736200771142519:=()
def tw6675395885558434045:=()
def tw6692626390448263138:=()
def tw6715665154028204709:=()
def tw6720389879675445672:=()
def tw6748078131168893135:=()
def tw6843721764833349466:=()
def tw690060862315802643:=()
def tw6913705032648917673:=()
def tw6955156674031702217:=()
def tw6975616959381926579:=()
def tw6996863731560561353:=()
def tw7131245109054474476:=()
def tw7133395974871460540:=()
def tw7175680335013051695:=()
def tw7183830425104516117:=()
def tw7197991253986642978:=()
def tw7228722777052993535:=()
def tw7345592856146882230:=()
def tw7345818086737277001:=()
def tw739672823887286035:=()
def tw7427324872019705614:=()
def tw7458936873620171713:=()
def tw7460942695579765401:=()
def tw7514707295915175796:=()
def tw7527265137408140179:=()
def tw7529114755314236322:=()
def tw7538213370111035194:=()
def tw7561965950781376794:=()
def tw756421498208552982:=()
def tw7576660027815991218:=()
def tw7594209069362904024:=()
def tw761314176469776234:=()
def tw765086525395177272:=()
def tw7670778619987218076:=()
def tw769939045066782960:=()
def tw7730772898910219147:=()
def tw773479406539783009:=()
def tw7735068340427540419:=()
def tw7753236117319521268:=()
def tw7782010605755576902:=()
def tw7844325538410024145:=()
def tw7905615236863173060:=()
def tw7916157421627978059:=()
def tw7937619914857024229:=()
def tw7955537251713876054:=()
def tw7955815943038825990:=()
def tw7975818109309017551:=()
def tw7987280658406091812:=()
def tw8054079693607200236:=()
def tw8066039119333042765:=()
def tw8081452276600214060:=()
def tw8091407959035061717:=()
def tw8102765269566213988:=()
def tw8119420723186950269:=()
def tw8138446706548739725:=()
def tw8162559065940487531:=()
def tw8183328399661499352:=()
def tw8189052504454030980:=()
def tw820266577998150582:=()
def tw8218375293956274104:=()
def tw8236315487355613784:=()
def tw8246051881558847862:=()
def tw8289878309942811343:=()
def tw8307242780581512368:=()
def tw831723532593419964:=()
def tw838455887446118212:=()
def tw8390189963204033809:=()
def tw8396122293054986365:=()
def tw8408711865809447644:=()
def tw8423275225226688832:=()
def tw8454691177917878541:=()
def tw8458657142665660343:=()
def tw8487764887481937010:=()
def tw8490862386073308095:=()
def tw853123827268645783:=()
def tw8544900930986503595:=()
def tw8547382918724580660:=()
def tw8584015769640568372:=()
def tw8617056486108802923:=()
def tw8663552066615572582:=()
def tw8680064585751043501:=()
def tw8685464815535328267:=()
def tw868916253284166336:=()
def tw8694787142261258293:=()
def tw8696690594230359881:=()
def tw8717041435309719191:=()
def tw8730352107214899304:=()
def tw8736391022248175615:=()
def tw8761660249000590546:=()
def tw8826339636307720223:=()
def tw8846618710830421821:=()
def tw8874427372770036579:=()
def tw8887481639376053301:=()
def tw8921984401473536267:=()
def tw892604280814693368:=()
def tw8929916578136079207:=()
def tw893595753096213640:=()
def tw8979408686885665297:=()
def tw8985919903645979301:=()
def tw9013840016577391340:=()
def tw9020175598124861568:=()
def tw9047908394414039007:=()
def tw9077579323984891008:=()
def tw9078637438697362802:=()
def tw9078729957988479835:=()
def tw9129261454826042948:=()
def tw9153777510188977265:=()
def tw9156748152141069587:=()
def tw9181176623213169188:=()
def tw9201846235668467473:=()
def tw9263054232028003537:=()
def tw9299918068093379799:=()
def tw9316703111267220539:=()
def tw9330304959546146291:=()
def tw9336308750026767994:=()
def tw9384908770023027355:=()
def tw9412149647238243446:=()
def tw9439738926200569205:=()
def tw9457318068371353483:=()
def tw9463162216010031309:=()
def tw9488548604365320670:=()
def tw948899066683303714:=()
def tw9501280735847159078:=()
def tw9521983877678984302:=()
def tw9541619959474955300:=()
def tw9544765467749533331:=()
def tw9547864942463539606:=()
def tw9565172868350450675:=()
def tw9571113007731310972:=()
def tw9573618816623673719:=()
def tw9590710166095233746:=()
def tw9612181043119673604:=()
def tw9615192695866195275:=()
def tw9628114732054204418:=()
def tw964063231014656802:=()
def tw9666398297791803411:=()
def tw9697585457776064110:=()
def tw9763899395007409289:=()
def tw9774200332707151596:=()
def tw9812626467905968142:=()
def tw9818180361897683529:=()
def tw9826209774015737236:=()
def tw9837308246909694716:=()
def tw984590022076388822:=()
def tw9846746480481921092:=()
def tw9860269116048743381:=()
def tw9869433534276542838:=()
def tw9887550865159147293:=()
def tw9957251351722115959:=()
def tw9977154301515076739:=()
def tw9979638547332251770:=()
end PySem.W.Fast
set_option tactic.hygienic true
open PySem PySem.W PyProof.Rows
set_option maxRecDepth 100000 in
set_option maxHeartbeats 0 in
theorem PySem.Challenge.cw_wantway_k44_given_worths_holds : PySem.Challenge.rw_wantway_k44_given_worths.Holds := by
  w_on; o_law; k_head; (case hw => w_witness2)
  k_fill
  refine K4.goes (l := PySem.Challenge.rw_wantway_k44_given_worths) rfl rfl (fun w h Y => PySem.W.kIn_of Y) ?F
  case F =>
    intro w mg fa h KX G hmg
    refine' K4.all_at KX G hmg ?_ ?_ ?_ ?_ ?_ ?_ ?_ ?_ ?_ ?_ ?_ ?_ ?_ ?_ ?_ ?_ ?_ ?_ ?_ ?_ ?_ ?_ ?_ ?_ ?_ ?_ ?_ ?_ ?_ ?_ ?_ ?_ ?_ ?_ ?_ ?_ ?_ ?_ ?_ ?_ ?_ ?_ ?_ ?_ ?_ ?_ ?_ ?_ ?_ ?_ ?_ ?_ ?_ ?_ ?_ ?_ ?_ ?_ ?_ ?_ ?_ ?_ ?_ ?_ ?_ ?_ ?_ ?_ ?_ ?_ ?_ ?_ ?_ ?_ ?_ ?_ ?_ ?_ ?_ ?_ ?_ ?_ ?_ ?_ ?_ ?_ ?_ ?_ ?_ ?_ ?_ ?_ ?_ ?_ ?_ ?_ ?_ ?_ ?_ ?_ ?_ ?_ ?_ ?_ ?_ ?_ ?_ ?_ ?_ ?_ ?_ ?_ ?_ ?_ ?_ ?_ ?_ ?_ ?_ ?_ ?_ ?_ ?_ ?_ ?_ ?_ ?_ ?_ ?_ ?_ ?_ ?_ ?_ ?_ ?_ ?_ ?_ ?_ ?_ ?_ ?_ ?_ ?_ ?_ ?_ ?_ ?_ ?_ ?_ ?_ ?_ ?_ ?_ ?_ ?_ ?_
    any_goals first | k_is | (refine' And.intro ?zz0 (K4.At.of ?zz1 ?zz2 ?zz3); (case zz0 => first | k_is | (constructor <;> k_is)); (case zz1 => k_is); (case zz2 => k_is); (case zz3 => k_is)) | (refine' And.intro ?zz0 (K4.AtD.of ?zz1 ?zz2 ?zz3 ?zz4); (case zz0 => k_is); (case zz1 => k_is); (case zz2 => k_is); (case zz3 => k_is); (case zz4 => k_is)) | (unfold K4.GN; k_is) | (unfold K4.GC; k_is) | (unfold K4.GF; k_is) | (refine' And.intro ?zz0 ?zz1; (case zz0 => k_is); (case zz1 => exact ⟨_, rfl⟩)) | kit_is | k_exc | (refine K4.CA.mk ?_ ?_ ?_ ?_ ?_ ?_ <;> k_is) | (refine And.intro ⟨_, _, rfl, rfl⟩ ?_; k_keys) | kernel_rfl
