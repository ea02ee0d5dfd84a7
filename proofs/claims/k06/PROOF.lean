import PyProof.Rows.All
import Wide.All
import OpenK.AllK
import Wide.FinOn
import KE.KDictList
import KE.KDictOf
import KE.KRevSl
import KE.KSortTup
import KE.LcSums
import Lean
import PyProof.AttrMissSeq
import PyProof.DictWalks
import PyProof.EnumStmt
import PyProof.EqAt
import PyProof.EqKinds
import PyProof.FString4
import PyProof.ListOps
import PyProof.ListRange
import PyProof.NeKinds
import PyProof.Rows.SumGenD
import PyProof.SeqRoads2
import PyProof.StrLawsRepr
import PyProof.StrWalks
import PyProof.SumWalk
import PyProof.TupleCall
import PyProof.WalksMore
import PyProof.ZipIter
import PySem.Challenge.RW_wantway_k06_books_told
set_option Elab.async false
set_option linter.all false
set_option maxRecDepth 100000
set_option maxHeartbeats 8000000
set_option tactic.hygienic false
namespace L2
open PySem PySem.Spec PyProof.Rows
theorem sl(n:Nat)(h:n<=sizeLine:=by decide):n<=sizeLine:=h
abbrev Key:=Sum Int Str
def Y0:Key->Value->Bool
 | .inl k,v=>Value.isInt k v
 | .inr x,v=>Value.isStrOf x v
def PD(w:World):Key->Int
 | .inl k=>hashInt k
 | .inr x=>hashStr w x
theorem Z4:∀ {k:Key}{v:Value},Y0 k v=true->(∃ i t,k=Sum.inl i/\v=Value.int i t) \/ (∃ x t,k=Sum.inr x/\v=Value.str x t)
 | .inl i,v,h=>by
  obtain ⟨t,e⟩:=Value.isInt_shape (k:=i) (v:=v) h;exact .inl ⟨i,t,rfl,e⟩
 | .inr x,v,h=>by
  obtain ⟨t,e⟩:=Value.isStrOf_shape (x:=x) (v:=v) h;exact .inr ⟨x,t,rfl,e⟩
theorem BO(i:Int)(t:Tok):Y0 (.inl i) (.int i t)=true:=by simp [Y0,Value.isInt]
theorem Ws(x:Str)(t:Tok):Y0 (.inr x) (.str x t)=true:=by simp [Y0,Value.isStrOf]
theorem Ln(a b:Int):decide ((Sum.inl a:Key)=Sum.inl b)=(a==b):=by
 by_cases e:a=b
 .subst e;simp
 .have h: ¬ (Sum.inl a:Key)=Sum.inl b:=fun q=>e (Sum.inl.inj q)
  rw [decide_eq_false h];exact (beq_eq_false_iff_ne.mpr e).symm
theorem Lk(a b:Str):decide ((Sum.inr a:Key)=Sum.inr b)=decide (a=b):=by
 by_cases e:a=b
 .subst e;simp
 .have h: ¬ (Sum.inr a:Key)=Sum.inr b:=fun q=>e (Sum.inr.inj q)
  rw [decide_eq_false h,decide_eq_false e]
theorem Lm(a:Int)(b:Str):decide ((Sum.inl a:Key)=Sum.inr b)=false:=decide_eq_false (fun q=>nomatch q)
theorem Ll(a:Str)(b:Int):decide ((Sum.inr a:Key)=Sum.inl b)=false:=decide_eq_false (fun q=>nomatch q)
def Zq(prog:Program)(w:World):PySem.KeyKind prog w Key where
 is:=Y0
 hash:=PD w
 inj:=fun v a b ha hb=>by
  rcases Z4 ha with ⟨i,t,rfl,rfl⟩ | ⟨x,t,rfl,rfl⟩
  .rcases Z4 hb with ⟨j,u,rfl,e⟩ | ⟨y,u,rfl,e⟩
   .injection e with e1 _;rw [e1]
   .exact nomatch e
  .rcases Z4 hb with ⟨j,u,rfl,e⟩ | ⟨y,u,rfl,e⟩
   .exact nomatch e
   .injection e with e1 _;rw [e1]
 byValue:=fun k v h=>by
  rcases Z4 h with ⟨i,t,rfl,rfl⟩ | ⟨x,t,rfl,rfl⟩ <;> rfl
 pyHash:=fun hv h=>by
  rcases Z4 hv with ⟨i,t,rfl,rfl⟩ | ⟨x,t,rfl,rfl⟩
  .exact wpAny_pyHash_int h
  .exact wpAny_pyHash_str h
 eqBool:=fun hu hv h=>by
  rcases Z4 hu with ⟨i,t,rfl,rfl⟩ | ⟨x,t,rfl,rfl⟩
  .rcases Z4 hv with ⟨j,u,rfl,rfl⟩ | ⟨y,u,rfl,rfl⟩
   .rw [Ln] at h;exact wpAny_eqBool_int h
   .rw [Lm] at h;exact SeqAt.EqAt.int_str i t y u _ _ _ _ h
  .rcases Z4 hv with ⟨j,u,rfl,rfl⟩ | ⟨y,u,rfl,rfl⟩
   .rw [Ll] at h;exact SeqAt.EqAt.str_int x t j u _ _ _ _ h
   .rw [Lk] at h;exact wpAny_eqBool_str h
 «strs»:=fun k x t v h=>by
  rcases Z4 h with ⟨i,u,rfl,e⟩ | ⟨y,u,rfl,e⟩
  .exact nomatch e
  .injection e with e1 _
   subst e1;cases v <;> rfl
theorem RB(prog:Program)(w:World)(i:Int)(t:Tok):(Zq prog w).is (.inl i) (.int i t)=true:=BO i t
theorem T9(prog:Program)(w:World)(x:Str)(t:Tok):(Zq prog w).is (.inr x) (.str x t)=true:=Ws x t
end L2
namespace L2
open PySem PySem.Spec PyProof.Rows
inductive V where
 | non | bl (b:Bool) | int (i:Int) | str (x:Str) | byt (b:Array UInt8) | flt (b:UInt64) | ref (a:Addr) | ty (n:String)
 deriving DecidableEq
def RelV:V->Value->Prop
 | .non,u=>u=Value.none
 | .bl b,u=>u=Value.bool b
 | .int i,u=> ∃ t,u=Value.int i t
 | .str x,u=> ∃ t,u=Value.str x t
 | .byt b,u=> ∃ t,u=Value.bytes b t
 | .flt b,u=> ∃ t,u=Value.float b t
 | .ref a,u=>u=Value.ref a
 | .ty n,u=>u=Value.type n
abbrev Vals:List V->List Value->Prop:=Paired RelV
theorem Vals.length(r:Vals xs us):xs.length=us.length:=Paired.length r
theorem Vals.get:∀ {xs:List V}{us:List Value}{i:Nat}{x:V},Vals xs us->xs[i]?=some x->∃ u,us[i]?=some u/\RelV x u
 | _,_,_,_, .nil,e=>by simp at e
 | _,_,0,_, .cons r _,e=>by simp at e;subst e;exact ⟨_,rfl,r⟩
 | _,_,i + 1,x, .cons _ t,e=>by
  obtain ⟨u,h1,h2⟩:=Vals.get (i:=i) (x:=x) t (by simpa using e);exact ⟨u,by simpa using h1,h2⟩
theorem Vals.set(r:RelV x u):∀ {xs:List V}{us:List Value}(i:Nat),Vals xs us->Vals (xs.set i x) (us.set i u)
 | _,_,_, .nil=> .nil
 | _,_,0, .cons _ t=> .cons r t
 | _,_,i + 1, .cons q t=> .cons q (Vals.set r i t)
theorem Vals.append:∀ {xs ys:List V}{us ws:List Value},Vals xs us->Vals ys ws->Vals (xs++ ys) (us++ ws)
 | _,_,_,_, .nil,s=>s
 | _,_,_,_, .cons r t,s=> .cons r (Vals.append t s)
theorem Vals.take:∀ {xs:List V}{us:List Value}(n:Nat),Vals xs us->Vals (xs.take n) (us.take n)
 | _,_,0,_=> .nil
 | _,_,_ + 1, .nil=> .nil
 | _,_,n + 1, .cons r t=> .cons r (Vals.take n t)
theorem Vals.drop:∀ {xs:List V}{us:List Value}(n:Nat),Vals xs us->Vals (xs.drop n) (us.drop n)
 | _,_,0,r=>r
 | _,_,_ + 1, .nil=> .nil
 | _,_,n + 1, .cons _ t=>Vals.drop n t
def JY:Option V->Option Value->Prop
 | some v,some u=>RelV v u
 | none,none=>True
 | _,_=>False
def KV{κ:Type}:List (κ × V)->List (κ × Value)->Prop:=Paired fun (p:κ × V) (q:κ × Value)=>p.1=q.1/\RelV p.2 q.2
def kV:Key->V
 | .inl i=> .int i
 | .inr x=> .str x
inductive HO where
 /-- a list -/
 | lst (xs:List V)
 /-- a tuple (never changes) -/
 | tup (xs:List V)
 /-- a dict whose keys are ints and texts;one whose keys are tuples of ints and texts (the empty one is both) -/
 | dK (kvs:List (Key × V)) | dT (kvs:List (List Key × V))
 /-- a set of ints:its members,its size -/
 | set (S:Int->Bool) (n:Nat)
 /-- an instance of the class at C,its dict at dx,its attributes -/
 | ins (C dx:Addr) (fs:List (Str × V))
 /-- the dict of the instance at x -/
 | own (x:Addr)
 /-- the dict of an exception -/
 | xd (fs:List (Str × V))
 /-- a bound method,f of x -/
 | met (f x:Addr)
 /-- a range object lo,lo + 1, .. below hi -/
 | rng (lo hi:Int)
 /-- a thing that is known to the object (the script;a dict while a loop walks it):read,never written while it is so -/
 | frz (o:Obj) (u:HO)
 /-- a code object's table -/
 | tbl (ps:Array Value)
 /-- any other thing,by what is true of its one object (a def of one's own:SetO a S n:=HO.ext fun h=> ..) -/
 | ext (φ:Heap->Prop)
abbrev Hp:=Addr->Option HO
def upd(H:Hp)(a:Addr)(o:HO):Hp:=fun b=>if b=a then some o else H b
theorem ZD:upd H a o a=some o:=by unfold upd;rw [if_pos rfl]
theorem ZI(h:b≠a):upd H a o b=H b:=by unfold upd;rw [if_neg h]
theorem FQ:upd (upd H a o) a u=upd H a u:=by
 funext b;unfold upd;split <;> rfl
theorem YM{H:Hp}(h:H a=some o)(h':H b=some u)(d:o≠u):a≠b:=by
 intro e;subst e;rw [h] at h';exact d (Option.some.inj h')
theorem ZJ{H:Hp}(h:H a=some o)(h':H b=none):a≠b:=by
 intro e;subst e;rw [h] at h';cases h'
def XT(h:Heap)(a:Addr)(items:Array Value):Prop:= ∃ o,h.get? a=some o/\o.dict=none/\o.cls= .type "tuple" /\∃ n,o.data= .seq items n
theorem XT.is(x:XT h a items):IsTup h a items:=let ⟨o,h1,_,h2,h3⟩:=x;⟨o,h1,h2,h3⟩
theorem XT.keeps(x:XT h a items)(hk:∀ b o,h.get? b=some o->h'.get? b=some o):XT h' a items:=let ⟨o,ho,r⟩:=x;⟨o,hk a o ho,r⟩
theorem XT.new(h:Heap)(items:Array Value):XT (h.push {cls:= .type "tuple",data:= .seq items}) h.objs.size items:=⟨_,Heap.get?_push_size _ rfl,rfl,rfl,_,rfl⟩
section
variable(P:Program)(w:World)
def Z5(H:Hp)(h:Heap)(a:Addr):HO->Prop
 | .lst xs=>xs.length<=sizeLine/\∃ (its:List Value) (n:Nat),Vals xs its/\h.get? a=some {cls:= .type "list",data:= .seq its.toArray n}
 | .tup xs=>xs.length<=sizeLine/\∃ its:List Value,Vals xs its/\XT h a its.toArray
 | .dK kvs=>kvs.length<=sizeLine/\(a==sysModules)=false/\∃ vs,KV kvs vs/\h.DictOf (Zq P w) a vs
 | .dT kvs=>kvs.length<=sizeLine/\(a==sysModules)=false/\∃ xs:List (List Key × Addr × Value),
   Paired (fun (p:List Key × V) (q:List Key × Addr × Value)=>p.1=q.1/\H q.2.1=some (.tup (p.1.map kV))/\RelV p.2 q.2.2) kvs xs/\
   ∃ o es ep,h.get? a=some o/\o.ExactDict/\o.data= .dict es ep/\es.toList=xs.map (entryOfKey (tupleKind (Zq P w)))/\(xs.map (·.1)).Nodup
 | .set S n=>h.SetOf (intKind P w) a S n
 | .ins C dx fs=>H dx=some (.own a)/\fs.length<=1000/\dx≠a/\h.get? a=some (W.instObj C dx)/\
   ∃ mA,h.Ns1 dx mA/\(∀ f,JY (fs.lookup f) (mA f))/\PySem.Within mA (fs.map (·.1))
 | .own _=> ∃ o,h.get? a=some o
 | .xd fs=> ∃ mA,h.Ns1 a mA/\∀ f,JY (fs.lookup f) (mA f)
 | .rng lo hi=> ∃ t u v,h.get? a=some {cls:= .type "range",data:= .fields #[.int lo t, .int hi u, .int 1 v]}
 | .frz o u=>h.get? a=some o/\Z5 H h a u
 | .tbl ps=>h.get? a=some {cls:= .none,data:= .fields ps}
 | .met f x=>h.get? a=some (W.methodObj (.ref f) (.ref x))
 | .ext φ=>φ h/\(∃ o,h.get? a=some o)/\∀ h1 h2:Heap,φ h1->(∀ o,h1.get? a=some o->h2.get? a=some o)->φ h2
def HOk(H:Hp)(h:Heap):Prop:= ∀ a o,H a=some o->Z5 P w H h a o
end
section
theorem Z5.lt(x:Z5 P w H h a o):a < h.objs.size:=by
 cases o with
 | lst xs=>obtain ⟨_,_,_,_,e⟩:=x;exact Heap.lt_size e
 | tup xs=>obtain ⟨_,_,_,p⟩:=x;exact p.is.lt
 | dK kvs=>obtain ⟨_,_,_,_,o,_,_,e,_⟩:=x;exact Heap.lt_size e
 | dT kvs=>obtain ⟨_,_,_,_,o,_,_,e,_⟩:=x;exact Heap.lt_size e
 | set S n=>obtain ⟨o,_,_,_,e,_⟩:=x;exact Heap.lt_size e
 | ins C dx fs=>obtain ⟨_,_,_,e,_⟩:=x;exact Heap.lt_size e
 | own y=>obtain ⟨_,e⟩:=x;exact Heap.lt_size e
 | xd fs=>obtain ⟨_,⟨_,_,_,e,_⟩,_⟩:=x;exact Heap.lt_size e
 | rng lo hi=>obtain ⟨_,_,_,e⟩:=x;exact Heap.lt_size e
 | frz ob u=>obtain ⟨e,_⟩:=x;exact Heap.lt_size e
 | tbl ps=>exact Heap.lt_size (show h.get? a=some _ from x)
 | met f y=>exact Heap.lt_size (show h.get? a=some _ from x)
 | ext φ=>obtain ⟨_,⟨_,e⟩,_⟩:=x;exact Heap.lt_size e
theorem Paired.mapP:∀ {l₁:List α}{l₂:List β},Paired F l₁ l₂->(∀ a b,F a b->G a b)->Paired G l₁ l₂
 | _,_, .nil,_=> .nil
 | _,_, .cons r t,f=> .cons (f _ _ r) (Paired.mapP t f)
theorem Z5.stay(x:Z5 P w H h a o)(k:∀ b u,(b=a \/ H b=some (.own a))->h.get? b=some u->h'.get? b=some u)(ho:∀ b,H b=some (.own a)->H' b=some (.own a))(ht:∀ b xs,H b=some (.tup xs)->H' b=some (.tup xs)):Z5 P w H' h' a o:=by
 induction o with
 | lst xs=>obtain ⟨z,its,n,r,e⟩:=x;exact ⟨z,its,n,r,k _ _ (.inl rfl) e⟩
 | tup xs=>obtain ⟨z,its,r,ob,e,c⟩:=x;exact ⟨z,its,r,ob,k _ _ (.inl rfl) e,c⟩
 | dK kvs=>obtain ⟨z,y,vs,r,ob,es,ep,e,c⟩:=x;exact ⟨z,y,vs,r,ob,es,ep,k _ _ (.inl rfl) e,c⟩
 | dT kvs=>
  obtain ⟨z,y,xs,r,ob,es,ep,e,c⟩:=x;exact ⟨z,y,xs,Paired.mapP r fun p q z=>⟨z.1,ht _ _ z.2.1,z.2.2⟩,ob,es,ep,k _ _ (.inl rfl) e,c⟩
 | set S n=>obtain ⟨ob,es,ep,t,e,c⟩:=x;exact ⟨ob,es,ep,t,k _ _ (.inl rfl) e,c⟩
 | ins C dx fs=>
  obtain ⟨d,z,ne,e,mA,⟨od,es,ep,e2,c⟩,r⟩:=x;exact ⟨ho _ d,z,ne,k _ _ (.inl rfl) e,mA,⟨od,es,ep,k _ _ (.inr d) e2,c⟩,r⟩
 | own y=>obtain ⟨ob,e⟩:=x;exact ⟨ob,k _ _ (.inl rfl) e⟩
 | xd fs=>obtain ⟨mA,⟨od,es,ep,e,c⟩,r⟩:=x;exact ⟨mA,⟨od,es,ep,k _ _ (.inl rfl) e,c⟩,r⟩
 | rng lo hi=>obtain ⟨t,u,v,e⟩:=x;exact ⟨t,u,v,k _ _ (.inl rfl) e⟩
 | frz ob u ih=>obtain ⟨e,q⟩:=x;exact ⟨k _ _ (.inl rfl) e,ih q⟩
 | tbl ps=>
  have e:h.get? a=some {cls:= .none,data:= .fields ps}:=x;show h'.get? a=some {cls:= .none,data:= .fields ps};exact k a _ (.inl rfl) e
 | met f y=>
  have e:h.get? a=some (W.methodObj (.ref f) (.ref y)):=x;show h'.get? a=some (W.methodObj (.ref f) (.ref y));exact k a _ (.inl rfl) e
 | ext φ=>obtain ⟨p,⟨o,e⟩,st⟩:=x;exact ⟨st _ _ p fun o q=>k _ _ (.inl rfl) q,⟨o,k _ _ (.inl rfl) e⟩,st⟩
theorem HOk.lt(x:HOk P w H h)(e:H a=some o):a < h.objs.size:=(x a o e).lt
theorem HOk.fresh(x:HOk P w H h)(e:h.objs.size<=a):H a=none:=by
 cases q:H a with
 | none=>rfl
 | some u=>exact absurd (Nat.lt_of_lt_of_le (x.lt q) e) (Nat.lt_irrefl _)
theorem HOk.kept(x:HOk P w H h)(k:∀ b u,h.get? b=some u->h'.get? b=some u):HOk P w H h':=fun a o e=>
 (x a o e).stay (fun b u _ q=>k b u q) (fun _ q=>q) fun _ _ q=>q
theorem HOk.laid(x:HOk P w H h)(k:∀ b u,h.get? b=some u->h'.get? b=some u)(hp:h.objs.size<=a)(new:Z5 P w (upd H a o) h' a o):HOk P w (upd H a o) h':=fun b u e=>by
 have hn:=x.fresh hp
 by_cases hb:b=a
 .subst hb;rw [ZD] at e;cases e;exact new
 .rw [ZI hb] at e
  exact (x b u e).stay (fun c v _ q=>k c v q) (fun c q=>by rw [ZI (ZJ q hn)];exact q) fun c xs q=>by rw [ZI (ZJ q hn)];exact q
end
def Rd(H:Hp)(a:Addr)(u:HO):Prop:=H a=some u \/ ∃ o,H a=some (.frz o u)
theorem Rd.ok(r:Rd H a u)(x:HOk P w H h):Z5 P w H h a u:=by
 rcases r with r | ⟨o,r⟩
 .exact x a u r
 .obtain ⟨_,q⟩:=x a _ r
  exact q
def Mut:Option HO->Prop
 | some (.lst _)=>True
 | some (.dK _)=>True
 | some (.dT _)=>True
 | some (.set _ _)=>True
 | some (.ins _ _ _)=>True
 | some (.ext _)=>True
 | _=>False
section
theorem HOk.write(ok:HOk P w H h)(mu:Mut (H x))(he:e=x \/ H e=some (.own x))(k:∀ b u,b≠e->h.get? b=some u->h'.get? b=some u)(heo:∃ u,h'.get? e=some u)(new:Z5 P w (upd H x o') h' x o'):HOk P w (upd H x o') h':=fun b u q=>by
 have nown:∀ c y,H c=some (.own y)->c≠x:=fun c y r z=>by subst z;rw [r] at mu;exact mu
 have ntup:∀ c xs,H c=some (.tup xs)->c≠x:=fun c xs r z=>by subst z;rw [r] at mu;exact mu
 by_cases hb:b=x
 .subst hb;rw [ZD] at q;cases q;exact new
 .rw [ZI hb] at q
  by_cases hbe:b=e
  .have q':H b=some (.own x):=by
    rcases he with z | z
    .exact absurd (hbe.trans z) hb
    .rw [hbe];exact z
   rw [q] at q';cases q';obtain ⟨v,hv⟩:=heo;exact ⟨v,by rw [hbe];exact hv⟩
  .refine (ok b u q).stay (fun c v hc r=>k c v ?_ r) (fun c r=>by rw [ZI (nown c b r)];exact r) fun c xs r=>by rw [ZI (ntup c xs r)];exact r
   rcases hc with rfl | hc
   .exact hbe
   .rintro rfl
    rcases he with z | z
    .exact nown c b hc z
    .rw [hc] at z;cases z;exact hb rfl
end
structure Un(fs ex:List Addr)(H H':Hp)(h h':Heap):Prop where
 keep:∀ b o,h.get? b=some o->H b=none->b ∉ fs->b ∉ ex->h'.get? b=some o
 slot:∀ b o,h.get? b=some o->H b=none->b∈fs->b ∉ ex->∃ sl,h'.get? b=some {o with slots:=sl}
 free:∀ b o,h.get? b=some o->H b=none->b ∉ ex->H' b=none
 there:∀ b o,h.get? b=some o->b ∉ ex->∃ o',h'.get? b=some o'
 tups:∀ b xs,H b=some (.tup xs)->H' b=some (.tup xs)
 frzs:∀ b o u,H b=some (.frz o u)->H' b=some (.frz o u)
 tbls:∀ b ps,H b=some (.tbl ps)->∃ more,H' b=some (.tbl (ps++ more))
section
variable{fs fs' ex ex':List Addr}{H H1 H2:Hp}{h h1 h2 h':Heap}{a x e:Addr}{o:HO}
theorem Un.any(u:Un fs ex H H1 h h1)(q:h.get? b=some ob)(n:H b=none)(hx:b ∉ ex):∃ sl,h1.get? b=some {ob with slots:=sl}:=by
 by_cases hb:b∈fs
 .exact u.slot b ob q n hb hx
 .exact ⟨ob.slots,u.keep b ob q n hb hx⟩
theorem Un.kept(k:∀ b u,h.get? b=some u->h'.get? b=some u):Un fs ex H H h h':=
 ⟨fun b ob q _ _ _=>k b ob q,fun b ob q _ _ _=>⟨ob.slots,k b ob q⟩,fun _ _ _ n _=>n,fun b ob q _=>⟨ob,k b ob q⟩,fun _ _ q=>q,fun _ _ _ q=>q,fun _ ps q=>⟨#[],by rw [q];simp⟩⟩
theorem Un.refl:Un fs ex H H h h:=Un.kept fun _ _ q=>q
theorem Un.laid(k:∀ b u,h.get? b=some u->h'.get? b=some u)(hp:h.objs.size<=a)(hn:H a=none):Un fs ex H (upd H a o) h h' where
 keep:=fun b u q _ _ _=>k b u q
 slot:=fun b u q _ _ _=>⟨u.slots,k b u q⟩
 free:=fun b u q n _=>by rw [ZI (Nat.ne_of_lt (Nat.lt_of_lt_of_le (Heap.lt_size q) hp))];exact n
 there:=fun b u q _=>⟨u,k b u q⟩
 tups:=fun b xs q=>by rw [ZI (ZJ q hn)];exact q
 frzs:=fun b u xs q=>by rw [ZI (ZJ q hn)];exact q
 tbls:=fun b ps q=>⟨#[],by rw [ZI (ZJ q hn),q];simp⟩
theorem Un.write(mu:Mut (H x))(he:e=x \/ H e=some (.own x))(k:∀ b u,b≠e->h.get? b=some u->h'.get? b=some u)(heo:∃ u,h'.get? e=some u):Un fs ex H (upd H x o) h h':=by
 have hx:∀ b,H b=none->b≠x:=fun b n z=>by subst z;rw [n] at mu;exact mu
 have hb:∀ b,H b=none->b≠e:=fun b n z=>by
  subst z;rcases he with r | r
  .exact hx b n r
  .rw [n] at r;cases r
 have hm:∀ b u,H b=some u-> ¬ Mut (some u)->b≠x:=fun b u q nm z=>by subst z;rw [q] at mu;exact nm mu
 refine ⟨fun b u q n _ _=>k b u (hb b n) q,fun b u q n _ _=>⟨u.slots,k b u (hb b n) q⟩,fun b u q n _=>by rw [ZI (hx b n)];exact n,fun b u q _=>?_,
  fun b xs q=>by rw [ZI (hm b _ q fun z=>z)];exact q,fun b u xs q=>by rw [ZI (hm b _ q fun z=>z)];exact q,fun b ps q=>⟨#[],by rw [ZI (hm b _ q fun z=>z),q];simp⟩⟩
 by_cases hbe:b=e
 .subst hbe;exact heo
 .exact ⟨u,k b u hbe q⟩
end
def trk(h:Heap)(H:Hp):List Addr:=(List.range h.objs.size).filter fun a=>(H a).isSome
def TJ(h:Heap)(H:Hp):Heap:=W.hideAll h (trk h H)
theorem BR(h:Heap)(H:Hp):(TJ h H).objs.size=h.objs.size:=W.hideAll_size _ _
theorem Ef(e:h.get? b=some o)(n:H b=none):(TJ h H).get? b=some o:=
 W.hideAll_get _ e fun hm=>by
  have q:(H b).isSome=true:=(List.mem_filter.mp hm).2;rw [n] at q;simp at q
theorem Ib(e:(TJ h H).get? b=some o):h.get? b=some o/\H b=none:=by
 have e':h.get? b=some o:=W.of_hideAll (trk h H) e;refine ⟨e',?_⟩
 cases q:H b with
 | none=>rfl
 | some x=>
  have hm:b∈trk h H:=List.mem_filter.mpr ⟨List.mem_range.mpr (Heap.lt_size e'),by simp [q]⟩;have z:(TJ h H).get? b=none:=W.hideAll_none (trk h H) hm;rw [z] at e;cases e
end L2
namespace L2
open PySem PySem.Spec PyProof.Rows
structure Mod(K:W.Frag)(mg:Str->Option Value)(base:Heap):Prop where
 kin:K.In base
 glob:base.Ns mainGlobals mg
 blt:∃ mb,base.Ns builtinsNs mb/\∀ x:Str,x≠"__name__" ->mb x=bootBuiltins x
 nolimit:base.NoLimit
structure Cx where
 prog:Program
 w:World
 K:W.Frag
 mg:Str->Option Value
 base:Heap
 A:Around
 N:List Str
 s₀:Shared
 H₀:Hp
 env:Env
 outer:List Env
 stack:List Env
 ex:List Addr
 fn:Str->Bool
 calm:Bool
 pn:List (Addr × Obj)
 xe:Value->Shared->Prop
def frs(l:List Env):List Addr:=l.filterMap (·.frame)
abbrev Cx.fs(X:Cx):List Addr:=frs X.outer
def Vis(sc:Scope)(x:Str):Prop:=sc.names.lookup x=some .local \/ sc.names.lookup x=some .cell \/ sc.names.lookup x=some .free
def Loc(sc:Scope)(x:Str):Prop:=sc.names.lookup x=some .local \/ sc.names.lookup x=some .cell
def Look(env:Env)(h:Heap)(m:Str->Option Value)(x:Str)(u:Value):Prop:=
 (env.kindOf x=some .local/\m x=some u) \/ ((env.kindOf x=some .cell \/ env.kindOf x=some .free)/\∃ c,env.cells.lookup x=some c/\h.IsCell c (some u))
structure Cx.Ok(X:Cx):Prop where
 mod:Mod X.K X.mg X.base
 kind:X.env.scope.kind= .function
 glob:X.env.globals=mainGlobals
 blt:X.env.builtins=builtinsNs
 above:X.s₀.heap.objs.size<=X.env.locals
 inj:∀ x y c,X.env.cells.lookup x=some c->X.env.cells.lookup y=some c->x=y
 has:∀ x,(X.env.kindOf x=some .cell \/ X.env.kindOf x=some .free)->∃ c,X.env.cells.lookup x=some c
 cab:∀ x c,X.fn x=true->X.env.cells.lookup x=some c->X.s₀.heap.objs.size<=c
 hd:X.calm=true->X.A.handled=none
 frames:X.A.frames=some X.stack
 stk:X.stack=X.outer \/ (X.stack=X.env::X.outer/\X.env.frame=some X.env.locals)
 exf:∀ b∈X.ex,b≠X.env.locals/\∀ x c,X.env.cells.lookup x=some c->c≠b
 bs:∀ b o,X.base.get? b=some o->X.s₀.heap.get? b=some o/\X.H₀ b=none
 bsz:X.base.objs.size<=X.s₀.heap.objs.size
 noex:∀ b o,X.base.get? b=some o->b ∉ X.ex
 exfs:∀ b∈X.ex,b ∉ X.fs
 funs:X.s₀.heap.FunFrames X.base X.outer
 frf:∀ b∈X.fs,X.H₀ b=none
structure Inv(X:Cx)(pins:List (Addr × Obj))(U:List (Option V))(H:Hp)(s:Shared):Prop where
 ok:X.Ok
 os:s.os=X.s₀.os
 bare:AllBare s.gens
 base:Un X.fs X.ex X.H₀ H X.s₀.heap s.heap
 loc:∃ m,s.heap.Ns X.env.locals m/\∀ (i:Nat) (x:Str) (v:V),X.N[i]?=some x->U[i]?=some (some v)->Vis X.env.scope x->∃ u,RelV v u/\Look X.env s.heap m x u
 cell:∀ x c,X.env.cells.lookup x=some c->∃ v,s.heap.IsCell c v
 free:H X.env.locals=none
 freeC:∀ x c,X.env.cells.lookup x=some c->H c=none
 pin:∀ p∈X.pn++ pins,s.heap.get? p.1=some p.2/\H p.1=none/\p.1≠X.env.locals/\p.1 ∉ X.fs/\∀ v,p.2.data≠ .cell v
 hok:HOk X.prog X.w H s.heap
 len:U.length=X.N.length
section
variable{X:Cx}
theorem Cx.Ok.nofr(ok:X.Ok)(e:X.base.get? b=some o):b ∉ X.fs:=fun hb=>by
 have:=(ok.funs.mem hb).1;rw [e] at this;cases this
theorem Inv.bs(I:Inv X pins U H s):∀ b o,X.base.get? b=some o->s.heap.get? b=some o/\H b=none:=fun b o e=>
 ⟨I.base.keep b o (I.ok.bs b o e).1 (I.ok.bs b o e).2 (I.ok.nofr e) (I.ok.noex b o e),I.base.free b o (I.ok.bs b o e).1 (I.ok.bs b o e).2 (I.ok.noex b o e)⟩
theorem Inv.bk(I:Inv X pins U H s):∀ b o,X.base.get? b=some o->s.heap.get? b=some o:=fun b o e=>(I.bs b o e).1
theorem Inv.mod(I:Inv X pins U H s):Mod X.K X.mg X.base:=I.ok.mod
theorem Inv.kIn(I:Inv X pins U H s):X.K.In s.heap:=I.ok.mod.kin.keeps I.bk
theorem Inv.lt(I:Inv X pins U H s):X.env.locals < s.heap.objs.size:=let ⟨_,hn,_⟩:=I.loc;hn.lt
theorem Inv.sz(I:Inv X pins U H s):X.s₀.heap.objs.size<=s.heap.objs.size:=Nat.le_trans I.ok.above (Nat.le_of_lt I.lt)
theorem Inv.nofs(I:Inv X pins U H s)(h:s.heap.objs.size<=a):a ∉ X.fs:=fun hb=>by
 obtain ⟨_,o,ho,_⟩:=I.ok.funs.mem hb;exact absurd (Nat.lt_of_lt_of_le (Heap.lt_size ho) (Nat.le_trans I.sz h)) (Nat.lt_irrefl _)
theorem Inv.cne(I:Inv X pins U H s):∀ x c,X.env.cells.lookup x=some c->c≠X.env.locals:=fun x c e z=>by
 obtain ⟨v,o,ho,hd⟩:=I.cell x c e;obtain ⟨m,⟨o',es,ep,ho',hd',_⟩,_⟩:=I.loc;rw [z,ho'] at ho;cases ho;rw [hd'] at hd;cases hd
theorem Inv.funs(I:Inv X pins U H s):s.heap.FunFrames X.base X.outer:=by
 have all:∀ (l:List Env),(∀ b∈frs l,b∈X.fs)->X.s₀.heap.FunFrames X.base l->s.heap.FunFrames X.base l:=by
  intro l
  induction l with
  | nil=>intro _ _;trivial
  | cons env r ih=>
   intro hs hl;obtain ⟨hk,⟨L,o,hf,hn,ho,hd⟩,hr⟩:=hl;have hL:L∈X.fs:=hs L (by unfold frs;rw [List.filterMap_cons,hf];exact List.mem_cons_self);obtain ⟨sl,e⟩:=I.base.slot L o ho (I.ok.frf L hL) hL fun z=>I.ok.exfs L z hL;exact ⟨hk,⟨L,_,hf,hn,e,hd⟩,ih (fun b hb=>hs b (by unfold frs;rw [List.filterMap_cons,hf];exact List.mem_cons_of_mem _ hb)) hr⟩
 exact all X.outer (fun _ hb=>hb) I.ok.funs
theorem Inv.stack(I:Inv X pins U H s):s.heap.FunFrames X.base X.stack:=by
 rcases I.ok.stk with e | ⟨e,hf⟩
 .rw [e];exact I.funs
 .rw [e]
  obtain ⟨m,hn,_⟩:=I.loc;refine .cons (by rw [I.ok.kind];decide) hf hn ?_ I.funs;exact Heap.get?_none_of_le (Nat.le_trans I.ok.bsz I.ok.above)
theorem Inv.stkSub(I:Inv X pins U H s):∀ b∈frs X.stack,b∈X.env.locals::X.fs:=fun b hb=>by
 rcases I.ok.stk with e | ⟨e,hf⟩
 .rw [e] at hb;exact List.mem_cons_of_mem _ hb
 .rw [e] at hb
  unfold frs at hb;rw [List.filterMap_cons,hf] at hb;exact hb
theorem Inv.stkFree(I:Inv X pins U H s):∀ b∈frs X.stack,H b=none:=fun b hb=>by
 rcases List.mem_cons.mp (I.stkSub b hb) with e | hb
 .rw [e];exact I.free
 .obtain ⟨_,o,ho,_⟩:=I.ok.funs.mem hb
  exact I.base.free b o ho (I.ok.frf b hb) fun z=>I.ok.exfs b z hb
theorem Inv.step{ch:List Addr}(I:Inv X pins U H s)(hch:∀ b∈ch,(b∈X.ex \/ X.s₀.heap.objs.size<=b)/\b≠X.env.locals/\(∀ x c,X.env.cells.lookup x=some c->c≠b)/\∀ p∈X.pn++ pins,p.1≠b)(keep:∀ b o,b≠X.env.locals->b ∉ X.fs->b ∉ ch->s.heap.get? b=some o->H b=none->h'.get? b=some o)(slot:∀ b o,b≠X.env.locals->b∈X.fs->b ∉ ch->s.heap.get? b=some o->H b=none->∃ sl,h'.get? b=some {o with slots:=sl})(free:∀ b o,b ∉ ch->s.heap.get? b=some o->H b=none->H' b=none)(there:∀ b o,b ∉ ch->s.heap.get? b=some o->∃ o',h'.get? b=some o')(tups:∀ b xs,H b=some (.tup xs)->H' b=some (.tup xs))(frzs:∀ b o u,H b=some (.frz o u)->H' b=some (.frz o u))(tbls:∀ b ps,H b=some (.tbl ps)->∃ more,H' b=some (.tbl (ps++ more)))(ns:∀ m,s.heap.Ns X.env.locals m->h'.Ns X.env.locals m)(hok:HOk X.prog X.w H' h')(hg:AllBare g'):
  Inv X pins U H' {s with heap:=h',gens:=g',drawn:=d',toks:=t'}:=by
 have neL:∀ b o,X.s₀.heap.get? b=some o->b≠X.env.locals:=fun b o e=>Nat.ne_of_lt (Nat.lt_of_lt_of_le (Heap.lt_size e) I.ok.above)
 have neC:∀ b o,X.s₀.heap.get? b=some o->b ∉ X.ex->b ∉ ch:=fun b o e hx hb=>by
  rcases (hch b hb).1 with z | z
  .exact hx z
  .exact absurd (Nat.lt_of_lt_of_le (Heap.lt_size e) z) (Nat.lt_irrefl _)
 have cellK:∀ x c,X.env.cells.lookup x=some c->∀ v,s.heap.IsCell c v->h'.IsCell c v:=fun x c e v ⟨o,ho,hd⟩=>by
  have nch:c ∉ ch:=fun z=>(hch c z).2.2.1 x c e rfl
  by_cases hc:c∈X.fs
  .obtain ⟨sl,q⟩:=slot c o (I.cne x c e) hc nch ho (I.freeC x c e)
   exact ⟨_,q,hd⟩
  .exact ⟨o,keep c o (I.cne x c e) hc nch ho (I.freeC x c e),hd⟩
 refine ⟨I.ok,I.os,hg,⟨fun b o e n hb hx=>?_,fun b o e n hb hx=>?_,fun b o e n hx=>?_,fun b o e hx=>?_,fun b xs e=>tups b xs (I.base.tups b xs e),fun b o xs e=>frzs b o xs (I.base.frzs b o xs e),fun b ps e=>?_⟩,?_,fun x c e=>?_,?_,fun x c e=>?_,fun p hp=>?_,hok,I.len⟩
 .exact keep b o (neL b o e) hb (neC b o e hx) (I.base.keep b o e n hb hx) (I.base.free b o e n hx)
 .obtain ⟨sl,e1⟩:=I.base.slot b o e n hb hx
  obtain ⟨sl',e2⟩:=slot b _ (neL b o e) hb (neC b o e hx) e1 (I.base.free b o e n hx);exact ⟨sl',e2⟩
 .obtain ⟨o',e1⟩:=I.base.there b o e hx
  exact free b o' (neC b o e hx) e1 (I.base.free b o e n hx)
 .obtain ⟨o',e1⟩:=I.base.there b o e hx
  exact there b o' (neC b o e hx) e1
 .obtain ⟨m1,e1⟩:=I.base.tbls b ps e
  obtain ⟨m2,e2⟩:=tbls b _ e1;exact ⟨m1++ m2,by rw [e2,Array.append_assoc]⟩
 .obtain ⟨m,hn,hl⟩:=I.loc
  refine ⟨m,ns m hn,fun i x v e1 e2 e3=>?_⟩;obtain ⟨u,r,l⟩:=hl i x v e1 e2 e3;refine ⟨u,r,?_⟩;rcases l with l | ⟨k,c,e,z⟩
  .exact .inl l
  .exact .inr ⟨k,c,e,cellK x c e _ z⟩
 .obtain ⟨v,z⟩:=I.cell x c e
  exact ⟨v,cellK x c e v z⟩
 .obtain ⟨m,⟨o,_,_,ho,_⟩,_⟩:=I.loc
  exact free _ o (fun z=>(hch _ z).2.1 rfl) ho I.free
 .obtain ⟨v,o,ho,hd⟩:=I.cell x c e
  exact free c o (fun z=>(hch c z).2.2.1 x c e rfl) ho (I.freeC x c e)
 .obtain ⟨e,n,ne,nf,d⟩:=I.pin p hp
  have nch:p.1 ∉ ch:=fun z=>(hch p.1 z).2.2.2 p hp rfl;exact ⟨keep p.1 p.2 ne nf nch e n,free p.1 p.2 nch e n,ne,nf,d⟩
theorem Inv.un(I:Inv X pins U H s)(u:Un X.fs [] H H' s.heap h')(hok:HOk X.prog X.w H' h'):Inv X pins U H' {s with heap:=h',toks:=t'}:=by
 obtain ⟨m,⟨o,es,ep,ho,r⟩,_⟩:=id I.loc;obtain ⟨sl,hL⟩:=u.any ho I.free (by simp)
 exact I.step (g':=s.gens) (d':=s.drawn) (ch:= []) (fun _ z=>nomatch z) (fun b o _ hb _ e n=>u.keep b o e n hb (by simp)) (fun b o _ hb _ e n=>u.slot b o e n hb (by simp)) (fun b o _ e n=>u.free b o e n (by simp)) (fun b o _ e=>u.there b o e (by simp)) u.tups u.frzs u.tbls (fun m' hm=>by
  obtain ⟨o',es',ep',ho',r'⟩:=hm;rw [ho] at ho';cases ho';exact ⟨_,es',ep',hL,r'⟩) hok I.bare
theorem Inv.call(I:Inv X pins U H s)(u:Un (frs X.stack) ch H H' s.heap h')(hok:HOk X.prog X.w H' h')(hg:AllBare g')(hch:∀ b∈ch,(b∈X.ex \/ X.s₀.heap.objs.size<=b)/\b≠X.env.locals/\(∀ x c,X.env.cells.lookup x=some c->c≠b)/\∀ p∈X.pn++ pins,p.1≠b):
  Inv X pins U H' {s with heap:=h',gens:=g',drawn:=d',toks:=t'}:=by
 obtain ⟨m,⟨o,es,ep,ho,r⟩,_⟩:=id I.loc;obtain ⟨sl,hL⟩:=u.any ho I.free fun z=>(hch _ z).2.1 rfl
 exact I.step (ch:=ch) hch (fun b o hL hb hc e n=>u.keep b o e n (fun z=>(List.mem_cons.mp (I.stkSub b z)).elim hL hb) hc) (fun b o _ _ hc e n=>u.any e n hc) (fun b o hc e n=>u.free b o e n hc) (fun b o hc e=>u.there b o e hc) u.tups u.frzs u.tbls (fun m' hm=>by
  obtain ⟨o',es',ep',ho',r'⟩:=hm;rw [ho] at ho';cases ho';exact ⟨_,es',ep',hL,r'⟩) hok hg
theorem Inv.turned(I:Inv X pins U H s)(k:∀ b o,b≠it->s.heap.get? b=some o->h'.get? b=some o)(hn:H it=none)(hL:it≠X.env.locals)(h1:it∈X.ex \/ X.s₀.heap.objs.size<=it)(h2:∀ x c,X.env.cells.lookup x=some c->c≠it)(h3:∀ p∈X.pn++ pins,p.1≠it):Inv X pins U H {s with heap:=h',toks:=t'}:=by
 have nit:∀ b u,H b=some u->b≠it:=fun b u e z=>by rw [z,hn] at e;cases e
 refine I.step (g':=s.gens) (d':=s.drawn) (ch:= [it]) (fun b hb=>?_) (fun b o _ _ hc e _=>k b o (fun z=>hc (by simp [z])) e) (fun b o _ _ hc e _=>⟨o.slots,k b o (fun z=>hc (by simp [z])) e⟩) (fun _ _ _ _ n=>n)
  (fun b o hc e=>⟨o,k b o (fun z=>hc (by simp [z])) e⟩) (fun _ _ e=>e) (fun _ _ _ e=>e) (fun b ps e=>⟨#[],by rw [e];simp⟩) (fun m hm=>?_) (fun b u e=>?_) I.bare
 .have e:b=it:=by simpa using hb
  subst e;exact ⟨h1,hL,h2,h3⟩
 .obtain ⟨o,es,ep,ho,r⟩:=hm
  exact ⟨o,es,ep,k _ o (Ne.symm hL) ho,r⟩
 .refine (I.hok b u e).stay (fun c v hc q=>k c v ?_ q) (fun _ q=>q) fun _ _ q=>q
  rcases hc with z | z
  .rw [z];exact nit b u e
  .exact nit c _ z
theorem Inv.tok(I:Inv X pins U H s)(t:Nat):Inv X pins U H {s with toks:=t}:=I.un (h':=s.heap) (t':=t) Un.refl I.hok
theorem Inv.kept(I:Inv X pins U H s)(k:∀ b u,s.heap.get? b=some u->h'.get? b=some u):Inv X pins U H {s with heap:=h',toks:=t'}:=I.un (Un.kept k) (I.hok.kept k)
theorem Inv.laid(I:Inv X pins U H s)(k:∀ b u,s.heap.get? b=some u->h'.get? b=some u)(hp:s.heap.objs.size<=a)(new:Z5 X.prog X.w (upd H a o) h' a o):
  Inv X pins U (upd H a o) {s with heap:=h',toks:=t'}:=I.un (Un.laid k hp (I.hok.fresh hp)) (I.hok.laid k hp new)
theorem Inv.write(I:Inv X pins U H s)(mu:Mut (H x))(he:e=x \/ H e=some (.own x))(k:∀ b u,b≠e->s.heap.get? b=some u->h'.get? b=some u)(heo:∃ u,h'.get? e=some u)(new:Z5 X.prog X.w (upd H x o) h' x o):Inv X pins U (upd H x o) {s with heap:=h',toks:=t'}:=I.un (Un.write mu he k heo) (I.hok.write mu he k heo new)
theorem Inv.weak(I:Inv X pins U H s)(hl:U'.length=U.length)(w:∀ (i:Nat) v,U'[i]?=some (some v)->U[i]?=some (some v)):Inv X pins U' H s:=
 ⟨I.ok,I.os,I.bare,I.base,let ⟨m,hn,hl'⟩:=I.loc;⟨m,hn,fun i x v e1 e2 e3=>hl' i x v e1 (w i v e2) e3⟩,I.cell,I.free,I.freeC,I.pin,I.hok,hl.trans I.len⟩
theorem Inv.pins_of(I:Inv X pins U H s)(h:∀ p∈pins',s.heap.get? p.1=some p.2/\H p.1=none/\p.1≠X.env.locals/\p.1 ∉ X.fs/\∀ v,p.2.data≠ .cell v):Inv X pins' U H s:=
 ⟨I.ok,I.os,I.bare,I.base,I.loc,I.cell,I.free,I.freeC,fun p hp=>(List.mem_append.mp hp).elim (fun z=>I.pin p (List.mem_append_left _ z)) (h p),I.hok,I.len⟩
theorem WG{N:List Str}(hN:N.Nodup){i j:Nat}(a:N[i]?=some x)(b:N[j]?=some x):i=j:=by
 obtain ⟨h1,e1⟩:=List.getElem?_eq_some_iff.mp a;obtain ⟨h2,e2⟩:=List.getElem?_eq_some_iff.mp b;exact (List.getElem_inj hN).mp (e1.trans e2.symm)
theorem Wj(I:Inv X pins U H s)(hN:X.N.Nodup)(hi:X.N[i]?=some x)(hx:Loc X.env.scope x)(r:RelV v u)(h:∀ s',Inv X pins (U.set i (some v)) H s'->(∃ a,Heap.SameBut a s.heap s'.heap/\(a=X.env.locals \/ X.env.cells.lookup x=some a))->Q () s')(hf:X.fn x=true \/ X.env.scope.names.lookup x=some .local:=by first | exact .inl rfl | exact .inr rfl | assumption):wpAny M A (storeName X.env x u) Q E s:=by
 obtain ⟨m,hn,hl⟩:=id I.loc;have hcls:(X.env.scope.kind== .class || (X.env.scope.kind== .module && X.env.locals !=X.env.globals))=false:=by rw [I.ok.kind];rfl
 have hiσ:i < U.length:=by rw [I.len];exact (List.getElem?_eq_some_iff.mp hi).1
 have cne:=I.cne
 have tracked:∀ {a:Addr}{h':Heap},(∃ o,s.heap.get? a=some o/\H a=none)->Heap.SameBut a s.heap h'->HOk X.prog X.w H h':=fun {a h'} ha hs b ob e=>by
  obtain ⟨_,_,hfree⟩:=ha;refine (I.hok b ob e).stay (fun c w' hc q=>(hs.2 c ?_).trans q) (fun _ q=>q) fun _ _ q=>q;rintro rfl;rcases hc with rfl | hc
  .rw [hfree] at e;cases e
  .rw [hfree] at hc;cases hc
 rcases hx with hk | hk
 .refine wpAny_storeName_local hk hn (fun h' hn' hs=>?_) hcls
  obtain ⟨oL,_,_,hoL,_⟩:=id hn;refine h _ ⟨I.ok,I.os,I.bare,⟨fun b o e n hb hx=>?_,fun b o e n hb hx=>?_,I.base.free,fun b o e hx=>?_,I.base.tups,I.base.frzs,I.base.tbls⟩,⟨_,hn',fun j y v' e1 e2 e3=>?_⟩,fun y c e=>?_,I.free,I.freeC,fun p hp=>?_,tracked ⟨oL,hoL,I.free⟩ hs,by simpa using I.len⟩ ⟨_,hs, .inl rfl⟩
  .exact (hs.2 b (Nat.ne_of_lt (Nat.lt_of_lt_of_le (Heap.lt_size e) I.ok.above))).trans (I.base.keep b o e n hb hx)
  .obtain ⟨sl,e1⟩:=I.base.slot b o e n hb hx
   exact ⟨sl,(hs.2 b (Nat.ne_of_lt (Nat.lt_of_lt_of_le (Heap.lt_size e) I.ok.above))).trans e1⟩
  .obtain ⟨o',e1⟩:=I.base.there b o e hx
   exact ⟨o',(hs.2 b (Nat.ne_of_lt (Nat.lt_of_lt_of_le (Heap.lt_size e) I.ok.above))).trans e1⟩
  .by_cases hj:j=i
   .subst hj
    rw [hi] at e1;cases e1;rw [List.getElem?_set_self hiσ] at e2;cases e2;exact ⟨u,r, .inl ⟨hk,by simp⟩⟩
   .rw [List.getElem?_set_ne (Ne.symm hj)] at e2
    obtain ⟨u',r',q⟩:=hl j y v' e1 e2 e3;refine ⟨u',r',?_⟩;rcases q with ⟨k,e⟩ | ⟨k,c,e,z⟩
    .refine .inl ⟨k,?_⟩
     have:y≠x:=fun e=>hj (WG hN e1 (e ▸ hi));simp [this,e]
    .exact .inr ⟨k,c,e,z.sameBut hs (cne y c e)⟩
  .obtain ⟨w',z⟩:=I.cell y c e
   exact ⟨w',z.sameBut hs (cne y c e)⟩
  .obtain ⟨e,n,ne,nf,d⟩:=I.pin p hp
   exact ⟨(hs.2 p.1 ne).trans e,n,ne,nf,d⟩
 .have hfn:X.fn x=true:=by
   rcases hf with z | z
   .exact z
   .rw [z] at hk;cases hk
  obtain ⟨c,hc⟩:=I.ok.has x (.inl hk);obtain ⟨w',z⟩:=I.cell x c hc;refine wpAny_storeName_cell I.ok.kind hk hc z (fun h' hc' hs=>?_);obtain ⟨oc,hoc,hocd⟩:=id z;refine h {s with heap:=h'} ⟨I.ok,I.os,I.bare,⟨fun b o e n hb hx=>?_,fun b o e n hb hx=>?_,I.base.free,fun b o e hx=>?_,I.base.tups,I.base.frzs,I.base.tbls⟩,⟨m,hn.sameBut hs (Ne.symm (cne x c hc)),fun j y v' e1 e2 e3=>?_⟩,fun y c' e=>?_,I.free,I.freeC,fun p hp=>?_,tracked ⟨oc,hoc,I.freeC x c hc⟩ hs,by simpa using I.len⟩ ⟨c,hs, .inr hc⟩
  .exact (hs.2 b (Nat.ne_of_lt (Nat.lt_of_lt_of_le (Heap.lt_size e) (I.ok.cab x c hfn hc)))).trans (I.base.keep b o e n hb hx)
  .obtain ⟨sl,e1⟩:=I.base.slot b o e n hb hx
   exact ⟨sl,(hs.2 b (Nat.ne_of_lt (Nat.lt_of_lt_of_le (Heap.lt_size e) (I.ok.cab x c hfn hc)))).trans e1⟩
  .obtain ⟨o',e1⟩:=I.base.there b o e hx
   exact ⟨o',(hs.2 b (Nat.ne_of_lt (Nat.lt_of_lt_of_le (Heap.lt_size e) (I.ok.cab x c hfn hc)))).trans e1⟩
  .by_cases hj:j=i
   .subst hj
    rw [hi] at e1;cases e1;rw [List.getElem?_set_self hiσ] at e2;cases e2;exact ⟨u,r, .inr ⟨.inl hk,c,hc,hc'⟩⟩
   .rw [List.getElem?_set_ne (Ne.symm hj)] at e2
    obtain ⟨u',r',q⟩:=hl j y v' e1 e2 e3;refine ⟨u',r',?_⟩;rcases q with q | ⟨k,c',e,z'⟩
    .exact .inl q
    .refine .inr ⟨k,c',e,z'.sameBut hs ?_⟩
     rintro rfl;exact hj (WG hN e1 (I.ok.inj _ _ _ e hc ▸ hi))
  .by_cases hcc:c'=c
   .subst hcc;exact ⟨_,hc'⟩
   .obtain ⟨w2,z2⟩:=I.cell y c' e
    exact ⟨w2,z2.sameBut hs hcc⟩
  .obtain ⟨e,n,ne,nf,d⟩:=I.pin p hp
   refine ⟨(hs.2 p.1 ?_).trans e,n,ne,nf,d⟩;intro q;rw [q,hoc] at e;have q':oc=p.2:=Option.some.inj e;exact d w' (by rw [<-q'];exact hocd)
theorem UT(I:Inv X pins U H s)(hN:X.N.Nodup)(hi:X.N[i]?=some x)(hx:Loc X.env.scope x)(r:RelV v u)(h:∀ s',Inv X pins (U.set i (some v)) H s'->Q () s')(hf:X.fn x=true \/ X.env.scope.names.lookup x=some .local:=by first | exact .inl rfl | exact .inr rfl | assumption):wpAny M A (storeName X.env x u) Q E s:=
 Wj I hN hi hx r (fun s' I' _=>h s' I') hf
theorem Inv.call'(I:Inv X pins U H s)(ho:s'.os=s.os)(u:Un (frs X.stack) ch H H' s.heap s'.heap)(hok:HOk X.prog X.w H' s'.heap)(hg:AllBare s'.gens)(hch:∀ b∈ch,(b∈X.ex \/ X.s₀.heap.objs.size<=b)/\b≠X.env.locals/\(∀ x c,X.env.cells.lookup x=some c->c≠b)/\∀ p∈X.pn++ pins,p.1≠b):Inv X pins U H' s':=by
 obtain ⟨h',g',d',t',o'⟩:=s';have e:o'=s.os:=ho;subst e;exact I.call (g':=g') (t':=t') (d':=d') u hok hg hch
end
abbrev XK:=Value->Option Addr->Hp->Prop
abbrev St:=List (Option V)
abbrev VK:=V->Hp->Prop
abbrev TE:=St->Hp->VK->Prop
abbrev TT:=St->Hp->(Bool->Hp->Prop)->Prop
abbrev TA:=St->Hp->(List V->Hp->Prop)->Prop
structure Ends where
 nx:St->Hp->Prop
 rt:VK
 bk:St->Hp->Prop:=fun _ _=>False
 ct:St->Hp->Prop:=fun _ _=>False
abbrev TS:=Ends->St->Hp->Prop
def EP(X:Cx)(pins:List (Addr × Obj))(U:St)(Q:VK)(u:Value)(s':Shared):Prop:= ∃ v H',Inv X pins U H' s'/\RelV v u/\Q v H'
def TP(X:Cx)(pins:List (Addr × Obj))(U:St)(Q:Bool->Hp->Prop)(b:Bool)(s':Shared):Prop:= ∃ H',Inv X pins U H' s'/\Q b H'
def AP(X:Cx)(pins:List (Addr × Obj))(U:St)(Q:List V->Hp->Prop)(us:List Value)(s':Shared):Prop:= ∃ vs H',Inv X pins U H' s'/\Vals vs us/\Q vs H'
def SP(X:Cx)(pins:List (Addr × Obj))(D:Ends)(f:Flow)(s':Shared):Prop:=
 match f with
 | .next=> ∃ U' H',Inv X pins U' H' s'/\D.nx U' H'
 | .brk=> ∃ U' H',Inv X pins U' H' s'/\D.bk U' H'
 | .cont=> ∃ U' H',Inv X pins U' H' s'/\D.ct U' H'
 | .ret u=> ∃ v U' H',Inv X pins U' H' s'/\RelV v u/\D.rt v H'
def PE(X:Cx)(e:Expr)(t:TE):Prop:=
 ∀ (pins:List (Addr × Obj)) (s:Shared) (U:St) (H:Hp) (Q:VK),Inv X pins U H s->t U H Q->wpAny (model X.prog X.w) X.A (eval e X.env) (EP X pins U Q) X.xe s
def PT(X:Cx)(e:Expr)(t:TT):Prop:=
 ∀ (pins:List (Addr × Obj)) (s:Shared) (U:St) (H:Hp) (Q:Bool->Hp->Prop),Inv X pins U H s->t U H Q->wpAny (model X.prog X.w) X.A (isTrue e X.env (eval e X.env)) (TP X pins U Q) X.xe s
def PW(X:Cx)(e:Expr)(t:TT):Prop:=
 ∀ (whole:Sem Value) (pins:List (Addr × Obj)) (s:Shared) (U:St) (H:Hp) (Q:Bool->Hp->Prop),Inv X pins U H s->t U H Q->wpAny (model X.prog X.w) X.A (isTrue e X.env whole) (TP X pins U Q) X.xe s
theorem PW.pt(h:PW X e t):PT X e t:=h _
def PA(X:Cx)(es:List Expr)(t:TA):Prop:=
 ∀ (pos:Pos) (pins:List (Addr × Obj)) (s:Shared) (U:St) (H:Hp) (Q:List V->Hp->Prop),Inv X pins U H s->t U H Q->wpAny (model X.prog X.w) X.A (spliced (backTo pos (starEach es X.env))) (AP X pins U Q) X.xe s
def PS(X:Cx)(st:Stmt)(t:TS):Prop:=
 ∀ (pins:List (Addr × Obj)) (s:Shared) (U:St) (H:Hp) (D:Ends),Inv X pins U H s->t D U H->wpAny (model X.prog X.w) X.A (exec st X.env) (SP X pins D) X.xe s
def PSs(X:Cx)(st:List Stmt)(t:TS):Prop:=
 ∀ (pins:List (Addr × Obj)) (s:Shared) (U:St) (H:Hp) (D:Ends),Inv X pins U H s->t D U H->wpAny (model X.prog X.w) X.A (execs st X.env) (SP X pins D) X.xe s
theorem thn(h:wpAny M A t Q E s)(hQ:∀ a s,Q a s->Q' a s):wpAny M A t Q' E s:=wpAny_mono h hQ fun _ _ x=>x
end L2
namespace L2
open PySem PySem.Spec PyProof.Rows
section
variable{X:Cx}
def RX(o:Option (Option V))(P:V->Prop):Prop:=match o with
 | some (some v)=>P v
 | _=>False
theorem RX.old(h:RX o P):∃ v,o=some (some v)/\P v:=by
 match o,h with
 | some (some v),h=>exact ⟨v,rfl,h⟩
def Vt(x:V)(P:Int->Prop):Prop:=match x with
 | .int c=>P c
 | _=>False
theorem Vt.old(h:Vt x P):∃ c,x= .int c/\P c:=by
 cases x <;> first | exact ⟨_,rfl,h⟩ | exact h.elim
def VN(x:V)(P:Addr->Prop):Prop:=match x with
 | .ref c=>P c
 | _=>False
theorem VN.old(h:VN x P):∃ c,x= .ref c/\P c:=by
 cases x <;> first | exact ⟨_,rfl,h⟩ | exact h.elim
def UF(i:Nat):TE:=fun U H Q=>RX U[i]? fun v=>Q v H
def tC(v:V):TE:=fun _ H Q=>Q v H
theorem LX(hN:X.N[i]?=some x)(hv:Vis X.env.scope x)(hd:(x==("__debug__" :Str))=false:=by decide)(hcd:(x==("__classdict__" :Str))=false:=by decide):PE X (.Name x pos) (UF i):=by
 intro pins s U H Q I h;replace h:=RX.old h;obtain ⟨v,e,h⟩:=h;obtain ⟨m,hn,hl⟩:=I.loc;obtain ⟨u,r,l⟩:=hl i x v hN e hv;have fin:EP X pins U Q u s:=⟨v,H,I,r,h⟩;rcases l with ⟨hk,hm⟩ | ⟨hk,c,hc,hcell⟩
 .exact wpAny_Name (wpAny_loadName_local I.ok.kind hk hn hm fin) hd
 .rcases hk with hk | hk
  .exact wpAny_Name (wpAny_loadName_cell I.ok.kind hk hc hcell fin) hd
  .exact wpAny_Name (wpAny_loadName_free I.ok.kind hk hc hcell fin hcd) hd
theorem ZG:PE X (.Constant (.int i) j pos) (tC (.int i)):=fun _ _ _ H _ I h=>wpAny_Constant_int ⟨.int i,H,I.tok _,⟨_,rfl⟩,h⟩
theorem UB:PE X (.Constant (.bool b) j pos) (tC (.bl b)):=fun _ _ _ H _ I h=>Constant_bool ⟨.bl b,H,I,rfl,h⟩
theorem VP:PE X (.Constant .none j pos) (tC .non):=fun _ _ _ H _ I h=>Constant_none ⟨.non,H,I,rfl,h⟩
theorem Zf:PE X (.Constant (.str x) j pos) (tC (.str x)):=fun _ _ _ H _ I h=>Calls.Constant_str ⟨.str x,H,I.tok _,⟨_,rfl⟩,h⟩
def Gl(X:Cx)(x:Str):Prop:=X.env.kindOf x=some .globalImplicit
theorem JQ(I:Inv X pins U H s)(hg:Gl X x)(hm:X.mg x=some u)(h:Q u s)(hd:(x==("__debug__" :Str))=false:=by decide):wpAny (model X.prog X.w) X.A (eval (.Name x pos) X.env) Q E s:=
 Calls.Name_function_global I.ok.kind hg (Calls.loadGlobal_global (by rw [I.ok.glob];exact I.mod.glob.keeps I.bk) hm h) hd
theorem U1(I:Inv X pins U H s)(hg:Gl X x)(hm:X.mg x=none)(hv:bootBuiltins x=some u)(h:Q u s)(hn:x≠"__name__" :=by decide)(hd:(x==("__debug__" :Str))=false:=by decide):wpAny (model X.prog X.w) X.A (eval (.Name x pos) X.env) Q E s:=by
 obtain ⟨mb,h1,h2⟩:=I.mod.blt;exact Calls.Name_function_global I.ok.kind hg (Calls.loadGlobal_builtin (by rw [I.ok.glob];exact I.mod.glob.keeps I.bk) hm (by rw [I.ok.blt];exact h1.keeps I.bk) ((h2 x hn).trans hv) h) hd
theorem Y3(hg:Gl X x)(hm:X.mg x=some u)(r:RelV v u)(hd:(x==("__debug__" :Str))=false:=by decide):PE X (.Name x pos) (tC v):=
 fun _ _ _ H _ I h=>JQ I hg hm ⟨v,H,I,r,h⟩ hd
theorem NM(hg:Gl X x)(hm:X.mg x=none)(hv:bootBuiltins x=some u)(r:RelV v u)(hn:x≠"__name__" :=by decide)(hd:(x==("__debug__" :Str))=false:=by decide):PE X (.Name x pos) (tC v):=
 fun _ _ _ H _ I h=>U1 I hg hm hv ⟨v,H,I,r,h⟩ hn hd
variable{a b:Expr}{ta tb:TE}{pos:Pos}
def PC(X:Cx)(op:CmpOp)(a b:Expr)(t:TE):Prop:=
 ∀ (pins:List (Addr × Obj)) (s:Shared) (U:St) (H:Hp) (Q:VK),Inv X pins U H s->t U H Q->
  wpAny (model X.prog X.w) X.A (eval a X.env) (fun v s₁=>wpAny (model X.prog X.w) X.A (eval b X.env) (fun u s₂=>wpAny (model X.prog X.w) X.A (compareOp op v u) (EP X pins U Q) X.xe s₂) X.xe s₁) X.xe s
def tB(t:TE):TT:=fun U H Q=>t U H fun x H1=> ∃ c,x= .bl c/\Q c H1
theorem V0(h:PC X op a b t)(h1:behindInMarks op b=false:=by first | exact nobehind _ (by decide) (by decide) | rfl):PT X (.Compare a [op] [b] pos) (tB t):=by
 intro pins s U H Q I hw;refine wpAny_isTrue_Compare1 (thn (h pins s U H _ I hw) fun v s1 h1=>thn h1 fun u s2 h2=>thn h2 fun c s3 ⟨x,H1,I1,r1,q1⟩=>?_) h1;obtain ⟨d,rfl,q⟩:=q1;cases r1;exact wpAny_truthy_bool ⟨H1,I1,q⟩
theorem YN(h:PE X e t)(he:∀ whole,isTrue e X.env whole=(do let v <-whole;standAt e.pos;holding [v] (truthy v)):=by intro _;rfl):PT X e (tB t):=by
 intro pins s U H Q I hw;refine isTrue_plain (thn (h pins s U H _ I hw) fun v s1 ⟨x,H1,I1,r1,q1⟩=>?_) (he _);obtain ⟨d,rfl,q⟩:=q1;cases r1;exact wpAny_truthy_bool ⟨H1,I1,q⟩
variable{rest:List Expr}
def O0(t u:TT):TT:=fun U H Q=>t U H fun c H1=>if c=true then u U H1 Q else Q false H1
def tOr(t u:TT):TT:=fun U H Q=>t U H fun c H1=>if c=true then Q true H1 else u U H1 Q
def Ov(t:TT):TT:=fun U H Q=>t U H fun c H1=>Q (!c) H1
theorem VT(ha:PT X a tA):PW X (.BoolOp .And [a] pos) tA:=by
 intro wh pins s U H Q I h;refine isTrue_and (thn (ha pins s U H Q I h) fun c s1 e=>?_)
 cases c with
 | true=>exact isTrue_and_nil e
 | false=>exact e
theorem VO(ha:PT X a tA):PW X (.BoolOp .Or [a] pos) tA:=by
 intro wh pins s U H Q I h;refine isTrue_or (thn (ha pins s U H Q I h) fun c s1 e=>?_)
 cases c with
 | false=>exact isTrue_or_nil e
 | true=>exact e
theorem Vn(ha:PT X a tA)(hb:PW X (.BoolOp .And (b::rest) pos) tB'):PW X (.BoolOp .And (a::b::rest) pos) (O0 tA tB'):=by
 intro wh pins s U H Q I h;refine isTrue_and (thn (ha pins s U H _ I h) fun c s1 ⟨H1,I1,q1⟩=>?_)
 cases c with
 | true=>exact hb wh pins s1 U H1 Q I1 q1
 | false=>exact ⟨H1,I1,q1⟩
theorem Vm(ha:PT X a tA)(hb:PW X (.BoolOp .Or (b::rest) pos) tB'):PW X (.BoolOp .Or (a::b::rest) pos) (tOr tA tB'):=by
 intro wh pins s U H Q I h;refine isTrue_or (thn (ha pins s U H _ I h) fun c s1 ⟨H1,I1,q1⟩=>?_)
 cases c with
 | true=>exact ⟨H1,I1,q1⟩
 | false=>exact hb wh pins s1 U H1 Q I1 q1
theorem Yk(ha:PT X a tA):PT X (.UnaryOp .Not a pos) (Ov tA):=by
 intro pins s U H Q I h;exact isTrue_not (ha pins s U H (fun c H1=>Q (!c) H1) I h)
def ON(ta tb:TE):TE:=fun U H Q=>ta U H fun x H1=> ∃ c,x= .bl c/\if c=true then tb U H1 Q else Q (.bl false) H1
def Ou(ta tb:TE):TE:=fun U H Q=>ta U H fun x H1=> ∃ c,x= .bl c/\if c=true then Q (.bl true) H1 else tb U H1 Q
def OG(ta:TE):TE:=fun U H Q=>ta U H fun x H1=> ∃ c,x= .bl c/\Q (.bl (!c)) H1
theorem UK(h:PE X a t):PE X (.BoolOp op [a] pos) t:=fun pins s U H Q I hw=>BoolOp_one (h pins s U H Q I hw)
theorem UL(ha:PE X a ta)(hb:PE X (.BoolOp .And (b::rest) pos) tb):PE X (.BoolOp .And (a::b::rest) pos) (ON ta tb):=by
 intro pins s U H Q I h;refine BoolOp_and (thn (ha pins s U H _ I h) fun v s1 ⟨x,H1,I1,r1,q1⟩=>?_);obtain ⟨c,rfl,q1⟩:=q1;cases r1;refine wpAny_truthy_bool ?_
 cases c with
 | true=>exact hb pins s1 U H1 Q I1 q1
 | false=>exact ⟨.bl false,H1,I1,rfl,q1⟩
theorem OU(ha:PE X a ta)(hb:PE X (.BoolOp .Or (b::rest) pos) tb):PE X (.BoolOp .Or (a::b::rest) pos) (Ou ta tb):=by
 intro pins s U H Q I h;refine BoolOp_or (thn (ha pins s U H _ I h) fun v s1 ⟨x,H1,I1,r1,q1⟩=>?_);obtain ⟨c,rfl,q1⟩:=q1;cases r1;refine wpAny_truthy_bool ?_
 cases c with
 | false=>exact hb pins s1 U H1 Q I1 q1
 | true=>exact ⟨.bl true,H1,I1,rfl,q1⟩
theorem LY(ha:PE X a ta):PE X (.UnaryOp .Not a pos) (OG ta):=by
 intro pins s U H Q I h;refine UnaryOp_ (thn (ha pins s U H _ I h) fun v s1 ⟨x,H1,I1,r1,q1⟩=>?_);obtain ⟨c,rfl,q1⟩:=q1;cases r1;exact not_of (wpAny_truthy_bool ⟨.bl (!c),H1,I1,rfl,q1⟩)
end
end L2
namespace L2
open PySem PySem.Spec PyProof.Rows
def SqL(K:W.Frag)(H:Hp)(a:Addr)(xs:List V):Prop:=
 Rd H a (.lst xs) \/
  ∃ (o:Obj) (its:Array Value) (n:Nat),K.lookup a=some o/\o.cls= .type "list" /\o.dict=none/\o.data= .seq its n/\its.size<=sizeLine/\Vals xs its.toList
def SqT(K:W.Frag)(H:Hp)(a:Addr)(xs:List V):Prop:=
 Rd H a (.tup xs) \/
  ∃ (o:Obj) (its:Array Value) (n:Nat),K.lookup a=some o/\o.cls= .type "tuple" /\o.data= .seq its n/\its.size<=sizeLine/\Vals xs its.toList
def PV:Value->Option V
 | .none=>some .non
 | .bool b=>some (.bl b)
 | .int i _=>some (.int i)
 | .str x _=>some (.str x)
 | .bytes b _=>some (.byt b)
 | .float b _=>some (.flt b)
 | .ref a=>some (.ref a)
 | .type n=>some (.ty n)
 | _=>none
theorem RelV.abs(r:RelV x u):PV u=some x:=by
 cases x with
 | non=>cases r;rfl
 | bl _=>cases r;rfl
 | int _=>obtain ⟨t,rfl⟩:=r;rfl
 | str _=>obtain ⟨t,rfl⟩:=r;rfl
 | byt _=>obtain ⟨t,rfl⟩:=r;rfl
 | flt _=>obtain ⟨t,rfl⟩:=r;rfl
 | ref _=>cases r;rfl
 | ty _=>cases r;rfl
theorem RelV.inj(r:RelV x u)(q:RelV y u):x=y:=Option.some.inj (r.abs.symm.trans q.abs)
theorem Vals.inj:∀ {xs ys:List V}{us:List Value},Vals xs us->Vals ys us->xs=ys
 | _,_,_, .nil, .nil=>rfl
 | _,_,_, .cons r t, .cons r' t'=>by rw [r.inj r',Vals.inj t t']
section
theorem SqL.of{K:W.Frag}(h:H a=some (.lst xs)):SqL K H a xs:= .inl (.inl h)
theorem SqT.of{K:W.Frag}(h:H a=some (.tup xs)):SqT K H a xs:= .inl (.inl h)
theorem Inv.list(I:Inv X pins U H s)(h:SqL X.K H a xs):∃ its:List Value,Vals xs its/\PlainL s.heap a its.toArray/\xs.length<=sizeLine:=by
 rcases h with h | ⟨o,its,n,hk,hc,hd,hs,hz,r⟩
 .obtain ⟨z,its,n,r,e⟩:=h.ok I.hok
  exact ⟨its,r,⟨_,n,e,rfl,rfl,rfl⟩,z⟩
 .refine ⟨its.toList,r,⟨o,n,I.kIn a o hk,hc,hd,by simpa using hs⟩,?_⟩
  have e:=r.length;simp only [Array.length_toList] at e;omega
theorem Inv.tuple(I:Inv X pins U H s)(h:SqT X.K H a xs):∃ its:List Value,Vals xs its/\IsTup s.heap a its.toArray/\xs.length<=sizeLine:=by
 rcases h with h | ⟨o,its,n,hk,hc,hs,hz,r⟩
 .obtain ⟨z,its,r,p⟩:=h.ok I.hok
  exact ⟨its,r,p.is,z⟩
 .refine ⟨its.toList,r,⟨o,I.kIn a o hk,hc,n,by simpa using hs⟩,?_⟩
  have e:=r.length;simp only [Array.length_toList] at e;omega
theorem Inv.list_inj(I:Inv X pins U H s)(h:SqL X.K H a xs)(h':SqL X.K H a ys):xs=ys:=by
 obtain ⟨its,r,⟨o,n,e,_,_,d⟩,_⟩:=I.list h;obtain ⟨its',r',⟨o',n',e',_,_,d'⟩,_⟩:=I.list h';rw [e] at e';cases e';rw [d] at d';injection d' with d1 _;have:its=its':=by simpa using congrArg Array.toList d1
 subst this;exact r.inj r'
theorem Inv.tuple_inj(I:Inv X pins U H s)(h:SqT X.K H a xs)(h':SqT X.K H a ys):xs=ys:=by
 obtain ⟨its,r,⟨o,e,_,n,d⟩,_⟩:=I.tuple h;obtain ⟨its',r',⟨o',e',_,n',d'⟩,_⟩:=I.tuple h';rw [e] at e';cases e';rw [d] at d';injection d' with d1 _;have:its=its':=by simpa using congrArg Array.toList d1
 subst this;exact r.inj r'
end
abbrev Cx.wish(X:Cx)(E:Value->Shared->Prop):Cx:={X with xe:=E}
abbrev Cx.nox(X:Cx):Cx:=X.wish fun _ _=>False
theorem Cx.Ok.wish{X:Cx}(ok:X.Ok)(E:Value->Shared->Prop):(X.wish E).Ok:=
 ⟨ok.mod,ok.kind,ok.glob,ok.blt,ok.above,ok.inj,ok.has,ok.cab,ok.hd,ok.frames,ok.stk,ok.exf,ok.bs,ok.bsz,ok.noex,ok.exfs,ok.funs,ok.frf⟩
theorem Cx.Ok.unwish{X:Cx}(ok:(X.wish E).Ok):X.Ok:=
 ⟨ok.mod,ok.kind,ok.glob,ok.blt,ok.above,ok.inj,ok.has,ok.cab,ok.hd,ok.frames,ok.stk,ok.exf,ok.bs,ok.bsz,ok.noex,ok.exfs,ok.funs,ok.frf⟩
section
theorem Inv.wish(I:Inv X pins U H s)(E:Value->Shared->Prop):Inv (X.wish E) pins U H s:=⟨I.ok.wish E,I.os,I.bare,I.base,I.loc,I.cell,I.free,I.freeC,I.pin,I.hok,I.len⟩
theorem Inv.unwish(I:Inv (X.wish E) pins U H s):Inv X pins U H s:=⟨I.ok.unwish,I.os,I.bare,I.base,I.loc,I.cell,I.free,I.freeC,I.pin,I.hok,I.len⟩
theorem SP.unwish(h:SP (X.wish E) pins D f s'):SP X pins D f s':=by
 cases f with
 | next=>obtain ⟨U',H',I,q⟩:=h;exact ⟨U',H',I.unwish,q⟩
 | brk=>obtain ⟨U',H',I,q⟩:=h;exact ⟨U',H',I.unwish,q⟩
 | cont=>obtain ⟨U',H',I,q⟩:=h;exact ⟨U',H',I.unwish,q⟩
 | ret u=>obtain ⟨v,U',H',I,r,q⟩:=h;exact ⟨v,U',H',I.unwish,r,q⟩
theorem PSs.nox{st:List Stmt}(h:PSs X.nox st t):PSs X st t:=fun pins s U H D I hw=>
 wpAny_mono (h pins s U H D (I.wish _) hw) (fun _ _ q=>q.unwish) fun _ _ z=>False.elim z
end
section
variable{st:Stmt}{rest:List Stmt}{t u:TS}{te:TE}
def OH:TS:=fun D U H=>D.nx U H
def ZQ(t u:TS):TS:=fun D U H=>t {D with nx:=u D} U H
theorem ZU:PSs X [] OH:=fun _ _ U H _ I h=>wpAny_execs_nil ⟨U,H,I,h⟩
theorem ZC(h1:PS X st t)(h2:PSs X rest u):PSs X (st::rest) (ZQ t u):=by
 intro pins s U H D I h;refine wpAny_execs_cons (thn (h1 pins s U H {D with nx:=u D} I h) fun f s1 q=>?_)
 cases f with
 | next=>
  obtain ⟨U',H',I',q⟩:=q;exact h2 pins s1 U' H' D I' q
 | ret v=>exact q
 | brk=>exact q
 | cont=>exact q
theorem ZH(h1:PS X st t):PSs X [st] t:=by
 intro pins s U H D I h;refine wpAny_execs_cons (thn (h1 pins s U H D I h) fun f s1 q=>?_)
 cases f with
 | next=>exact wpAny_execs_nil q
 | ret v=>exact q
 | brk=>exact q
 | cont=>exact q
theorem Inv.quiet(I:Inv X pins U H s):interactive X.env=false:=by simp [interactive,I.ok.kind]
def Kh(te:TE):TS:=fun D U H=>te U H fun _ H1=>D.nx U H1
theorem YC(he:PE X e te)(hs:swapsWith e none pos.line X.env=pure false:=by rfl):PS X (.Expr e pos) (Kh te):=by
 intro pins s U H D I h;exact wpAny_Expr_any (thn (he pins s U H _ I h) fun v s1 ⟨x,H1,I1,r1,q1⟩=>⟨U,H1,I1,q1⟩) I.quiet hs
def OD(te:TE):TS:=fun D U H=>te U H D.rt
theorem ZW(he:PE X e te):PS X (.Return (some e) pos) (OD te):=by
 intro pins s U H D I h;exact wpAny_Return_some (thn (he pins s U H _ I h) fun v s1 ⟨x,H1,I1,r1,q1⟩=>⟨x,U,H1,I1,r1,q1⟩)
def Zw(c:TT)(t u:TS):TS:=fun D U H=>c U H fun b H1=>if b=true then t D U H1 else u D U H1
theorem Zh(hc:PT X c tc)(ha:PSs X a t)(hb:PSs X b u):PS X (.If c a b pos) (Zw tc t u):=by
 intro pins s U H D I h;refine wpAny_If (thn (hc pins s U H _ I h) fun d s1 ⟨H1,I1,q1⟩=>?_)
 cases d with
 | true=>exact ha pins s1 U H1 D I1 q1
 | false=>exact hb pins s1 U H1 D I1 q1
end
abbrev TG:=V->St->Hp->(St->Hp->Prop)->Prop
abbrev TGs:=List V->St->Hp->(St->Hp->Prop)->Prop
def PG(X:Cx)(target:Expr)(t:TG):Prop:=
 ∀ (pins:List (Addr × Obj)) (s:Shared) (U:St) (H:Hp) (v:V) (u:Value) (Q:St->Hp->Prop),Inv X pins U H s->RelV v u->t v U H Q->
  wpAny (model X.prog X.w) X.A (assign target X.env u) (fun _ s'=> ∃ U' H',Inv X pins U' H' s'/\Q U' H') X.xe s
def PGs(X:Cx)(ts:List Expr)(t:TGs):Prop:=
 ∀ (pins:List (Addr × Obj)) (s:Shared) (U:St) (H:Hp) (vs:List V) (us:List Value) (Q:St->Hp->Prop),Inv X pins U H s->Vals vs us->t vs U H Q->
  wpAny (model X.prog X.w) X.A (assignInOrder ((assignEach ts X.env).map (·.2)) us) (fun _ s'=> ∃ U' H',Inv X pins U' H' s'/\Q U' H') X.xe s
abbrev Oo:=V->V->V->Hp->(Hp->Prop)->Prop
def Oq(X:Cx)(t:Oo):Prop:=
 ∀ (pins:List (Addr × Obj)) (s:Shared) (U:St) (H:Hp) (o i v:V) (ov iv u:Value) (Q:Hp->Prop),Inv X pins U H s->RelV o ov->RelV i iv->RelV v u->t o i v H Q->
  wpAny (model X.prog X.w) X.A (setItem ov iv u) (fun _ s'=> ∃ H',Inv X pins U H' s'/\Q H') X.xe s
abbrev TIp:=V->V->Hp->VK->Prop
def PIp(X:Cx)(op:Operator)(t:TIp):Prop:=
 ∀ (pins:List (Addr × Obj)) (s:Shared) (U:St) (H:Hp) (x y:V) (v u:Value) (Q:VK),Inv X pins U H s->RelV x v->RelV y u->t x y H Q->
  wpAny (model X.prog X.w) X.A (inplaceOp op v u) (EP X pins U Q) X.xe s
section
variable{X:Cx}
def Yi(i:Nat):TG:=fun v U H Q=>Q (U.set i (some v)) H
theorem ZO(i:Nat)(hN:X.N.Nodup)(hi:X.N[i]?=some x:=by exact rfl)(hx:Loc X.env.scope x:=by exact Or.inl rfl)(hf:X.fn x=true \/ X.env.scope.names.lookup x=some .local:=by first | exact .inl rfl | exact .inr rfl | assumption):PG X (.Name x pos) (Yi i):=by
 intro pins s U H v u Q I r h;exact wpAny_assign_Name (UT I hN hi hx r (fun s' I'=>⟨_,H,I',h⟩) hf)
def Ml:TGs:=fun vs U H Q=>match vs with
 | []=>Q U H
 | _=>False
theorem Ml.old(h:Ml vs U H Q):vs= []/\Q U H:=by
 match vs,h with
 | [],h=>exact ⟨rfl,h⟩
def Jp(t:TG)(u:TGs):TGs:=fun vs U H Q=>match vs with
 | v::r=>t v U H fun U' H'=>u r U' H' Q
 | _=>False
theorem Jp.old(h:Jp t u vs U H Q):∃ v r,vs=v::r/\t v U H fun U' H'=>u r U' H' Q:=by
 match vs,h with
 | v::r,h=>exact ⟨v,r,rfl,h⟩
theorem Z9:PGs X [] Ml:=by
 intro pins s U H vs us Q I r h;replace h:=Ml.old h;obtain ⟨e,h⟩:=h;subst e;cases r;exact assignInOrder_nil ⟨U,H,I,h⟩
theorem Zc(h1:PG X e t)(h2:PGs X es u)(hs:(assignEach (e::es) X.env).map (·.2)=assign e X.env::(assignEach es X.env).map (·.2):=by rfl):PGs X (e::es) (Jp t u):=by
 intro pins s U H vs us Q I r h;replace h:=Jp.old h;obtain ⟨v,vr,e1,h⟩:=h;subst e1
 cases r with
 | cons r rr=>
  rw [hs];refine assignInOrder_cons (thn (h1 pins s U H _ _ _ I r h) fun _ s1 ⟨σ1,H1,I1,q1⟩=>?_);exact h2 pins s1 σ1 H1 _ _ Q I1 rr q1
def KB(K:W.Frag)(n:Nat)(t:TGs):TG:=fun v U H Q=>VN v fun a=> ∃ xs,SqT K H a xs/\xs.length=n/\t xs U H Q
theorem YR(hc:X.calm=true)(h:PGs X es t)(hn:(assignEach es X.env).length=n:=by rfl)(hst:(assignEach es X.env).findIdx? (·.1)=none:=by rfl):PG X (.Tuple es k pos) (KB X.K n t):=by
 intro pins s U H v u Q I r hw;replace hw:=VN.old hw;obtain ⟨a,e1,xs,hq,hl,hw⟩:=hw;subst e1;cases r;obtain ⟨its,rv,ht,hz⟩:=I.tuple hq;refine assign_Tuple_tuple (I.ok.hd hc) ht (by simp [hn,<-hl,rv.length]) hst fun h' hx=>?_;have I1:Inv X pins U H {s with heap:=h'}:=I.kept (t':=s.toks) fun b o e=>hx b o (Nat.ne_of_lt (Heap.lt_size e)) e;exact h pins _ U H xs _ Q I1 (by simpa using rv) hw
def PN(to ti:TE)(t:Oo):TG:=fun v U H Q=>to U H fun o H1=>ti U H1 fun i H2=>t o i v H2 fun H3=>Q U H3
theorem WD(ho:PE X o to)(hi:PE X i ti)(hs:Oq X t)(ha:∀ v,assign (.Subscript o i pos) X.env v=(do
   let ov <-holding [v] (eval o X.env)
   let iv <-holding [v,ov] (eval i X.env)
   standAt pos
   holding [v,ov,iv] (setItem ov iv v)
   release [v,ov,iv] []):=by intro _;rfl):PG X (.Subscript o i pos) (PN to ti t):=by
 intro pins s U H v u Q I r h;rw [ha];refine wpAny_bind (wpAny_holding (thn (ho pins s U H _ I h) fun ov s1 ⟨x,H1,I1,r1,q1⟩=>?_));refine wpAny_bind (wpAny_holding (thn (hi pins s1 U H1 _ I1 q1) fun iv s2 ⟨y,H2,I2,r2,q2⟩=>?_));refine wpAny_bind (wpAny_standAt (wpAny_bind (wpAny_holding (thn (hs pins s2 U H2 x y v ov iv u _ I2 r1 r2 r q2) fun _ s3 ⟨H3,I3,q3⟩=>?_))));exact wpAny_release ⟨U,H3,I3,q3⟩
def Re(te:TE)(g:TG):TS:=fun D U H=>te U H fun x H1=>g x U H1 D.nx
theorem Vo(he:PE X e te)(hg:PG X tg g)(hs:swapsWithSole [tg] e pos.line X.env=pure false:=by rfl)(hw:swappedStores [tg] e X.env=pure none:=by rfl)(h1:(assignEach [tg] X.env).map (·.2)= [assign tg X.env]:=by rfl):PS X (.Assign [tg] e pos) (Re te g):=by
 intro pins s U H D I h;refine wpAny_Assign_stores (thn (he pins s U H _ I h) fun v s1 ⟨x,H1,I1,r1,q1⟩=>?_) hs hw;rw [h1];exact thn (hg pins s1 U H1 x v _ I1 r1 q1) fun _ s2 q=>q
theorem ZZ(i:Nat)(hN:X.N.Nodup)(he:PE X e te)(hi:X.N[i]?=some x:=by exact rfl)(hx:Loc X.env.scope x:=by exact Or.inl rfl)(hs:swapsWith e (some (.Name x pos')) pos.line X.env=pure false:=by rfl)(hf:X.fn x=true \/ X.env.scope.names.lookup x=some .local:=by first | exact .inl rfl | exact .inr rfl | assumption):
  PS X (.Assign [.Name x pos'] e pos) (Re te (Yi i)):=by
 intro pins s U H D I h;refine wpAny_Assign_Name (thn (he pins s U H _ I h) fun v s1 ⟨y,H1,I1,r1,q1⟩=>?_) hs;exact UT I1 hN hi hx r1 (fun s2 I2=>⟨_,H1,I2,q1⟩) hf
def Oz(i:Nat)(te:TE)(ti:TIp):TS:=fun D U H=> ∃ x,U[i]?=some (some x)/\te U H fun y H1=>ti x y H1 fun z H2=>D.nx (U.set i (some z)) H2
theorem Dk(hN:X.N.Nodup)(hi:X.N[i]?=some x)(hx:Loc X.env.scope x)(he:PE X e te)(ho:PIp X op ti)(hf:X.fn x=true \/ X.env.scope.names.lookup x=some .local:=by first | exact .inl rfl | exact .inr rfl | assumption):
  PS X (.AugAssign (.Name x pos') op e pos) (Oz i te ti):=by
 intro pins s U H D I h;obtain ⟨v,e1,h⟩:=h;obtain ⟨m,hn,hl⟩:=I.loc;have vis:Vis X.env.scope x:=by rcases hx with k | k;exact .inl k;exact .inr (.inl k)
 obtain ⟨u,r,l⟩:=hl i x v hi e1 vis;refine wpAny_AugAssign_Name ?_
 have go:wpAny (model X.prog X.w) X.A (eval e X.env) (fun w s₂=>wpAny (model X.prog X.w) X.A (inplaceOp op u w) (fun r s₃=>wpAny (model X.prog X.w) X.A (storeName X.env x r) (fun _=>SP X pins D .next) X.xe s₃) X.xe s₂) X.xe s:=by
  refine thn (he pins s U H _ I h) fun w s1 ⟨y,H1,I1,r1,q1⟩=>?_;refine thn (ho pins s1 U H1 v y u w _ I1 r r1 q1) fun z s2 ⟨zv,H2,I2,r2,q2⟩=>?_;exact UT I2 hN hi hx r2 (fun s3 I3=>⟨_,H2,I3,q2⟩) hf
 rcases l with ⟨hk,hm⟩ | ⟨hk,c,hc,hcell⟩
 .exact wpAny_loadName_local I.ok.kind hk hn hm go
 .rcases hk with hk | hk
  .exact wpAny_loadName_cell I.ok.kind hk hc hcell go
  .rcases hx with k | k
   .have:X.env.scope.names.lookup x=some .free:=hk
    rw [k] at this;cases this
   .have:X.env.scope.names.lookup x=some .free:=hk
    rw [k] at this;cases this
end
structure It where
 go:Nat->Hp->Prop
 yld:Nat->Hp->V->Hp->Prop
 stop:Nat->Hp->Prop
def Vh(X:Cx)(pins:List (Addr × Obj))(H:Hp)(b:Addr):Prop:=
 H b=none/\b≠X.env.locals/\b ∉ X.fs/\(b∈X.ex \/ X.s₀.heap.objs.size<=b)/\(∀ x c,X.env.cells.lookup x=some c->c≠b)/\∀ p∈X.pn++ pins,p.1≠b
theorem Inv.fpOk(I:Inv X pins U H s)(hb:s.heap.objs.size<=b)(hn:H' b=none):Vh X pins H' b:=by
 refine ⟨hn,Nat.ne_of_gt (Nat.lt_of_lt_of_le I.lt hb),I.nofs hb, .inr (Nat.le_trans I.sz hb),fun x c e z=>?_,fun p hp z=>?_⟩
 .obtain ⟨v,q⟩:=I.cell x c e
  exact absurd (Nat.lt_of_lt_of_le q.lt (by rw [z];exact hb)) (Nat.lt_irrefl _)
 .exact absurd (Nat.lt_of_lt_of_le (Heap.lt_size (I.pin p hp).1) (by rw [z];exact hb)) (Nat.lt_irrefl _)
structure Turn(P:Program)(w:World)(K:W.Frag)(tg:Expr)(J:It)(fp:List Addr)(it:Addr)(tn:Nat->Heap->Prop):Prop where
 mem:it∈fp
 obj:∀ i h,tn i h->∀ b∈fp,∃ o,h.get? b=some o/\∀ v,o.data≠ .cell v
 keep:∀ i h h',tn i h->(∀ b∈fp,∀ o,h.get? b=some o->h'.get? b=some o)->tn i h'
 item:∀ (X:Cx),X.prog=P->X.w=w->X.K=K->X.calm=true->∀ (i:Nat) (pins:List (Addr × Obj)) (s:Shared) (U:St) (H:Hp) (E:Value->Shared->Prop),Inv X pins U H s->(∀ b∈fp,Vh X pins H b)->tn i s.heap->J.go i H->
  wpAny (model P w) X.A (pyNext (.ref it)) (fun r s1=> ∃ u,r=some u/\
   wpAny (model P w) X.A (letOwnedTupleGo tg (.ref it) u) (fun _ s2=> ∃ x H',Inv X pins U H' s2/\RelV x u/\J.yld i H x H'/\tn (i + 1) s2.heap/\∀ b∈fp,H' b=none) E s1) E s
 done:∀ (X:Cx),X.prog=P->X.w=w->X.K=K->X.calm=true->∀ (i:Nat) (pins:List (Addr × Obj)) (s:Shared) (U:St) (H:Hp) (E:Value->Shared->Prop),Inv X pins U H s->(∀ b∈fp,Vh X pins H b)->tn i s.heap->J.stop i H->
  wpAny (model P w) X.A (pyNext (.ref it)) (fun r s1=>r=none/\Inv X pins U H s1) E s
 self:∀ (A:Around) (i:Nat) (s:Shared) (Q:Value->Shared->Prop) (E:Value->Shared->Prop),tn i s.heap->Q (.ref it) s->wpAny (model P w) A (pyIter (.ref it)) Q E s
abbrev TI:=St->Hp->(It->Hp->Prop)->Prop
def PIE(X:Cx)(pins:List (Addr × Obj))(U:St)(tg:Expr)(R:It->Hp->Prop)(itv:Value)(s2:Shared):Prop:=
 ∃ (it:Addr) (fp:List Addr) (tn:Nat->Heap->Prop) (J:It) (H':Hp),itv= .ref it/\Inv X pins U H' s2/\Turn X.prog X.w X.K tg J fp it tn/\tn 0 s2.heap/\(∀ b∈fp,Vh X pins H' b)/\R J H'
def PI(X:Cx)(tg iter:Expr)(wi:TI):Prop:=
 ∀ (pins:List (Addr × Obj)) (s:Shared) (U:St) (H:Hp) (R:It->Hp->Prop),Inv X pins U H s->wi U H R->
  wpAny (model X.prog X.w) X.A (eval iter X.env) (fun v s1=>wpAny (model X.prog X.w) X.A (pyIter v) (PIE X pins U tg R) X.xe s1) X.xe s
theorem En(ho:s.heap.get? it=some o)(hc:o.cls= .type n)(hd:o.data= .fields vs)(hn: ["enumerate","zip","dict_itemiterator","dict_reverseitemiterator","odict_iterator","itertools.zip_longest","itertools.pairwise"].contains n=false)(hQ:Q () s):wpAny M A (letOwnedTupleGo tg (.ref it) u) Q E s:=by
  unfold letOwnedTupleGo;cases tg <;> first
    | exact wpAny_pure hQ
    | (cases u <;> first
        | exact wpAny_pure hQ
        | (refine wpAny_bind (wpAny_load ho ?_)
           rw [hc,hd];show wpAny M A (if (["enumerate","zip","dict_itemiterator","dict_reverseitemiterator","odict_iterator","itertools.zip_longest","itertools.pairwise"].contains n && vs[0]?==some (rawInt _))=true then _ else _) Q E s;rw [if_neg (by intro h;rw [hn,Bool.false_and] at h;cases h)];exact wpAny_pure hQ))
def Itl(K:W.Frag)(a:Addr):It:=
 ⟨fun i H=> ∃ xs x,SqL K H a xs/\xs[i]?=some x,fun i H x H'=>H'=H/\∀ xs,SqL K H a xs->xs[i]?=some x,fun i H=> ∃ xs,SqL K H a xs/\xs.length<=i⟩
def Itt(K:W.Frag)(a:Addr):It:=
 ⟨fun i H=> ∃ xs x,SqT K H a xs/\xs[i]?=some x,fun i H x H'=>H'=H/\∀ xs,SqT K H a xs->xs[i]?=some x,fun i H=> ∃ xs,SqT K H a xs/\xs.length<=i⟩
def Itr(lo:Int)(n:Nat):It:=⟨fun i _=>i < n,fun i H x H'=>H'=H/\x= .int (lo + i),fun i _=>n<=i⟩
theorem Nm{P:Program}{w:World}{K:W.Frag}{tg:Expr}(a it:Addr):Turn P w K tg (Itl K a) [it] it (fun i h=>h.IsListIter it a i) where
 mem:=by simp
 obj:=fun i h st b hb=>by
  have e:b=it:=by simpa using hb
  subst e;obtain ⟨o,e,c,d⟩:=st;exact ⟨o,e,fun v z=>by rw [d] at z;cases z⟩
 keep:=fun i h h' st k=>st.at fun o e=>k it (by simp) o e
 item:=by
  intro X hP hw hK hc i pins s U H E I hf st hg;subst hP hw hK;obtain ⟨xs,x,hq,hx⟩:=hg;obtain ⟨its,rv,p,hz⟩:=I.list hq;obtain ⟨u,hu,ru⟩:=rv.get hx;obtain ⟨f0,f1,f2,f3,f4,f5⟩:=hf it (by simp);refine wpAny_pyNext_list_item st p.isList (x:=u) (by simpa using hu) fun h' st' sb=>?_;have I1:Inv X pins U H {s with heap:=h'}:=I.turned (t':=s.toks) (fun b o hb e=>(sb.2 b hb).trans e) f0 f1 f3 f4 f5;obtain ⟨o,e,c,d⟩:=id st';exact ⟨u,rfl,En (s:={s with heap:=h'}) e c d (by decide) ⟨x,H,I1,ru,⟨rfl,fun ys hy=>by rw [I.list_inj hy hq];exact hx⟩,st',fun b hb=>(hf b hb).1⟩⟩
 done:=by
  intro X hP hw hK hc i pins s U H E I hf st hg;subst hP hw hK;obtain ⟨xs,hq,hx⟩:=hg;obtain ⟨its,rv,p,hz⟩:=I.list hq;obtain ⟨f0,f1,f2,f3,f4,f5⟩:=hf it (by simp);have hl:=rv.length;exact wpAny_pyNext_list_end (I.ok.hd hc) st p.isList (by simp;omega) fun h' eb=>⟨rfl,I.turned (t':=s.toks) (fun b o hb e=>eb b o hb e) f0 f1 f3 f4 f5⟩
 self:=fun _ _ _ _ _ st h=>wpAny_pyIter_listiter st h
theorem RY{P:Program}{w:World}{K:W.Frag}{tg:Expr}(a it:Addr):Turn P w K tg (Itt K a) [it] it (fun i h=>h.IsTupleIter it a i) where
 mem:=by simp
 obj:=fun i h st b hb=>by
  have e:b=it:=by simpa using hb
  subst e;obtain ⟨o,e,c,d⟩:=st;exact ⟨o,e,fun v z=>by rw [d] at z;cases z⟩
 keep:=fun i h h' st k=>st.at fun o e=>k it (by simp) o e
 item:=by
  intro X hP hw hK hc i pins s U H E I hf st hg;subst hP hw hK;obtain ⟨xs,x,hq,hx⟩:=hg;obtain ⟨its,rv,p,hz⟩:=I.tuple hq;obtain ⟨u,hu,ru⟩:=rv.get hx;obtain ⟨f0,f1,f2,f3,f4,f5⟩:=hf it (by simp);refine wpAny_pyNext_tuple_item st (show s.heap.IsTuple a its.toArray from p) (x:=u) (by simpa using hu) fun h' st' sb=>?_;have I1:Inv X pins U H {s with heap:=h'}:=I.turned (t':=s.toks) (fun b o hb e=>(sb.2 b hb).trans e) f0 f1 f3 f4 f5;obtain ⟨o,e,c,d⟩:=id st';exact ⟨u,rfl,En (s:={s with heap:=h'}) e c d (by decide) ⟨x,H,I1,ru,⟨rfl,fun ys hy=>by rw [I.tuple_inj hy hq];exact hx⟩,st',fun b hb=>(hf b hb).1⟩⟩
 done:=by
  intro X hP hw hK hc i pins s U H E I hf st hg;subst hP hw hK;obtain ⟨xs,hq,hx⟩:=hg;obtain ⟨its,rv,p,hz⟩:=I.tuple hq;obtain ⟨f0,f1,f2,f3,f4,f5⟩:=hf it (by simp);have hl:=rv.length;exact wpAny_pyNext_tuple_end (I.ok.hd hc) st (show s.heap.IsTuple a its.toArray from p) (by simp;omega) fun h' eb=>⟨rfl,I.turned (t':=s.toks) (fun b o hb e=>eb b o hb e) f0 f1 f3 f4 f5⟩
 self:=fun _ _ _ _ _ st h=>wpAny_pyIter_tupleiter st h
theorem RZ{P:Program}{w:World}{K:PySem.W.Frag}{tg:Expr}(it:Addr)(lo:Int)(n:Nat):Turn P w K tg (Itr lo n) [it] it (fun i h=>IsRangeIter h it (lo + (i:Nat) * 1) ((n:Int) - (i:Nat)) 1) where
 mem:=by simp
 obj:=fun i h st b hb=>by
  have e:b=it:=by simpa using hb
  subst e
  exact ⟨_,st,fun v z=>by
   have z':Data.fields _=Data.cell v:=z;cases z'⟩
 keep:=fun i h h' st k=>k it (by simp) _ st
 item:=by
  intro X hP hw hK hc i pins s U H E I hf st hg;subst hP hw hK;obtain ⟨f0,f1,f2,f3,f4,f5⟩:=hf it (by simp);have W:=Walks.range (prog:=X.prog) (w:=X.w) (I.ok.hd hc) it lo 1 n;refine W.item i s _ _ hg st fun v h' tk hv st' kk=>?_;obtain ⟨t,rfl⟩:=hv;have I1:Inv X pins U H {s with heap:=h',toks:=tk}:=I.turned (fun b o hb e=>kk b o (by simpa using hb) e) f0 f1 f3 f4 f5;refine ⟨_,rfl,En (s:={s with heap:=h',toks:=tk}) (n:="range_iterator") st' rfl rfl (by decide) ⟨.int (lo + i),H,I1,⟨t,?_⟩,⟨rfl,rfl⟩,st',fun b hb=>(hf b hb).1⟩⟩;rw [Int.mul_one]
 done:=by
  intro X hP hw hK hc i pins s U H E I hf st hg;subst hP hw hK;obtain ⟨f0,f1,f2,f3,f4,f5⟩:=hf it (by simp);exact wpAny_pyNext_range_end (I.ok.hd hc) st (by have:n<=i:=hg;omega) fun h' eb=>⟨rfl,I.turned (t':=s.toks) (fun b o hb e=>eb b o hb e) f0 f1 f3 f4 f5⟩
 self:=fun _ _ _ _ _ st h=>wpAny_pyIter_rangeiter st h
end L2
namespace L2
open PySem PySem.Spec PyProof.Rows
section
def NW(K:W.Frag)(tl:TE):TI:=fun U H R=>tl U H fun x H1=>VN x fun a=>(∃ xs,SqL K H1 a xs)/\R (Itl K a) H1
def PH(K:W.Frag)(tl:TE):TI:=fun U H R=>tl U H fun x H1=>VN x fun a=>(∃ xs,SqT K H1 a xs)/\R (Itt K a) H1
theorem Z6(hl:PE X l tl):PI X tg l (NW X.K tl):=by
 intro pins s U H R I h;refine thn (hl pins s U H _ I h) fun v s1 ⟨x,H1,I1,r1,q1⟩=>?_;replace q1:=VN.old q1;obtain ⟨a,e,⟨xs,hq⟩,q⟩:=q1;subst e;cases r1;obtain ⟨its,rv,p,hz⟩:=I1.list hq;refine wpAny_pyIter_list p.isList ?_;refine ⟨s1.heap.objs.size, [s1.heap.objs.size],_,_,H1,rfl,I1.kept (t':=s1.toks) fun b o e=>Heap.get?_push_of_some _ e,Nm a _,⟨_,Heap.get?_push_size _ rfl,rfl,rfl⟩,fun b hb=>?_,q⟩;have e:b=s1.heap.objs.size:=by simpa using hb
 subst e;exact I1.fpOk (Nat.le_refl _) (I1.hok.fresh (Nat.le_refl _))
theorem Vc(hl:PE X l tl):PI X tg l (PH X.K tl):=by
 intro pins s U H R I h;refine thn (hl pins s U H _ I h) fun v s1 ⟨x,H1,I1,r1,q1⟩=>?_;replace q1:=VN.old q1;obtain ⟨a,e,⟨xs,hq⟩,q⟩:=q1;subst e;cases r1;obtain ⟨its,rv,p,hz⟩:=I1.tuple hq;refine wpAny_pyIter_tuple (show s1.heap.IsTuple a its.toArray from p) ?_;refine ⟨s1.heap.objs.size, [s1.heap.objs.size],_,_,H1,rfl,I1.kept (t':=s1.toks) fun b o e=>Heap.get?_push_of_some _ e,RY a _,⟨_,Heap.get?_push_size _ rfl,rfl,rfl⟩,fun b hb=>?_,q⟩;have e:b=s1.heap.objs.size:=by simpa using hb
 subst e;exact I1.fpOk (Nat.le_refl _) (I1.hok.fresh (Nat.le_refl _))
theorem Dg{lo hi:Int}(I:Inv X pins U H s)(h1: -(2 ^ 62)<=lo)(h2:lo < 2 ^ 62)(h3: -(2 ^ 62)<=hi)(h4:hi < 2 ^ 62)(q:R (Itr lo (hi - lo).toNat) H):wpAny (model X.prog X.w) X.A (pyIter (.ref s.heap.objs.size)) (PIE X pins U tg R) E {s with heap:=s.heap.push {cls:= .type "range",data:= .fields #[.int lo t, .int hi u, .int 1 v]},toks:=tk}:=by
 refine wpAny_pyIter_range (IsRange.new ..) (small_one h1 h2 h3 h4) ?_;have I1:Inv X pins U H {s with heap:=s.heap.push {cls:= .type "range",data:= .fields #[.int lo t, .int hi u, .int 1 v]},toks:=tk}:=I.kept fun b o e=>Heap.get?_push_of_some _ e;refine ⟨(s.heap.push {cls:= .type "range",data:= .fields #[.int lo t, .int hi u, .int 1 v]}).objs.size, [(s.heap.push {cls:= .type "range",data:= .fields #[.int lo t, .int hi u, .int 1 v]}).objs.size],_,_,H,rfl,
  I1.kept (t':=tk) fun b o e=>Heap.get?_push_of_some _ e,RZ _ lo (hi - lo).toNat,?_,fun b hb=>?_,q⟩
 .have e1:lo + ((0:Nat):Int) * 1=lo:=by simp
  have e2:(((hi - lo).toNat:Nat):Int) - ((0:Nat):Int)=Builtin.Range.rangeSize lo hi 1:=by rw [rangeSize_one];split <;> omega
  show IsRangeIter _ _ (lo + ((0:Nat):Int) * 1) ((((hi - lo).toNat:Nat):Int) - ((0:Nat):Int)) 1;rw [e1,e2];exact Heap.get?_push_size _ rfl
 .have e:b=(s.heap.push {cls:= .type "range",data:= .fields #[.int lo t, .int hi u, .int 1 v]}).objs.size:=by simpa using hb
  subst e;exact I1.fpOk (Nat.le_refl _) (I1.hok.fresh (Nat.le_refl _))
def Oe(ta:TA):TI:=fun U H R=>ta U H fun vs H1=> ∃ j:Int,vs= [.int j]/\ -(2 ^ 62)<=j/\j < 2 ^ 62/\R (Itr 0 j.toNat) H1
theorem JA(hg:Gl X "range")(hm:X.mg "range" =none)(ha:PA X [a] ta)(hs:starEach [a] X.env= [(false,eval a X.env)]:=by rfl):PI X tg (.Call (.Name "range" p) [a] [] pos) (Oe ta):=by
 intro pins s U H R I h;refine Call_ (U1 I hg hm boot_range (PyProof.Rows.callWith_type1 (thn (ha pos pins s U H _ I h) fun us s1 ⟨vs,H1,I1,r1,q1⟩=>?_) hs rfl));obtain ⟨j,e,q1,q2,q⟩:=q1;subst e
 cases r1 with
 | cons r rr=>
  cases rr;obtain ⟨t,rfl⟩:=r;exact call_range_1 (Dg I1 (by omega) (by omega) q1 q2 (by simpa using q))
def VX(wi:TI)(g:TG)(tb:TS):TS:=fun D U H=>wi U H fun J H1=> ∃ W:Nat->Nat->St->Hp->Prop,(∃ m,W 0 m U H1)/\∀ i m U H,W i m U H->
 (J.stop i H/\D.nx U H) \/ (J.go i H/\∃ N:St->Hp->Prop,(∀ U' H',N U' H'->∃ m',m' < m/\W (i + 1) m' U' H')/\∀ x H',J.yld i H x H'->g x U H' fun σ2 H2=>tb {D with nx:=N,ct:=N,bk:=D.nx} σ2 H2)
def Z1(fp:List Addr)(h:Heap):List (Addr × Obj):=fp.filterMap fun b=>(h.get? b).map fun o=>(b,o)
theorem YU(hb:b∈fp)(e:h.get? b=some o):(b,o)∈Z1 fp h:=List.mem_filterMap.mpr ⟨b,hb,by rw [e];rfl⟩
theorem J0(hp:p∈Z1 fp h):p.1∈fp/\h.get? p.1=some p.2:=by
 obtain ⟨b,hb,e⟩:=List.mem_filterMap.mp hp
 cases q:h.get? b with
 | none=>rw [q] at e;cases e
 | some o=>
  rw [q] at e;have e':(b,o)=p:=Option.some.inj e;subst e';exact ⟨hb,q⟩
theorem Inv.pinned(I:Inv X pins U H s)(hf:∀ b∈fp,Vh X pins H b)(ho:∀ b∈fp,∃ o,s.heap.get? b=some o/\∀ v,o.data≠ .cell v):Inv X (pins++ Z1 fp s.heap) U H s:=
 I.pins_of fun p hp=>(List.mem_append.mp hp).elim (fun z=>I.pin p (List.mem_append_right _ z)) fun z=>by
  obtain ⟨hb,e⟩:=J0 z;obtain ⟨f0,f1,f2,_⟩:=hf p.1 hb;obtain ⟨o,e',d⟩:=ho p.1 hb;rw [e] at e';cases e';exact ⟨e,f0,f1,f2,d⟩
theorem Inv.unpinned(I:Inv X (pins++ pl) U H s):Inv X pins U H s:=I.pins_of fun p hp=>I.pin p (List.mem_append_right _ (List.mem_append_left _ hp))
theorem YO(hp:PassesOwn (model X.prog X.w) X.A X.env X.xe)(hc:X.calm=true)(hi:PI X tg iter wi)(hg:PG X tg g)(hb:PSs X body tb)(hs:∀ x,foldedSetIterable iter X.env x=pure x:=by intro _;rfl):PS X (.For tg iter body [] pos) (VX wi g tb):=by
 intro pins s U H D I h;refine wpAny_For (thn (hi pins s U H _ I h) fun v s1 h1=>thn h1 fun itv s2 h2=>?_) hs;obtain ⟨it,fp,tn,J,H2,e,I2,T,st2,f2,W,⟨m0,w0⟩,turn⟩:=h2;subst e;have stat:∀ {H':Hp},(∀ b∈fp,H' b=none)->∀ b∈fp,Vh X pins H' b:=fun hn b hb=>⟨hn b hb,(f2 b hb).2⟩;refine codeAny_forLoop_any (fun n s'=> ∃ i U' H',Inv X pins U' H' s'/\tn i s'.heap/\(∀ b∈fp,H' b=none)/\W i n U' H') ?_ m0 ⟨0,U,H2,I2,st2,fun b hb=>(f2 b hb).1,w0⟩;rintro n s3 ⟨i,σ3,H3,I3,st3,fr3,w3⟩;rcases turn i n σ3 H3 w3 with ⟨stop,qn⟩ | ⟨go,N,hN,step⟩
 .refine wpAny_passesOwn hp (thn (T.done X rfl rfl rfl hc i pins s3 σ3 H3 X.xe I3 (stat fr3) st3 stop) fun r s4 ⟨hr,I4⟩=>?_)
  subst hr;exact wpAny_execs_nil ⟨σ3,H3,I4,qn⟩
 .refine wpAny_passesOwn hp (thn (T.item X rfl rfl rfl hc i pins s3 σ3 H3 X.xe I3 (stat fr3) st3 go) fun r s4 ⟨u,hr,h4⟩=>?_)
  subst hr;refine wpAny_passesOwn hp (thn h4 fun _ s5 ⟨x,H5,I5,r5,y5,st5,fr5⟩=>?_);have I5':=I5.pinned (stat fr5) (T.obj _ _ st5);refine wpAny_passesOwn hp (thn (hg _ s5 σ3 H5 x u _ I5' r5 (step x H5 y5)) fun _ s6 ⟨σ6,H6,I6,q6⟩=>?_);refine wpAny_passesOwn hp (thn (hb _ s6 σ6 H6 _ I6 q6) fun f s7 q7=>?_)
  have again:∀ {σ7:St}{H7:Hp},Inv X (pins++ Z1 fp s5.heap) σ7 H7 s7->N σ7 H7->∃ m,m < n/\∃ i U' H',Inv X pins U' H' s7/\tn i s7.heap/\(∀ b∈fp,H' b=none)/\W i m U' H':=fun {σ7 H7} I7 n7=>by
   obtain ⟨m',hm,w7⟩:=hN σ7 H7 n7;refine ⟨m',hm,i + 1,σ7,H7,I7.unpinned,T.keep _ _ _ st5 fun b hb o e=>(I7.pin (b,o) (List.mem_append_right _ (List.mem_append_right _ (YU hb e)))).1,fun b hb=>?_,w7⟩;obtain ⟨o,e,d⟩:=T.obj _ _ st5 b hb;exact (I7.pin (b,o) (List.mem_append_right _ (List.mem_append_right _ (YU hb e)))).2.1
  cases f with
  | next=>obtain ⟨σ7,H7,I7,n7⟩:=q7;exact again I7 n7
  | cont=>obtain ⟨σ7,H7,I7,n7⟩:=q7;exact again I7 n7
  | brk=>obtain ⟨σ7,H7,I7,q7⟩:=q7;exact ⟨σ7,H7,I7.unpinned,q7⟩
  | ret v=>obtain ⟨x7,σ7,H7,I7,r7,q7⟩:=q7;exact ⟨x7,σ7,H7,I7.unpinned,r7,q7⟩
end
theorem Ew{K:PySem.W.Frag}{g:TG}{tb:TS}{D:Ends}(Pv:Nat->St->Hp->Prop)(h0:Pv 0 U H)(hl:∀ i U H,i<=xs.length->Pv i U H->SqL K H a xs)(hs:∀ i x U H,xs[i]?=some x->Pv i U H->g x U H fun σ2 H2=>tb {D with nx:=Pv (i + 1),ct:=Pv (i + 1),bk:=D.nx} σ2 H2)(hd:∀ U H,Pv xs.length U H->D.nx U H):
  ∃ W:Nat->Nat->St->Hp->Prop,(∃ m,W 0 m U H)/\∀ i m U H,W i m U H->
   ((Itl K a).stop i H/\D.nx U H) \/ ((Itl K a).go i H/\∃ N:St->Hp->Prop,(∀ U' H',N U' H'->∃ m',m' < m/\W (i + 1) m' U' H')/\∀ x H',(Itl K a).yld i H x H'->g x U H' fun σ2 H2=>tb {D with nx:=N,ct:=N,bk:=D.nx} σ2 H2):=by
 refine ⟨fun i m U H=>m=xs.length - i/\i<=xs.length/\Pv i U H,⟨xs.length,by simp,Nat.zero_le _,h0⟩,?_⟩;rintro i m U H ⟨rfl,hi,p⟩;have q:=hl i U H hi p
 by_cases hlt:i < xs.length
 .refine .inr ⟨⟨xs,xs[i],q,by simp [hlt]⟩,Pv (i + 1),fun U' H' p'=>⟨xs.length - (i + 1),by omega,rfl,hlt,p'⟩,fun x H' y=>?_⟩
  obtain ⟨e,y⟩:=y;subst e;exact hs i x U _ (y xs q) p
 .have e:i=xs.length:=by omega
  subst e;exact .inl ⟨⟨xs,q,Nat.le_refl _⟩,hd U H p⟩
theorem KE{K:PySem.W.Frag}{g:TG}{tb:TS}{D:Ends}(Pv:Nat->St->Hp->Prop)(h0:Pv 0 U H)(hl:∀ i U H,i<=xs.length->Pv i U H->SqT K H a xs)(hs:∀ i x U H,xs[i]?=some x->Pv i U H->g x U H fun σ2 H2=>tb {D with nx:=Pv (i + 1),ct:=Pv (i + 1),bk:=D.nx} σ2 H2)(hd:∀ U H,Pv xs.length U H->D.nx U H):
  ∃ W:Nat->Nat->St->Hp->Prop,(∃ m,W 0 m U H)/\∀ i m U H,W i m U H->
   ((Itt K a).stop i H/\D.nx U H) \/ ((Itt K a).go i H/\∃ N:St->Hp->Prop,(∀ U' H',N U' H'->∃ m',m' < m/\W (i + 1) m' U' H')/\∀ x H',(Itt K a).yld i H x H'->g x U H' fun σ2 H2=>tb {D with nx:=N,ct:=N,bk:=D.nx} σ2 H2):=by
 refine ⟨fun i m U H=>m=xs.length - i/\i<=xs.length/\Pv i U H,⟨xs.length,by simp,Nat.zero_le _,h0⟩,?_⟩;rintro i m U H ⟨rfl,hi,p⟩;have q:=hl i U H hi p
 by_cases hlt:i < xs.length
 .refine .inr ⟨⟨xs,xs[i],q,by simp [hlt]⟩,Pv (i + 1),fun U' H' p'=>⟨xs.length - (i + 1),by omega,rfl,hlt,p'⟩,fun x H' y=>?_⟩
  obtain ⟨e,y⟩:=y;subst e;exact hs i x U _ (y xs q) p
 .have e:i=xs.length:=by omega
  subst e;exact .inl ⟨⟨xs,q,Nat.le_refl _⟩,hd U H p⟩
theorem BV{lo:Int}{g:TG}{tb:TS}{D:Ends}(Pv:Nat->St->Hp->Prop)(h0:Pv 0 U H)(hs:∀ i U H,i < n->Pv i U H->g (.int (lo + i)) U H fun σ2 H2=>tb {D with nx:=Pv (i + 1),ct:=Pv (i + 1),bk:=D.nx} σ2 H2)(hd:∀ U H,Pv n U H->D.nx U H):
  ∃ W:Nat->Nat->St->Hp->Prop,(∃ m,W 0 m U H)/\∀ i m U H,W i m U H->
   ((Itr lo n).stop i H/\D.nx U H) \/ ((Itr lo n).go i H/\∃ N:St->Hp->Prop,(∀ U' H',N U' H'->∃ m',m' < m/\W (i + 1) m' U' H')/\∀ x H',(Itr lo n).yld i H x H'->g x U H' fun σ2 H2=>tb {D with nx:=N,ct:=N,bk:=D.nx} σ2 H2):=by
 refine ⟨fun i m U H=>m=n - i/\i<=n/\Pv i U H,⟨n,by simp,Nat.zero_le _,h0⟩,?_⟩;rintro i m U H ⟨rfl,hi,p⟩
 by_cases hlt:i < n
 .refine .inr ⟨hlt,Pv (i + 1),fun U' H' p'=>⟨n - (i + 1),by omega,rfl,hlt,p'⟩,fun x H' y=>?_⟩
  obtain ⟨e,y⟩:=y;subst e y;exact hs i U _ hlt p
 .have e:i=n:=by omega
  subst e;exact .inl ⟨Nat.le_refl _,hd U H p⟩
end L2
namespace L2
open PySem PySem.Spec PyProof.Rows
abbrev R2:=V->V->Hp->VK->Prop
def OpR(X:Cx)(f:Value->Value->Sem Value)(r:R2):Prop:=
 ∀ (pins:List (Addr × Obj)) (s:Shared) (U:St) (H:Hp) (x y:V) (v u:Value) (Q:VK),Inv X pins U H s->RelV x v->RelV y u->r x y H Q->
  wpAny (model X.prog X.w) X.A (f v u) (EP X pins U Q) X.xe s
def UnR(X:Cx)(f:Value->Sem Value)(r:V->Hp->VK->Prop):Prop:=
 ∀ (pins:List (Addr × Obj)) (s:Shared) (U:St) (H:Hp) (x:V) (v:Value) (Q:VK),Inv X pins U H s->RelV x v->r x H Q->
  wpAny (model X.prog X.w) X.A (f v) (EP X pins U Q) X.xe s
def Y9(X:Cx)(f:Value)(r:List V->Hp->VK->Prop):Prop:=
 ∀ (pins:List (Addr × Obj)) (s:Shared) (U:St) (H:Hp) (xs:List V) (us:List Value) (Q:VK),Inv X pins U H s->Vals xs us->r xs H Q->
  wpAny (model X.prog X.w) X.A (call f us) (EP X pins U Q) X.xe s
def tOp(r:R2)(ta tb:TE):TE:=fun U H Q=>ta U H fun x H1=>tb U H1 fun y H2=>r x y H2 Q
def tUn(r:V->Hp->VK->Prop)(ta:TE):TE:=fun U H Q=>ta U H fun x H1=>r x H1 Q
def rI(C:Int->Int->Prop)(g:Int->Int->V):R2:=fun x y H Q=>Vt x fun i=>Vt y fun j=>C i j/\Q (g i j) H
theorem rI.old(h:rI C g x y H Q):∃ i j,x= .int i/\y= .int j/\C i j/\Q (g i j) H:=by
 replace h:=Vt.old h;obtain ⟨i,e,h⟩:=h;replace h:=Vt.old h;obtain ⟨j,e',h⟩:=h;exact ⟨i,j,e,e',h⟩
def rI0(g:Int->Int->V):R2:=fun x y H Q=>Vt x fun i=>Vt y fun j=>Q (g i j) H
theorem rI0.old(h:rI0 g x y H Q):∃ i j,x= .int i/\y= .int j/\Q (g i j) H:=by
 replace h:=Vt.old h;obtain ⟨i,e,h⟩:=h;replace h:=Vt.old h;obtain ⟨j,e',h⟩:=h;exact ⟨i,j,e,e',h⟩
def rU(g:Int->V):V->Hp->VK->Prop:=fun x H Q=> ∃ i,x= .int i/\Q (g i) H
section
theorem L4(ha:PE X a ta)(hb:PE X b tb){R:V->V->Hp->Prop}(I:Inv X pins U H s)(h:ta U H fun x H1=>tb U H1 fun y H2=>R x y H2){f:Value->Value->Sem Value}(hf:∀ v u s2 x y H2,Inv X pins U H2 s2->RelV x v->RelV y u->R x y H2->wpAny (model X.prog X.w) X.A (f v u) Q X.xe s2):
  wpAny (model X.prog X.w) X.A (eval a X.env) (fun v s₁=>wpAny (model X.prog X.w) X.A (eval b X.env) (fun u s₂=>wpAny (model X.prog X.w) X.A (f v u) Q X.xe s₂) X.xe s₁) X.xe s:=by
 refine thn (ha pins s U H _ I h) fun v s1 ⟨x,H1,I1,r1,q1⟩=>?_;refine thn (hb pins s1 U H1 _ I1 q1) fun u s2 ⟨y,H2,I2,r2,q2⟩=>?_;exact hf v u s2 x y H2 I2 r1 r2 q2
theorem Zi(ho:OpR X (binaryOp op) r)(ha:PE X a ta)(hb:PE X b tb):PE X (.BinOp a op b pos) (tOp r ta tb):=by
 intro pins s U H Q I h;exact wpAny_BinOp (L4 ha hb I h fun v u s2 x y H2 I2 rx ry q=>ho pins s2 U H2 x y v u Q I2 rx ry q)
theorem Kp(ho:UnR X (unaryOp op) r)(ha:PE X a ta):PE X (.UnaryOp op a pos) (tUn r ta):=by
 intro pins s U H Q I h;exact UnaryOp_ (thn (ha pins s U H _ I h) fun v s1 ⟨x,H1,I1,r1,q1⟩=>ho pins s1 U H1 x v Q I1 r1 q1)
theorem opI{g:Int->Int->Int}(rule:∀ (i j:Int) (t u:Tok) (s:Shared) (Q:Value->Shared->Prop) (E:Value->Shared->Prop),C i j->Q (.int (g i j) s.toks) {s with toks:=s.toks + 1}->wpAny (model X.prog X.w) X.A (f (.int i t) (.int j u)) Q E s):
  OpR X f (rI C fun i j=> .int (g i j)):=by
 intro pins s U H x y v u Q I rx ry h;replace h:=rI.old h;obtain ⟨i,j,rfl,rfl,hc,q⟩:=h;obtain ⟨t,rfl⟩:=rx;obtain ⟨t',rfl⟩:=ry;exact rule i j t t' s _ _ hc ⟨.int (g i j),H,I.tok _,⟨_,rfl⟩,q⟩
theorem LZ{g:Int->Int->Int}(rule:∀ (i j:Int) (t u:Tok) (s:Shared) (Q:Value->Shared->Prop) (E:Value->Shared->Prop),Q (.int (g i j) s.toks) {s with toks:=s.toks + 1}->wpAny (model X.prog X.w) X.A (f (.int i t) (.int j u)) Q E s):
  OpR X f (rI0 fun i j=> .int (g i j)):=by
 intro pins s U H x y v u Q I rx ry h;replace h:=rI0.old h;obtain ⟨i,j,rfl,rfl,q⟩:=h;obtain ⟨t,rfl⟩:=rx;obtain ⟨t',rfl⟩:=ry;exact rule i j t t' s _ _ ⟨.int (g i j),H,I.tok _,⟨_,rfl⟩,q⟩
theorem IN{g:Int->Int->Bool}(rule:∀ (i j:Int) (t u:Tok) (s:Shared) (Q:Value->Shared->Prop) (E:Value->Shared->Prop),Q (.bool (g i j)) s->wpAny (model X.prog X.w) X.A (f (.int i t) (.int j u)) Q E s):
  OpR X f (rI0 fun i j=> .bl (g i j)):=by
 intro pins s U H x y v u Q I rx ry h;replace h:=rI0.old h;obtain ⟨i,j,rfl,rfl,q⟩:=h;obtain ⟨t,rfl⟩:=rx;obtain ⟨t',rfl⟩:=ry;exact rule i j t t' s _ _ ⟨.bl (g i j),H,I,rfl,q⟩
def PZ(i j:Int):Prop:=0 < j/\j < 1073741824
def Os(i j:Int):Prop:=0<=j/\j<=1000000/\i.natAbs < 2 ^ 64
def Ke(i j:Int):Prop:=(-(2 ^ 64) < i/\i < 2 ^ 64) \/ (-(2 ^ 64) < j/\j < 2 ^ 64)
theorem Ke.ok(h:Ke i j):IntMulOk i j:=by
 rcases h with ⟨h1,h2⟩ | ⟨h1,h2⟩
 .exact .of_left (intBits_le_64 h1 h2)
 .exact .of_right (intBits_le_64 h1 h2)
theorem YT:OpR X (binaryOp .Add) (rI0 fun i j=> .int (i + j)):=LZ fun _ _ _ _ _ _ _ q=>add_int q
theorem Vp:OpR X (binaryOp .Sub) (rI0 fun i j=> .int (i - j)):=LZ fun _ _ _ _ _ _ _ q=>sub_int q
theorem VE:OpR X (binaryOp .Mult) (rI Ke fun i j=> .int (i * j)):=opI fun _ _ _ _ _ _ _ hc q=>mul_int q hc.ok
theorem NN:OpR X (binaryOp .FloorDiv) (rI PZ fun i j=> .int (i / j)):=opI fun i j _ _ _ _ _ hc q=>by
 have h1:(0:Int) < j:=hc.1;have h2:j < 1073741824:=hc.2;exact floordiv_int (by omega) (by rw [Int.fdiv_eq_ediv_of_nonneg i (by omega)];exact q) (.inl (PyProof.noPylong_small (by omega)))
theorem Vq:OpR X (binaryOp .Mod) (rI (fun _ j=>0 < j) fun i j=> .int (i % j)):=opI fun i j _ _ _ _ _ hc q=>by
 have h1:(0:Int) < j:=hc;exact mod_int' (by omega) (by rw [Int.fmod_eq_emod_of_nonneg i (by omega)];exact q)
theorem Ds:OpR X (binaryOp .Pow) (rI Os fun i j=> .int (i ^ j.toNat)):=opI fun _ _ _ _ _ _ _ hc q=>pow_int_small hc.1 hc.2.1 hc.2.2 q
theorem Ip:OpR X (inplaceOp .Add) (rI0 fun i j=> .int (i + j)):=LZ fun _ _ _ _ _ _ _ q=>iadd_int q
theorem Io:OpR X (inplaceOp .Mult) (rI Ke fun i j=> .int (i * j)):=opI fun _ _ _ _ _ _ _ hc q=>imul_int q hc.ok
theorem unI{g:Int->Int}(rule:∀ (i:Int) (t:Tok) (s:Shared) (Q:Value->Shared->Prop) (E:Value->Shared->Prop),Q (.int (g i) s.toks) {s with toks:=s.toks + 1}->wpAny (model X.prog X.w) X.A (f (.int i t)) Q E s):
  UnR X f (rU fun i=> .int (g i)):=by
 intro pins s U H x v Q I rx h;obtain ⟨i,rfl,q⟩:=h;obtain ⟨t,rfl⟩:=rx;exact rule i t s _ _ ⟨.int (g i),H,I.tok _,⟨_,rfl⟩,q⟩
theorem Bm:UnR X (unaryOp .USub) (rU fun i=> .int (-i)):=unI fun _ _ _ _ _ q=>neg_int q
end
def OO:V->V->Bool
 | .non, .non=>true | .non, .int _=>true | .int _, .non=>true | .non, .bl _=>true | .bl _, .non=>true | .non, .str _=>true | .str _, .non=>true
 | .int _, .int _=>true | .bl _, .bl _=>true | .str _, .str _=>true | .byt _, .byt _=>true
 | .int _, .str _=>true | .str _, .int _=>true | .bl _, .str _=>true | .str _, .bl _=>true
 | _,_=>false
def rEq:R2:=fun x y H Q=>OO x y=true/\Q (.bl (decide (x=y))) H
def rNe:R2:=fun x y H Q=>OO x y=true/\Q (.bl (!decide (x=y))) H
theorem TZ:decide (V.int i=V.int j)=(i==j):=by
 rw [Bool.eq_iff_iff];simp
theorem Mq:decide (V.bl i=V.bl j)=(i==j):=by
 rw [Bool.eq_iff_iff];simp
theorem TY:decide (V.str i=V.str j)=(i==j):=by
 rw [Bool.eq_iff_iff];simp
theorem Ng:decide (V.byt i=V.byt j)=(i.toList==j.toList):=by
 rw [Bool.eq_iff_iff];cases i;cases j;simp
section
variable{a b c:Expr}{ta tb tc:TE}
theorem Z2(I:Inv X pins U H s)(q:Q (.bl k) H)(e:k=k'):EP X pins U Q (.bool k') s:=by
 subst e;exact ⟨.bl k,H,I,rfl,q⟩
theorem YL:OpR X (compareOp .Eq) rEq:=by
 intro pins s U H x y v u Q I rx ry h;obtain ⟨hs,q⟩:=h
 cases x with
 | non=>
  cases rx
  cases y with
  | non=>cases ry;exact PySem.EqNone.eq_none_none (Z2 I q (by simp))
  | bl j=>cases ry;exact PySem.EqNone.eq_none_bool (Z2 I q (by simp))
  | int j=>obtain ⟨t',rfl⟩:=ry;exact PySem.EqNone.eq_none_int (Z2 I q (by simp))
  | str j=>obtain ⟨t',rfl⟩:=ry;exact PySem.EqNone.eq_none_str (Z2 I q (by simp))
  | _=>exact absurd (show false=true from hs) Bool.false_ne_true
 | bl i=>
  cases rx
  cases y with
  | non=>cases ry;exact PySem.EqNone.eq_bool_none (Z2 I q (by simp))
  | bl j=>cases ry;exact eq_bool (Z2 I q Mq)
  | str j=>obtain ⟨t',rfl⟩:=ry;exact PySem.EqMixed.eq_bool_str (Z2 I q (by simp))
  | _=>exact absurd (show false=true from hs) Bool.false_ne_true
 | int i=>
  obtain ⟨t,rfl⟩:=rx
  cases y with
  | non=>cases ry;exact PySem.EqNone.eq_int_none (Z2 I q (by simp))
  | int j=>obtain ⟨t',rfl⟩:=ry;exact eq_int (Z2 I q TZ)
  | str j=>obtain ⟨t',rfl⟩:=ry;exact PySem.EqMixed.eq_int_str (Z2 I q (by simp))
  | _=>exact absurd (show false=true from hs) Bool.false_ne_true
 | str i=>
  obtain ⟨t,rfl⟩:=rx
  cases y with
  | non=>cases ry;exact PySem.EqNone.eq_str_none (Z2 I q (by simp))
  | bl j=>cases ry;exact PySem.EqMixed.eq_str_bool (Z2 I q (by simp))
  | int j=>obtain ⟨t',rfl⟩:=ry;exact PySem.EqMixed.eq_str_int (Z2 I q (by simp))
  | str j=>obtain ⟨t',rfl⟩:=ry;exact eq_str (Z2 I q TY)
  | _=>exact absurd (show false=true from hs) Bool.false_ne_true
 | byt i=>
  obtain ⟨t,rfl⟩:=rx
  cases y with
  | byt j=>obtain ⟨t',rfl⟩:=ry;exact W.eq_bytes (Z2 I q Ng)
  | _=>exact absurd (show false=true from hs) Bool.false_ne_true
 | _=>cases y <;> exact absurd (show false=true from hs) Bool.false_ne_true
theorem XF:OpR X (compareOp .NotEq) rNe:=by
 intro pins s U H x y v u Q I rx ry h;obtain ⟨hs,q⟩:=h
 cases x with
 | non=>
  cases rx
  cases y with
  | non=>cases ry;exact PySem.EqNone.ne_none_none (Z2 I q (by simp))
  | bl j=>cases ry;exact PySem.EqNone.ne_none_bool (Z2 I q (by simp))
  | int j=>obtain ⟨t',rfl⟩:=ry;exact PySem.EqNone.ne_none_int (Z2 I q (by simp))
  | str j=>obtain ⟨t',rfl⟩:=ry;exact PySem.EqNone.ne_none_str (Z2 I q (by simp))
  | _=>exact absurd (show false=true from hs) Bool.false_ne_true
 | bl i=>
  cases rx
  cases y with
  | non=>cases ry;exact PySem.EqNone.ne_bool_none (Z2 I q (by simp))
  | bl j=>cases ry;exact ne_bool (Z2 I q (congrArg not Mq))
  | str j=>obtain ⟨t',rfl⟩:=ry;exact PySem.EqMixed.ne_bool_str (Z2 I q (by simp))
  | _=>exact absurd (show false=true from hs) Bool.false_ne_true
 | int i=>
  obtain ⟨t,rfl⟩:=rx
  cases y with
  | non=>cases ry;exact PySem.EqNone.ne_int_none (Z2 I q (by simp))
  | int j=>obtain ⟨t',rfl⟩:=ry;exact ne_int (Z2 I q (congrArg not TZ))
  | str j=>obtain ⟨t',rfl⟩:=ry;exact PySem.EqMixed.ne_int_str (Z2 I q (by simp))
  | _=>exact absurd (show false=true from hs) Bool.false_ne_true
 | str i=>
  obtain ⟨t,rfl⟩:=rx
  cases y with
  | non=>cases ry;exact PySem.EqNone.ne_str_none (Z2 I q (by simp))
  | bl j=>cases ry;exact PySem.EqMixed.ne_str_bool (Z2 I q (by simp))
  | int j=>obtain ⟨t',rfl⟩:=ry;exact PySem.EqMixed.ne_str_int (Z2 I q (by simp))
  | str j=>obtain ⟨t',rfl⟩:=ry;exact ne_str (Z2 I q (congrArg not TY))
  | _=>exact absurd (show false=true from hs) Bool.false_ne_true
 | byt i=>
  obtain ⟨t,rfl⟩:=rx
  cases y with
  | byt j=>obtain ⟨t',rfl⟩:=ry;exact W.ne_bytes (Z2 I q (congrArg not Ng))
  | _=>exact absurd (show false=true from hs) Bool.false_ne_true
 | _=>cases y <;> exact absurd (show false=true from hs) Bool.false_ne_true
theorem Wo:OpR X (compareOp .Lt) (rI0 fun i j=> .bl (decide (i < j))):=IN fun _ _ _ _ _ _ _ q=>lt_int q
theorem XG:OpR X (compareOp .LtE) (rI0 fun i j=> .bl (decide (i<=j))):=IN fun _ _ _ _ _ _ _ q=>le_int q
theorem Jl:OpR X (compareOp .Gt) (rI0 fun i j=> .bl (decide (j < i))):=IN fun _ _ _ _ _ _ _ q=>gt_int q
theorem Kq:OpR X (compareOp .GtE) (rI0 fun i j=> .bl (decide (j<=i))):=IN fun _ _ _ _ _ _ _ q=>ge_int q
theorem N3:OpR X (compareOp .In) (fun x y H Q=> ∃ i j,x= .str i/\y= .str j/\Q (.bl (!(Builtin.Str.occurrences j i 0 j.length 1).isEmpty)) H):=by
 intro pins s U H x y v u Q I rx ry h;obtain ⟨i,j,rfl,rfl,q⟩:=h;obtain ⟨t,rfl⟩:=rx;obtain ⟨t',rfl⟩:=ry;exact in_str (Z2 I q rfl)
theorem Uy:OpR X (compareOp .Is) (fun x y H Q=>y= .non/\Q (.bl (decide (x= .non))) H):=by
 intro pins s U H x y v u Q I rx ry h;obtain ⟨rfl,q⟩:=h;cases ry;refine is_none_gen (Z2 I q ?_);cases x <;> first
  | (cases rx;rfl)
  | (obtain ⟨t,rfl⟩:=rx;rfl)
theorem OpR.or(h:OpR X f r)(h':OpR X f r'):OpR X f (fun x y H Q=>r x y H Q \/ r' x y H Q):=by
 intro pins s U H x y v u Q I rx ry q;rcases q with q | q
 .exact h pins s U H x y v u Q I rx ry q
 .exact h' pins s U H x y v u Q I rx ry q
theorem Zb(b:Expr)(h:op≠ .In:=by decide)(h2:op≠ .NotIn:=by decide):behindInMarks op b=false:=by
 have e1:(op==CmpOp.In)=false:=by cases op <;> first | rfl | exact absurd rfl h
 have e2:(op==CmpOp.NotIn)=false:=by cases op <;> first | rfl | exact absurd rfl h2
 cases b <;> simp [behindInMarks,e1,e2]
theorem Y4(ho:OpR X (compareOp op) r)(ha:PE X a ta)(hb:PE X b tb)(hm:behindInMarks op b=false):PE X (.Compare a [op] [b] pos) (tOp r ta tb):=by
 intro pins s U H Q I h;exact wpAny_Compare1 (L4 ha hb I h fun v u s2 x y H2 I2 rx ry q=>ho pins s2 U H2 x y v u Q I2 rx ry q) hm
def Kf(t:TE):TT:=fun U H Q=>t U H fun x H'=> ∃ k,x= .bl k/\Q k H'
theorem ZV(ho:OpR X (compareOp op) r)(ha:PE X a ta)(hb:PE X b tb)(hm:behindInMarks op b=false):PT X (.Compare a [op] [b] pos) (Kf (tOp r ta tb)):=by
 intro pins s U H Q I h
 refine wpAny_isTrue_Compare1 (thn (ha pins s U H _ I h) fun v s1 ⟨x,H1,I1,r1,q1⟩=>thn (hb pins s1 U H1 _ I1 q1) fun u s2 ⟨y,H2,I2,r2,q2⟩=>
  thn (ho pins s2 U H2 x y v u _ I2 r1 r2 q2) fun c s3 ⟨z,H3,I3,r3,k,e,q3⟩=>?_) hm
 subst e;cases r3;exact wpAny_truthy_bool ⟨H3,I3,q3⟩
def Bs(r r':R2)(ta tb tc:TE):TE:=fun U H Q=>ta U H fun x H1=>tb U H1 fun y H2=>r x y H2 fun z H3=> ∃ k,z= .bl k/\
 (if k=true then tc U H3 fun w' H4=>r' y w' H4 Q else Q (.bl false) H3)
theorem Do(ho:OpR X (compareOp op) r)(ho':OpR X (compareOp op') r')(ha:PE X a ta)(hb:PE X b tb)(hc:PE X c tc)(hm:lastMarks [op,op'] [b,c]=false:=by with_unfolding_all rfl):PE X (.Compare a [op,op'] [b,c] pos) (Bs r r' ta tb tc):=by
 intro pins s U H Q I h
 refine Compare_chain (thn (ha pins s U H _ I h) fun v s1 ⟨x,H1,I1,r1,q1⟩=>chain_link (thn (hb pins s1 U H1 _ I1 q1) fun u s2 ⟨y,H2,I2,r2,q2⟩=>
  thn (ho pins s2 U H2 x y v u _ I2 r1 r2 q2) fun d s3 ⟨z,H3,I3,r3,k,e,q3⟩=>?_)) hm
 subst e;cases r3;refine wpAny_truthy_bool ?_
 cases k with
 | false=>exact ite_ff ⟨.bl false,H3,I3,rfl,q3⟩
 | true=>exact ite_tt (chain_last (thn (hc pins s3 U H3 _ I3 q3) fun w' s4 ⟨z',H4,I4,r4,q4⟩=>ho' pins s4 U H4 y z' u w' Q I4 r2 r4 q4))
theorem T3(ho:OpR X (compareOp op) r)(ho':OpR X (compareOp op') r')(ha:PE X a ta)(hb:PE X b tb)(hc:PE X c tc)(hm:lastMarks [op,op'] [b,c]=false:=by with_unfolding_all rfl):PT X (.Compare a [op,op'] [b,c] pos) (Kf (Bs r r' ta tb tc)):=by
 intro pins s U H Q I h
 refine isTrue_chain (thn (ha pins s U H _ I h) fun v s1 ⟨x,H1,I1,r1,q1⟩=>test_link (thn (hb pins s1 U H1 _ I1 q1) fun u s2 ⟨y,H2,I2,r2,q2⟩=>
  thn (ho pins s2 U H2 x y v u _ I2 r1 r2 q2) fun d s3 ⟨z,H3,I3,r3,k,e,q3⟩=>?_)) hm
 subst e;cases r3;refine wpAny_truthy_bool ?_
 cases k with
 | false=>
  obtain ⟨k',e',q'⟩:=q3;cases e';exact ite_ff ⟨H3,I3,q'⟩
 | true=>
  refine ite_tt (test_last (thn (hc pins s3 U H3 _ I3 q3) fun w' s4 ⟨z',H4,I4,r4,q4⟩=>thn (ho' pins s4 U H4 y z' u w' _ I4 r2 r4 q4) fun d' s5 ⟨z2,H5,I5,r5,k2,e2,q5⟩=>?_));subst e2;cases r5;exact wpAny_truthy_bool ⟨H5,I5,q5⟩
theorem U0:(sizeLine:Nat) < 2 ^ 63:=by rw [sizeLine_eq];decide
theorem JO:OpR X (binaryOp .Add) (fun x y H Q=> ∃ i j,x= .str i/\y= .str j/\i.length + j.length<=sizeLine/\Q (.str (i++ j)) H):=by
 intro pins s U H x y v u Q I rx ry h;obtain ⟨i,j,rfl,rfl,hz,q⟩:=h;obtain ⟨t,rfl⟩:=rx;obtain ⟨t',rfl⟩:=ry;exact add_str (fun t' tk=>⟨.str (i++ j),H,I.tok _,⟨_,rfl⟩,q⟩) hz
theorem vals1(r:Vals [x] us):∃ u,us= [u]/\RelV x u:=by
 cases r with
 | cons r1 r2=>cases r2;exact ⟨_,rfl,r1⟩
theorem vals2(r:Vals [x,y] us):∃ u w',us= [u,w']/\RelV x u/\RelV y w':=by
 cases r with
 | cons r1 r2=>
  cases r2 with
  | cons r3 r4=>cases r4;exact ⟨_,_,rfl,r1,r3⟩
theorem U7(hc:X.calm=true):Y9 X (.builtin "max") (fun xs H Q=> ∃ i j,xs= [.int i, .int j]/\Q (.int (if j > i then j else i)) H):=by
 intro pins s U H xs us Q I r h;obtain ⟨i,j,rfl,q⟩:=h;obtain ⟨u,w',rfl,⟨t,rfl⟩,⟨t',rfl⟩⟩:=vals2 r;refine max_two_ints (I.ok.hd hc) fun h' tk k=>⟨_,H,I.kept k,?_,q⟩
 by_cases hj:j > i
 .rw [if_pos hj,if_pos hj];exact ⟨_,rfl⟩
 .rw [if_neg hj,if_neg hj];exact ⟨_,rfl⟩
theorem Bf(hc:X.calm=true):Y9 X (.builtin "min") (fun xs H Q=> ∃ i j,xs= [.int i, .int j]/\Q (.int (if j < i then j else i)) H):=by
 intro pins s U H xs us Q I r h;obtain ⟨i,j,rfl,q⟩:=h;obtain ⟨u,w',rfl,⟨t,rfl⟩,⟨t',rfl⟩⟩:=vals2 r;refine min_two_ints (I.ok.hd hc) fun h' tk k=>⟨_,H,I.kept k,?_,q⟩
 by_cases hj:j < i
 .rw [if_pos hj,if_pos hj];exact ⟨_,rfl⟩
 .rw [if_neg hj,if_neg hj];exact ⟨_,rfl⟩
end
end L2
namespace L2
open PySem PySem.Spec PyProof.Rows
structure Mv(h:Heap)(x dx C:Addr)(mA:Str->Option Value):Prop where
 obj:h.get? x=some (W.instObj C dx)
 ns:h.Ns1 dx mA
 ne:dx≠x
set_option tactic.hygienic true in
theorem BN{h:Heap}(n:h.Ns1 dx mA):∃ od,h.get? dx=some od/\∀ name,W.lookIn name od=some (mA name):=by
 obtain ⟨o,es,ep,ho,hd,hk,_,hm⟩:=n;refine ⟨o,ho,fun name=>?_⟩;have e:=hm name;unfold nsFind findBy at e;rw [<-Array.find?_toList] at e;unfold W.lookIn;rw [hd];dsimp only
 split
 .rename_i y q
  rw [q] at e;exact congrArg some e
 .rename_i q
  rw [q] at e
  have a:es.toList.any (·.refKey)=false:=by
   rw [List.any_eq_false];intro y hy;obtain ⟨z,t,hkey⟩:=hk y (Array.mem_toList_iff.mp hy);simp [DictEntry.refKey,hkey]
  have a': ¬ es.toList.any (·.refKey)=true:=by rw [a];exact Bool.false_ne_true
  rw [if_neg a'];exact congrArg some e
theorem Mv.look(I:Mv h x dx C mA):∃ od,W.InstAt h x (W.instObj C dx) C (some od)/\∀ name,W.lookIn name od=some (mA name):=
 let ⟨od,ho,hl⟩:=BN I.ns
 ⟨od,⟨I.obj,rfl,rfl,ho⟩,hl⟩
section
variable{K:W.Frag}
theorem Iy(X:K.In s.heap)(I:Mv s.heap x dx C mA)(hg:W.plainGet K C name=true)(hh:W.hasDictIn K C=true)(ha:W.findIn K (.ref C) name=some none)(hv:mA name=some v)(hv':W.handedIn v=true)(h:Q v {s with toks:=s.toks + 1}):
  wpAny (model prog w) A (getAttr (.ref x) name expr) Q E s:=by
 obtain ⟨od,J,hl⟩:=I.look;exact W.get_value X J (W.plainGet_of hg).1 (W.findObj_own hh ha rfl (by rw [hl,hv])) hv' h
theorem Ep(X:K.In s.heap)(I:Mv s.heap x dx C mA)(hg:W.plainGet K C name=true)(hf:W.findIn K (.ref C) name=some (some (.ref f)))(ht:W.isFn K (.ref f)=true)(hv:mA name=none)(h:Q (.ref f, [.ref x]) s):
  wpAny (model prog w) A (getMethod (.ref x) name pl) Q E s:=by
 obtain ⟨od,J,hl⟩:=I.look;exact W.method_fn X J (W.plainGet_of hg).1 (W.plainGet_of hg).2 hf (beq_iff_eq.mp ht) (by show (W.lookIn name od).map (·.isSome)=some false;rw [hl,hv];rfl) h
theorem FZ(X:K.In s.heap)(I:Mv s.heap x dx C mA)(hs:W.findIn K (.ref C) "__setattr__" =some (some (.builtin "object.__setattr__")))(hp:W.plainOver K C=true)(ht:W.takerIn K C name=some none)(hh:W.hasDictIn K C=true)(hw:PySem.Within mA ns)(hsz:ns.length<=sizeLine)(h:∀ h',Mv h' x dx C (fun y=>if y=name then some v else mA y)->Heap.SameBut dx s.heap h'->Q () {s with heap:=h',toks:=s.toks + 2}):
  wpAny (model prog w) A (setAttr (.ref x) name v) Q E s:=by
 obtain ⟨od,J,hl⟩:=I.look;refine W.set_plain X J hs (W.osa_open (s:={s with toks:=s.toks + 1}) (r:=none) X J hp ht fun b=>?_);obtain ⟨cd,hc,hd'⟩:=W.any_some hh;have hx:s.heap.get? x=some ⟨.ref C,some dx, .plain,#[]⟩:=I.obj;refine wpAny_bind (wpAny_pure (wpAny_bind (wpAny_bind (wpAny_loadPart hx (wpAny_bind (W.Looks.here (s:={s with toks:=s.toks + 1}) (W.looks_clsIn X hc) ?_))))));rw [hd'];refine wpAny_pure (a:=some dx) (wpAny_bind (wpAny_pure (wpAny_bind ?_)));refine wpAny_nsSet1 (s:={s with toks:=s.toks + 1}) I.ns fun h' hn2 hs2=>?_;obtain ⟨oD,esD,epD,hoD,hdD,hcD⟩:=hn2.count (PySem.Within.cons name v hw);refine wpAny_bind (wpAny_lookBehind hoD (by rw [hdD];exact pastItsLine_dict (Nat.le_trans hcD (by rw [List.length_cons];omega))) ?_);exact wpAny_pure (h _ ⟨(hs2.2 _ (Ne.symm I.ne)).trans I.obj,hn2,I.ne⟩ hs2)
theorem EZ(X:K.In s.heap)(hm:W.makesIn K C=true)(hi:W.findIn K (.ref C) "__init__" =some (some (.ref f)))(hf:W.typeIn K (.ref f)=some (.type "function"))(h:codeAny (model prog w) (A.under (.builtin "type.__call__" ⟨.ref C::vs,kw⟩)) (.call (.ref f) ⟨.ref (s.heap.objs.size + 1)::vs,kw⟩) (W.InitBack (s.heap.objs.size + 1) R)
   {s with heap:=(s.heap.push W.emptyDict).push (W.instObj C s.heap.objs.size)}):
  codeAny (model prog w) A (.call (.ref C) ⟨vs,kw⟩) R s:=by
 obtain ⟨hh,g,d,t,os⟩:=s;exact W.make_core (W.makes_of X hm) (W.looks_findIn X hi) (fun self=>W.bind_fn X self hf) (.inl rfl) h
end
def YH(f:Str)(v:V):List (Str × V)->List (Str × V)
 | []=> [(f,v)]
 | (g,x)::r=>if g=f then (g,v)::r else (g,x)::YH f v r
theorem XI(f g:Str)(v:V):∀ fs:List (Str × V),(YH f v fs).lookup g=if g=f then some v else fs.lookup g
 | []=>by
  show List.lookup g [(f,v)]=_
  by_cases h:g=f
  .have hb:(g==f)=true:=beq_iff_eq.mpr h
   simp only [List.lookup,hb,if_pos h]
  .have hb:(g==f)=false:=beq_eq_false_iff_ne.mpr h
   simp only [List.lookup,hb,if_neg h]
 | (k,x)::r=>by
  have ih:=XI f g v r;rw [show YH f v ((k,x)::r)=(if k=f then (k,v)::r else (k,x)::YH f v r) from rfl]
  by_cases hk:k=f
  .rw [if_pos hk]
   by_cases h:g=k
   .have hb:(g==k)=true:=beq_iff_eq.mpr h
    simp only [List.lookup,hb,if_pos (h.trans hk)]
   .have hb:(g==k)=false:=beq_eq_false_iff_ne.mpr h
    simp only [List.lookup,hb,if_neg (fun e:g=f=>h (e.trans hk.symm))]
  .rw [if_neg hk]
   by_cases h:g=k
   .have hb:(g==k)=true:=beq_iff_eq.mpr h
    simp only [List.lookup,hb,if_neg (fun e:g=f=>hk (h.symm.trans e))]
   .have hb:(g==k)=false:=beq_eq_false_iff_ne.mpr h
    simp only [List.lookup,hb];exact ih
theorem U2(f:Str)(v:V):∀ fs:List (Str × V),f∈(YH f v fs).map (·.1)/\∀ g,g∈fs.map (·.1)->g∈(YH f v fs).map (·.1)
 | []=>⟨by simp [YH],fun g h=>by simp at h⟩
 | (k,x)::r=>by
  obtain ⟨i1,i2⟩:=U2 f v r;rw [show YH f v ((k,x)::r)=(if k=f then (k,v)::r else (k,x)::YH f v r) from rfl]
  by_cases hk:k=f
  .rw [if_pos hk]
   subst hk;exact ⟨by simp,fun g h=>by simpa using h⟩
  .rw [if_neg hk]
   refine ⟨?_,fun g h=>?_⟩
   .rw [List.map_cons]
    exact List.mem_cons_of_mem _ i1
   .rw [List.map_cons] at h |-
    rcases List.mem_cons.mp h with e | e
    .exact List.mem_cons.mpr (.inl e)
    .exact List.mem_cons_of_mem _ (i2 g e)
theorem XJ(f:Str)(v:V):∀ fs:List (Str × V),(YH f v fs).length<=fs.length + 1
 | []=>by simp [YH]
 | (k,x)::r=>by
  have ih:=XJ f v r;rw [show YH f v ((k,x)::r)=(if k=f then (k,v)::r else (k,x)::YH f v r) from rfl]
  by_cases hk:k=f
  .rw [if_pos hk,List.length_cons,List.length_cons];omega
  .rw [if_neg hk,List.length_cons,List.length_cons];omega
theorem JY.some_of(r:JY (some v) o):∃ u,o=some u/\RelV v u:=by
 cases o with
 | none=>exact (show False from r).elim
 | some u=>exact ⟨u,rfl,r⟩
theorem JY.none_of(r:JY none o):o=none:=by
 cases o with
 | none=>rfl
 | some u=>exact (show False from r).elim
theorem BS(r:RelV v u):W.handedIn u=true:=by
 cases v with
 | non=>cases (show u=Value.none from r);rfl
 | bl b=>cases (show u=Value.bool b from r);rfl
 | int i=>obtain ⟨t,e⟩:=(show ∃ t,u=Value.int i t from r);cases e;rfl
 | str x=>obtain ⟨t,e⟩:=(show ∃ t,u=Value.str x t from r);cases e;rfl
 | byt b=>obtain ⟨t,e⟩:=(show ∃ t,u=Value.bytes b t from r);cases e;rfl
 | flt b=>obtain ⟨t,e⟩:=(show ∃ t,u=Value.float b t from r);cases e;rfl
 | ref a=>cases (show u=Value.ref a from r);rfl
 | ty n=>cases (show u=Value.type n from r);rfl
section
theorem Xk(hok:HOk P w H h)(e:H a=some (.ins C dx fs)):∃ mA,Mv h a dx C mA/\(∀ f,JY (fs.lookup f) (mA f))/\PySem.Within mA (fs.map (·.1))/\fs.length<=1000/\H dx=some (.own a):=by
 obtain ⟨d,z,ne,ob,mA,n,r,q⟩:=(show Z5 P w H h a (.ins C dx fs) from hok a _ e);exact ⟨mA,⟨ob,n,ne⟩,r,q,z,d⟩
end
structure Cls(K:W.Frag)(C:Addr):Prop where
 pg:W.plainGet K C Str.empty=true
 hd:W.hasDictIn K C=true
 po:W.plainOver K C=true
 sa:W.findIn K (.ref C) "__setattr__" =some (some (.builtin "object.__setattr__"))
theorem Cls.get{K:W.Frag}(c:Cls K C)(f:Str):W.plainGet K C f=true:=c.pg
def Yz(K:W.Frag)(C:Addr)(f:Str):Prop:=W.findIn K (.ref C) f=some none
theorem Yz.taker{K:W.Frag}(n:Yz K C f):W.takerIn K C f=some none:=by
 unfold W.takerIn;rw [show W.findIn K (.ref C) f=some none from n]
 rfl
structure Con(K:W.Frag)(C:Addr)(f:Str)(v:V)(u:Value):Prop where
 at_:W.findIn K (.ref C) f=some (some u)
 rel:RelV v u
 get:W.specialIn K u "__get__" =some none
 cp:W.copiedNames.contains f=false
structure Yc(K:W.Frag)(C:Addr)(m:Str)(f:Addr):Prop where
 at_:W.findIn K (.ref C) m=some (some (.ref f))
 fn:W.isFn K (.ref f)=true
 kp:W.keepIn K (.ref f)=true
section
theorem Mi(I:Inv X pins U H s)(e:H a=some (.ins C dx fs))(c:Cls X.K C)(n:Yz X.K C f)(l:fs.lookup f=some v)(h:∀ u s',Inv X pins U H s'->RelV v u->Q u s'):wpAny (model X.prog X.w) A (getAttr (.ref a) f b) Q E s:=by
 obtain ⟨mA,O,r,_,_,_⟩:=Xk I.hok e;obtain ⟨u,hu,ru⟩:=JY.some_of (v:=v) (o:=mA f) (by rw [<-l];exact r f);exact Iy I.kIn O (c.get f) c.hd n hu (BS ru) (h u _ (I.tok _) ru)
theorem WK(I:Inv X pins U H s)(e:H a=some (.ins C dx fs))(c:Cls X.K C)(k:Yc X.K C m g)(l:fs.lookup m=none)(h:Q (.ref g, [.ref a]) s):wpAny (model X.prog X.w) A (getMethod (.ref a) m pl) Q E s:=by
 obtain ⟨mA,O,r,_,_,_⟩:=Xk I.hok e;have hn:mA m=none:=JY.none_of (by rw [<-l];exact r m);exact Ep I.kIn O (c.get m) k.at_ k.fn hn h
theorem Rm(I:Inv X pins U H s)(e:H a=some (.ins C dx fs))(c:Cls X.K C)(n:Yz X.K C f)(hl:fs.length < 1000)(ry:RelV y u)(h:∀ s',Inv X pins U (upd H a (.ins C dx (YH f y fs))) s'->Q () s'):wpAny (model X.prog X.w) A (setAttr (.ref a) f u) Q E s:=by
 obtain ⟨mA,O,r,wi,_,ho⟩:=Xk I.hok e;have hz:(fs.map (·.1)).length<=sizeLine:=by rw [List.length_map,sizeLine_eq];omega
 refine FZ I.kIn O c.sa c.po n.taker c.hd wi hz fun h' O' sb=>h _ ?_;have hd:∃ o,h'.get? dx=some o:=let ⟨o,_,_,e',_⟩:=O'.ns;⟨o,e'⟩
 refine I.write (x:=a) (e:=dx) (by rw [e];exact True.intro) (.inr ho) (fun b q hb z=>(sb.2 b hb).trans z) hd ?_;refine ⟨by rw [ZI O.ne];exact ho,?_,O.ne,O'.obj,_,O'.ns,fun g=>?_,fun g hg=>?_⟩
 .have:=XJ f y fs;omega
 .show JY ((YH f y fs).lookup g) (if g=f then some u else mA g)
  rw [XI]
  by_cases q:g=f
  .rw [if_pos q,if_pos q];exact ry
  .rw [if_neg q,if_neg q];exact r g
 .by_cases q:g=f
  .rw [q];exact (U2 f y fs).1
  .refine (U2 f y fs).2 g (wi g fun z=>hg ?_)
   show (if g=f then some u else mA g)=none;rw [if_neg q];exact z
theorem Inv.made(I:Inv X pins U H s):Inv X pins U (upd (upd H s.heap.objs.size (.own (s.heap.objs.size + 1))) (s.heap.objs.size + 1) (.ins C s.heap.objs.size []))
  {s with heap:=(s.heap.push W.emptyDict).push (W.instObj C s.heap.objs.size)}:=by
 have e1:(s.heap.push W.emptyDict).get? s.heap.objs.size=some W.emptyDict:=Heap.get?_push_size s.heap rfl
 have e2:((s.heap.push W.emptyDict).push (W.instObj C s.heap.objs.size)).get? (s.heap.objs.size + 1)=some (W.instObj C s.heap.objs.size):=by
  have:=Heap.get?_push_size (s.heap.push W.emptyDict) (o:=W.instObj C s.heap.objs.size) rfl
  rwa [Heap.size_push] at this
 have e3:(s.heap.push W.emptyDict).Ns s.heap.objs.size (fun _=>none):=⟨W.emptyDict,#[],_,e1,rfl,(fun e he=>absurd he (by simp)),fun _=>rfl⟩;have I1:=I.laid (a:=s.heap.objs.size) (o:= .own (s.heap.objs.size + 1)) (h':=s.heap.push W.emptyDict) (t':=s.toks) (fun b u q=>Heap.get?_push_of_some _ q) (Nat.le_refl _) ⟨_,e1⟩;refine I1.laid (a:=s.heap.objs.size + 1) (o:= .ins C s.heap.objs.size []) (t':=s.toks) (fun b u q=>Heap.get?_push_of_some _ q) (Nat.le_of_eq (Heap.size_push _ _)) ?_;have ne:s.heap.objs.size≠s.heap.objs.size + 1:=Nat.ne_of_lt (Nat.lt_succ_self _);refine ⟨by rw [ZI ne,ZD],Nat.zero_le _,ne,e2,fun _=>none,(Heap.Ns1.of_empty e3).at fun o q=>Heap.get?_push_of_some _ q,fun _=>True.intro,fun y hy=>absurd rfl hy⟩
theorem Kb(hb:attributeBase e f env (eval e env)=eval e env)(h:wpAny (model prog w) A (eval e env) (fun o s₁=>wpAny (model prog w) A (getAttr o f true) Q E s₁) E s):wpAny (model prog w) A (eval (.Attribute e f pos) env) Q E s:=
 Attribute_any_ h (by rw [arm_eval_Attribute,hb])
end
def OL(K:W.Frag)(ta:TE)(f:Str):TE:=fun U H Q=>ta U H fun x H1=>VN x fun a=> ∃ C dx fs v,H1 a=some (.ins C dx fs)/\Cls K C/\Yz K C f/\fs.lookup f=some v/\Q v H1
def O1(K:W.Frag)(ta tv:TE)(f:Str):TS:=fun D U H=>tv U H fun y H1=>ta U H1 fun x H2=> ∃ a C dx fs,x= .ref a/\H2 a=some (.ins C dx fs)/\Cls K C/\Yz K C f/\fs.length < 1000/\
 D.nx U (upd H2 a (.ins C dx (YH f y fs)))
section
theorem Zt(he:PE X e ta)(hb:attributeBase e f X.env (eval e X.env)=eval e X.env):PE X (.Attribute e f pos) (OL X.K ta f):=by
 intro pins s U H Q I h;refine Kb hb (thn (he pins s U H _ I h) fun u s1 ⟨x,H1,I1,rx,q⟩=>?_);replace q:=VN.old q;obtain ⟨a,ex,C,dx,fs,v,ea,c,n,l,q⟩:=q;subst ex;obtain rfl:u=Value.ref a:=rx;exact Mi I1 ea c n l fun u' s2 I2 ru=>⟨v,H1,I2,ru,q⟩
theorem V1(ha:PE X o ta)(hv:PE X value tv)(hs:swapsWith value (some (.Attribute o f pos')) pos.line X.env=pure false):PS X (.Assign [.Attribute o f pos'] value pos) (O1 X.K ta tv f):=by
 intro pins s U H D I h;refine plainObj_wpAny_Assign_Attribute (thn (hv pins s U H _ I h) fun u s1 ⟨y,H1,I1,ry,q⟩=>thn (ha pins s1 U H1 _ I1 q) fun ov s2 ⟨x,H2,I2,rx,a,C,dx,fs,ex,ea,c,n,l,q2⟩=>?_) hs;subst ex;obtain rfl:ov=Value.ref a:=rx;exact Rm I2 ea c n l ry fun s3 I3=>⟨U,_,I3,q2⟩
end
section
variable{H:Hp}
inductive UR(K:W.Frag)(H:Hp):V->Value->Prop where
 | non:UR K H .non (.type "NoneType")
 | bl (x:Bool):UR K H (.bl x) (.type "bool")
 | int (i:Int):UR K H (.int i) (.type "int")
 | str (x:Str):UR K H (.str x) (.type "str")
 | flt (x:UInt64):UR K H (.flt x) (.type "float")
 | lst {a:Addr}{xs:List V}(e:H a=some (.lst xs)):UR K H (.ref a) (.type "list")
 | frz {a:Addr}{o:Obj}{xs:List V}(e:H a=some (.frz o (.lst xs))):UR K H (.ref a) (.type "list")
 | tup {a:Addr}{xs:List V}(e:H a=some (.tup xs)):UR K H (.ref a) (.type "tuple")
 | dK {a:Addr}{kvs:List (Key × V)}(e:H a=some (.dK kvs)):UR K H (.ref a) (.type "dict")
 | dT {a:Addr}{kvs:List (List Key × V)}(e:H a=some (.dT kvs)):UR K H (.ref a) (.type "dict")
 | ins {a C dx:Addr}{fs:List (Str × V)}(e:H a=some (.ins C dx fs)) (cl:Cls K C) (ha:W.findIn K (.ref C) "__class__" =some (some (.builtin "object.__class__")))
   (hn:W.specialIn K (.builtin "object.__class__") "__get__" =some (some (.builtin "getset_descriptor.__get__"))) (htk:W.takesIn K (.builtin "object.__class__")=some true)
   (hm:W.mroIn K C (.type "object")=some true):UR K H (.ref a) (.ref C)
theorem BP(I:Inv X pins U H s)(rx:RelV x u)(ty:UR X.K H x t)(e:W.kitOne X.K t c=some b)(h:∀ tk,Q (.bool b) {s with toks:=tk}):
  wpAny (model X.prog X.w) A (call (.builtin "isinstance") [u,c]) Q E s:=by
 cases ty with
 | non=>cases (show u=Value.none from rx);exact W.kia_one W.kitx_none I.kIn True.intro e (fun z=>nomatch z) h
 | bl y=>cases (show u=Value.bool y from rx);exact W.kia_one W.kitx_bool I.kIn True.intro e (fun z=>nomatch z) h
 | int i=>obtain ⟨t,q⟩:=(show ∃ t,u=Value.int i t from rx);cases q;exact W.kia_one W.kitx_int I.kIn True.intro e (fun z=>nomatch z) h
 | str y=>obtain ⟨t,q⟩:=(show ∃ t,u=Value.str y t from rx);cases q;exact W.kia_one W.kitx_str I.kIn True.intro e (fun z=>nomatch z) h
 | flt y=>obtain ⟨t,q⟩:=(show ∃ t,u=Value.float y t from rx);cases q;exact W.kia_one W.kitx_float I.kIn True.intro e (fun z=>nomatch z) h
 | @lst a xs ea=>
  cases (show u=Value.ref a from rx);obtain ⟨_,_,n,_,h1⟩:=(show Z5 X.prog X.w H s.heap a (.lst xs) from I.hok a _ ea);exact W.kia_one W.kitx_list I.kIn ⟨_,h1,rfl⟩ e (fun z=>nomatch z) h
 | @frz a ob xs ea=>
  cases (show u=Value.ref a from rx);obtain ⟨_,_,_,n,_,h1⟩:=(show Z5 X.prog X.w H s.heap a (.frz ob (.lst xs)) from I.hok a _ ea);exact W.kia_one W.kitx_list I.kIn ⟨_,h1,rfl⟩ e (fun z=>nomatch z) h
 | @tup a xs ea=>
  cases (show u=Value.ref a from rx);obtain ⟨_,_,_,p⟩:=(show Z5 X.prog X.w H s.heap a (.tup xs) from I.hok a _ ea);obtain ⟨o,h1,_,h2,_⟩:=p;exact W.kia_one W.kitx_tuple I.kIn ⟨o,h1,h2⟩ e (fun z=>nomatch z) h
 | @dK a kvs ea=>
  cases (show u=Value.ref a from rx);obtain ⟨_,_,vs,_,p⟩:=(show Z5 X.prog X.w H s.heap a (.dK kvs) from I.hok a _ ea);obtain ⟨o,es,ep,h1,h2,_⟩:=p;exact W.kia_one W.kitx_dict I.kIn ⟨o,h1,h2.1⟩ e (fun z=>nomatch z) h
 | @dT a kvs ea=>
  cases (show u=Value.ref a from rx);obtain ⟨_,_,xs,_,o,es,ep,h1,h2,_⟩:=(show Z5 X.prog X.w H s.heap a (.dT kvs) from I.hok a _ ea);exact W.kia_one W.kitx_dict I.kIn ⟨o,h1,h2.1⟩ e (fun z=>nomatch z) h
 | @ins a C dx fs ea cl ha hn htk hm=>
  cases (show u=Value.ref a from rx);obtain ⟨mA,O,_⟩:=Xk I.hok ea;obtain ⟨od,J,_⟩:=O.look;exact W.kia_one (W.kitx_own (cl.get _) cl.hd ha hn htk hm) I.kIn J e (fun z=>nomatch z) h
end
end L2
namespace L2
open PySem PySem.Spec PyProof.Rows
structure Ya(k:Nat)(A:Around):Prop where
 hd:A.handled=none
 dp:A.depth + 3 * k + 5 < recursionLimit
 un:A.units + 16 * k + 200 < cLine
theorem Ya.mono(r:Ya k A)(h:j<=k):Ya j A:=⟨r.hd,by have:=r.dp;omega,by have:=r.un;omega⟩
theorem Ya.deeper(r:Ya (k + 1) A)(env:Env):Ya k (A.deeper env):=
 ⟨r.hd,by have:=r.dp;show A.depth + 1 + 3 * k + 5 < _;omega,by have:=r.un;show A.units + 3 + 16 * k + 200 < _;omega⟩
theorem Ya.in1(r:Ya (k + 1) A):Ya k A.in1:=
 ⟨r.hd,by have:=r.dp;show A.depth + 3 * k + 5 < _;omega,by have:=r.un;show A.units + 1 + 16 * k + 200 < _;omega⟩
theorem Ma{A:Around}:(A.under (.builtin "type.__call__" ⟨.ref C::us,kw⟩)).depth=A.depth + 1:=by
 first | rfl | simp [Around.under,Code.weight,Code.isCreation,Code.isGuard,Code.isCaller,Code.frames,Code.isFrame,guardIds]
theorem MZ{A:Around}:(A.under (.builtin "type.__call__" ⟨.ref C::us,kw⟩)).units=A.units + 1:=by
 first | rfl | simp [Around.under,Code.cUnits,Code.frames,Code.isFrame]
theorem Ya.make(r:Ya (k + 1) A)(C:Addr)(us:List Value)(kw:List (Str × Value)):Ya k (A.under (.builtin "type.__call__" ⟨.ref C::us,kw⟩)):=
 ⟨r.hd,by have:=r.dp;rw [Ma];omega,by have:=r.un;rw [MZ];omega⟩
theorem Ya.depth(r:Ya k A):A.depth < recursionLimit:=by have:=r.dp;omega
theorem Ya.units(r:Ya k A):A.units + 64 < cLine:=by have:=r.un;omega
theorem Ya.units0(r:Ya k A):A.units < cLine:=by have:=r.un;omega
def W9:TA:=fun _ H Q=>Q [] H
def Ve(ta:TE)(tr:TA):TA:=fun U H Q=>ta U H fun x H1=>tr U H1 fun xs H2=>Q (x::xs) H2
section
variable{t:TA}
theorem ZE:PA X [] W9:=fun _ _ _ _ H Q I h=>Calls.spliced_nil ⟨[],H,I, .nil,h⟩
theorem ZA(ha:PE X e te)(hr:PA X es t)(hs:starEach (e::es) X.env=(false,eval e X.env)::starEach es X.env:=by rfl):PA X (e::es) (Ve te t):=by
 intro pos pins s U H Q I h;rw [hs];show wpAny _ _ (spliced ((false,eval e X.env)::backTo pos (starEach es X.env))) _ _ s;refine Calls.spliced_cons (thn (ha pins s U H _ I h) fun u s1 ⟨x,H1,I1,r1,q1⟩=>?_);exact thn (hr pos pins s1 U H1 _ I1 q1) fun us s2 ⟨xs,H2,I2,r2,q2⟩=>⟨x::xs,H2,I2, .cons r1 r2,q2⟩
def OC(t:TA):TE:=fun U H Q=>t U H fun xs H1=>xs.length<=sizeLine/\∀ p,H1 p=none->Q (.ref p) (upd H1 p (.tup xs))
def OJ(t:TA):TE:=fun U H Q=>t U H fun xs H1=>xs.length<=sizeLine/\∀ p,H1 p=none->Q (.ref p) (upd H1 p (.lst xs))
theorem Zs(h:PA X es t):PE X (.Tuple es x1 pos) (OC t):=by
 intro pins s U H Q I hq;refine wpAny_Tuple_spliced (thn (h pos pins s U H _ I hq) fun us s1 ⟨xs,H1,I1,r,z,q⟩=>⟨by rw [<-r.length];exact z,?_⟩);have hf:H1 s1.heap.objs.size=none:=I1.hok.fresh (Nat.le_refl _);refine ⟨.ref s1.heap.objs.size,upd H1 s1.heap.objs.size (.tup xs),I1.laid (t':=s1.toks) (fun b u e=>Heap.get?_push_of_some _ e) (Nat.le_refl _) ?_,rfl,q _ hf⟩;exact ⟨z,us,r,⟨_,Heap.get?_push_size _ rfl,rfl,rfl,_,rfl⟩⟩
theorem Z8(h:PA X es t):PE X (.List es pos) (OJ t):=by
 intro pins s U H Q I hq;refine wpAny_List_spliced (thn (h pos pins s U H _ I hq) fun us s1 ⟨xs,H1,I1,r,z,q⟩=>⟨by rw [<-r.length];exact z,?_⟩);have hf:H1 s1.heap.objs.size=none:=I1.hok.fresh (Nat.le_refl _);refine ⟨.ref s1.heap.objs.size,upd H1 s1.heap.objs.size (.lst xs),I1.laid (t':=s1.toks) (fun b u e=>Heap.get?_push_of_some _ e) (Nat.le_refl _) ?_,rfl,q _ hf⟩;exact ⟨z,us,0,r,Heap.get?_push_size _ rfl⟩
end
abbrev Sp:=List V->Hp->VK->XK->Prop
abbrev CXT:=List Env->Hp->Shared->XK->Value->Shared->Prop
structure Mw(P:Program)(w:World)(K:W.Frag)(mg:Str->Option Value)(base:Heap)(A:Around)(outer:List Env)(s:Shared)(H:Hp):Prop where
 frames:A.frames=some outer
 mod:Mod K mg base
 bs:∀ b o,base.get? b=some o->s.heap.get? b=some o/\H b=none
 bsz:base.objs.size<=s.heap.objs.size
 funs:s.heap.FunFrames base outer
 frf:∀ b∈frs outer,H b=none
 hok:HOk P w H s.heap
 bare:AllBare s.gens
def CE(outer:List Env)(P:Program)(w:World)(H:Hp)(s:Shared)(Q:VK)(u:Value)(s':Shared):Prop:=
 ∃ v H',s'.os=s.os/\AllBare s'.gens/\Un (frs outer) [] H H' s.heap s'.heap/\HOk P w H' s'.heap/\RelV v u/\Q v H'
def CR(CX:CXT)(outer:List Env)(P:Program)(w:World)(H:Hp)(s:Shared)(Q:VK)(E:XK)(r:Result)(s':Shared):Prop:=
 match r with
 | .ok (.ret u)=>CE outer P w H s Q u s'
 | .ok _=>False
 | .error e=>CX outer H s E e s'
structure ZN(P:Program)(w:World)(K:W.Frag)(mg:Str->Option Value)(base:Heap)(CX:CXT)(k:Nat)(f:Addr)(fd:FuncData)(ps:List Str)(sp:Sp):Prop where
 len:∀ vs H Q E,sp vs H Q E->vs.length=ps.length
 run:∀ (A:Around) (outer:List Env) (s:Shared) (H:Hp) (args:Args) (us:List Value) (vs:List V) (Q:VK) (E:XK),Ya k A->Mw P w K mg base A outer s H->BindsTo s fd args (ps.zip us)->Vals vs us->sp vs H Q E->
  codeAny (model P w) A (.call (.ref f) args) (CR CX outer P w H s Q E) s
theorem ZN.mono{K:W.Frag}(F:ZN P w K mg base CX j f fd ps sp)(h:j<=k):
  ZN P w K mg base CX k f fd ps sp:=⟨F.len,fun A outer s H args us vs Q E hr=>F.run A outer s H args us vs Q E (hr.mono h)⟩
theorem Mw.make{K:W.Frag}(e:Mw P w K mg base A outer s H)(C:Addr)(us:List Value)(kw:List (Str × Value)):
  Mw P w K mg base (A.under (.builtin "type.__call__" ⟨.ref C::us,kw⟩)) outer s H:=⟨by first | exact e.frames | (simpa [Around.under,Code.envs,Code.isFrame,pushEnvs] using e.frames),e.mod,e.bs,e.bsz,e.funs,e.frf,e.hok,e.bare⟩
section
theorem Inv.env0(I:Inv X pins U H s):Mw X.prog X.w X.K X.mg X.base X.A X.stack s H:=
 ⟨I.ok.frames,I.ok.mod,I.bs,Nat.le_trans I.ok.bsz I.sz,I.stack,I.stkFree,I.hok,I.bare⟩
theorem Inv.after(I:Inv X pins U H s)(h:CE X.stack X.prog X.w H s Q u s'):EP X pins U Q u s':=by
 obtain ⟨v,H',os,bare,un,hok,r,q⟩:=h;obtain ⟨hh,g,d,t,os'⟩:=s';obtain rfl:os'=s.os:=os;exact ⟨v,H',I.call (h':=hh) (g':=g) (d':=d) (t':=t) (ch:= []) un hok bare (fun b z=>absurd z (by simp)),r,q⟩
end
def Kk(sp:Sp)(dvs:List V)(E:XK)(t:TA):TE:=fun U H Q=>t U H fun vs H1=>sp (vs++ dvs) H1 Q E
def M4(C:Addr)(m:Str)(sp:Sp)(dvs:List V)(E:XK)(ta:TE)(t:TA):TE:=fun U H Q=>ta U H fun x H1=>VN x fun a=> ∃ dx fs,H1 a=some (.ins C dx fs)/\fs.lookup m=none/\
 t U H1 fun vs H2=>sp (x::(vs++ dvs)) H2 Q E
def OI(C:Addr)(sp:Sp)(dvs:List V)(E:XK)(t:TA):TE:=fun U H Q=>t U H fun vs H1=> ∀ x dx,H1 x=none->H1 dx=none->dx≠x->
 sp (.ref x::(vs++ dvs)) (upd (upd H1 dx (.own x)) x (.ins C dx [])) (fun v H2=>v= .non/\Q (.ref x) H2) E
def Binds(K:W.Frag)(fd:FuncData)(ps:List Str)(ds:List Value):Prop:=
 ∀ (s:Shared) (us:List Value),K.In s.heap->(us++ ds).length=ps.length->BindsTo s fd ⟨us, []⟩ (ps.zip (us++ ds))
theorem Binds.all{K:W.Frag}(h:∀ us:List Value,us.length=ps.length->bindArgs fd ⟨us, []⟩=pure (ps.zip us)):Binds K fd ps []:=fun s us _ hl=>by
 rw [List.append_nil] at hl |-;exact .of_eq (h us hl)
def V4(CX:CXT)(X:Cx)(E:XK):Prop:= ∀ (pins:List (Addr × Obj)) (U:St) (H:Hp) (s:Shared) (e:Value) (s':Shared),Inv X pins U H s->CX X.stack H s E e s'->X.xe e s'
section
variable{f C:Addr}
theorem Gw(F:ZN X.prog X.w X.K X.mg X.base CX k f fd ps sp)(hr:Ya k X.A)(hb:Binds X.K fd ps ds)(hd:Vals dvs ds)(hx:V4 CX X E)(I:Inv X pins U H s)(r:Vals vs us)(h:sp (vs++ dvs) H Q E):wpAny (model X.prog X.w) X.A (call (.ref f) us) (EP X pins U Q) X.xe s:=by
 have r2:Vals (vs++ dvs) (us++ ds):=r.append hd;have hl:(us++ ds).length=ps.length:=by rw [<-r2.length];exact F.len _ _ _ _ h
 refine wpAny_call (codeAny_mono (F.run X.A X.stack s H ⟨us, []⟩ (us++ ds) (vs++ dvs) Q E hr I.env0 (hb s us I.kIn hl) r2 h) fun r s' hq=>?_)
 cases r with
 | error e=>exact hx pins U H s e s' I hq
 | ok fl=>
  cases fl with
  | ret u=>exact I.after hq
  | next=>exact False.elim hq
  | brk=>exact False.elim hq
  | cont=>exact False.elim hq
theorem ZM(F:ZN X.prog X.w X.K X.mg X.base CX k f fd ps sp)(hr:Ya k X.A)(hg:Gl X x)(hm:X.mg x=some (.ref f))(hk:W.keepIn X.K (.ref f)=true)(hb:Binds X.K fd ps ds)(hd:Vals dvs ds)(hx:V4 CX X E)(ha:PA X (e::es) t)(hdb:(x==("__debug__" :Str))=false:=by decide)(he:starEach (e::es) X.env=(false,eval e X.env)::starEach es X.env:=by rfl)(hpl:(backTo pos (starEach es X.env)).any (·.1)=false:=by rfl):
  PE X (.Call (.Name x p) (e::es) [] pos) (Kk sp dvs E t):=by
 intro pins s U H Q I h;refine wpAny_Call_Name_kw (JQ I hg hm ?_ hdb);refine W.callWith_K (h₀:=X.base) I.ok.mod.kin hk (thn (ha pos pins s U H _ I h) fun us s1 ⟨vs,H1,I1,r,q⟩=>⟨I1.kIn,?_⟩) he hpl;exact Gw F hr hb hd hx I1 r q
theorem YA(he:PE X o ta)(c:Cls X.K C)(hm:Yc X.K C m f)(F:ZN X.prog X.w X.K X.mg X.base CX k f fd ps sp)(hr:Ya k X.A)(hb:Binds X.K fd ps ds)(hd:Vals dvs ds)(hx:V4 CX X E)(ha:PA X (e::es) t)(hst:starEach (e::es) X.env=(false,eval e X.env)::starEach es X.env:=by rfl)(hpl:(backTo pos (starEach es X.env)).any (·.1)=false:=by rfl)(ht:eval (.Call (.Attribute o m apos) (e::es) [] pos) X.env=(do
   let ov <-eval o X.env
   standAt apos.atName
   let (f,first) <-holding [ov] (getMethod ov m pl)
   callWith pos f first (backTo pos (starEach (e::es) X.env)) (backToKw pos (keywordEach [] X.env))):=by rfl):
  PE X (.Call (.Attribute o m apos) (e::es) [] pos) (M4 C m sp dvs E ta t):=by
 intro pins s U H Q I h;refine W.methodCall_KW (pl:=pl) (thn (he pins s U H _ I h) fun u s1 ⟨x,H1,I1,rx,q⟩=>?_) ht;replace q:=VN.old q;obtain ⟨a,ex,dx,fs,ea,l,q⟩:=q;subst ex;obtain rfl:u=Value.ref a:=rx;refine WK I1 ea c hm l ?_;refine W.callWith_K (first:= [.ref a]) (h₀:=X.base) I.ok.mod.kin hm.kp (thn (ha pos pins s1 U H1 _ I1 q) fun us s2 ⟨vs,H2,I2,r,q2⟩=>⟨I2.kIn,?_⟩) hst hpl;exact Gw (us:= .ref a::us) (vs:= .ref a::vs) F hr hb hd hx I2 (.cons rfl r) q2
theorem YS(he:PE X o ta)(c:Cls X.K C)(hm:Yc X.K C m f)(F:ZN X.prog X.w X.K X.mg X.base CX k f fd ps sp)(hr:Ya k X.A)(hb:Binds X.K fd ps ds)(hd:Vals dvs ds)(hx:V4 CX X E)(ht:eval (.Call (.Attribute o m apos) [] [] pos) X.env=(do
   let ov <-eval o X.env
   standAt apos.atName
   let (f,first) <-holding [ov] (getMethod ov m pl)
   callWith pos f first (backTo pos (starEach [] X.env)) (backToKw pos (keywordEach [] X.env))):=by rfl):
  PE X (.Call (.Attribute o m apos) [] [] pos) (M4 C m sp dvs E ta W9):=by
 intro pins s U H Q I h;refine W.methodCall_KW (pl:=pl) (thn (he pins s U H _ I h) fun u s1 ⟨x,H1,I1,rx,q⟩=>?_) ht;replace q:=VN.old q;obtain ⟨a,ex,dx,fs,ea,l,q⟩:=q;subst ex;obtain rfl:u=Value.ref a:=rx;refine WK I1 ea c hm l ?_;exact W.callWith_K0 (first:= [.ref a]) I1.kIn hm.kp (Gw (us:= [.ref a]) (vs:= [.ref a]) F hr hb hd hx I1 (.cons rfl .nil) q)
structure Mk(K:W.Frag)(C f:Addr):Prop where
 makes:W.makesIn K C=true
 init:W.findIn K (.ref C) "__init__" =some (some (.ref f))
 fn:W.isFn K (.ref f)=true
 kp:W.keepIn K (.ref C)=true
theorem Dc(M:Mk X.K C f)(F:ZN X.prog X.w X.K X.mg X.base CX k f fd ps sp)(hr:Ya (k + 1) X.A)(hb:Binds X.K fd ps ds)(hd:Vals dvs ds)(hx:V4 CX X E)(I:Inv X pins U H s)(r:Vals vs us)(h:∀ x dx,H x=none->H dx=none->dx≠x->sp (.ref x::(vs++ dvs)) (upd (upd H dx (.own x)) x (.ins C dx [])) (fun v H2=>v= .non/\Q (.ref x) H2) E):
  wpAny (model X.prog X.w) X.A (call (.ref C) us) (EP X pins U Q) X.xe s:=by
 have hq:=h (s.heap.objs.size + 1) s.heap.objs.size (I.hok.fresh (Nat.le_succ _)) (I.hok.fresh (Nat.le_refl _)) (Nat.ne_of_lt (Nat.lt_succ_self _));have I2:=Inv.made (C:=C) I;have r2:Vals (V.ref (s.heap.objs.size + 1)::(vs++ dvs)) (Value.ref (s.heap.objs.size + 1)::(us++ ds)):= .cons rfl (r.append hd)
 have hl:(Value.ref (s.heap.objs.size + 1)::us++ ds).length=ps.length:=by
  have e:=r2.length;rw [F.len _ _ _ _ hq] at e;exact e.symm
 refine wpAny_call (EZ (f:=f) I.kIn M.makes M.init (beq_iff_eq.mp M.fn) (codeAny_mono (F.run _ X.stack _ _ ⟨Value.ref (s.heap.objs.size + 1)::us, []⟩ (Value.ref (s.heap.objs.size + 1)::(us++ ds)) _ _ E (hr.make C us [])
  (I2.env0.make C us []) (hb _ (Value.ref (s.heap.objs.size + 1)::us) I2.kIn hl) r2 hq) fun r s' hq'=>?_))
 cases r with
 | error e=>exact hx pins U _ _ e s' I2 hq'
 | ok fl=>
  cases fl with
  | ret u=>
   obtain ⟨v,H',I3,rv,ev,q3⟩:=I2.after hq';subst ev;exact ⟨rv,⟨V.ref (s.heap.objs.size + 1),H',I3,rfl,q3⟩⟩
  | next=>exact False.elim hq'
  | brk=>exact False.elim hq'
  | cont=>exact False.elim hq'
theorem NL(M:Mk X.K C f)(F:ZN X.prog X.w X.K X.mg X.base CX k f fd ps sp)(hr:Ya (k + 1) X.A)(hg:Gl X x)(hm:X.mg x=some (.ref C))(hb:Binds X.K fd ps ds)(hd:Vals dvs ds)(hx:V4 CX X E)(ha:PA X (e::es) t)(hdb:(x==("__debug__" :Str))=false:=by decide)(he:starEach (e::es) X.env=(false,eval e X.env)::starEach es X.env:=by rfl)(hpl:(backTo pos (starEach es X.env)).any (·.1)=false:=by rfl):
  PE X (.Call (.Name x p) (e::es) [] pos) (OI C sp dvs E t):=by
 intro pins s U H Q I h;refine wpAny_Call_Name_kw (JQ I hg hm ?_ hdb);refine W.callWith_K (h₀:=X.base) I.ok.mod.kin M.kp (thn (ha pos pins s U H _ I h) fun us s1 ⟨vs,H1,I1,r,q⟩=>⟨I1.kIn,?_⟩) he hpl;exact Dc M F hr hb hd hx I1 r q
end
section
variable{fd:FuncData}{ps ks:List Str}{sp:Sp}{E:XK}{t tk:TA}
structure PX(K:W.Frag)(fd:FuncData)(ps ks:List Str)(g:List Value->List Value->List Value)(gV:List V->List V->List V):Prop where
 to:∀ (s:Shared) (us ws:List Value),K.In s.heap->(g us ws).length=ps.length->BindsTo s fd ⟨us,ks.zip ws⟩ (ps.zip (g us ws))
 rel:∀ {vs:List V}{us:List Value}{zs:List V}{ws:List Value},Vals vs us->Vals zs ws->Vals (gV vs zs) (g us ws)
end
structure ZX(N P:List Str)(sc:Scope):Prop where
 kind:sc.kind= .function
 co:sc.isCoroutine=false
 gen:sc.isGenerator=false
 nd:N.Nodup
 pre:N.take P.length=P
 par:∀ x∈P,sc.names.lookup x=some .local \/ sc.names.lookup x=some .cell
 nofree:∀ y∈sc.names,y.2≠ .free
theorem W1{kindOf:Str->Option NameKind}:∀ {binds:List (Str × Value)}{m:Str->Option Value},(∀ v,(x,v) ∉ binds)->bindL kindOf binds m x=m x
 | [],_,_=>rfl
 | (n,v)::r,m,h=>by
  unfold bindL;rw [W1 fun w hw=>h w (List.mem_cons_of_mem _ hw)]
  split
  .have:x≠n:=by rintro rfl;exact h v List.mem_cons_self
   simp [this]
  .rfl
theorem W4{kindOf:Str->Option NameKind}:∀ {binds:List (Str × Value)}{m:Str->Option Value},(∀ v,(x,v) ∉ binds)->bindC kindOf binds m x=m x
 | [],_,_=>rfl
 | (n,v)::r,m,h=>by
  unfold bindC;rw [W4 fun w hw=>h w (List.mem_cons_of_mem _ hw)]
  split
  .rfl
  .have:x≠n:=by rintro rfl;exact h v List.mem_cons_self
   simp [this]
theorem W3{kindOf:Str->Option NameKind}:∀ {P:List Str}{vs:List Value}{i:Nat}{m:Str->Option Value},P.Nodup->P[i]?=some x->vs[i]?=some v->kindOf x=some .local->
  bindL kindOf (P.zip vs) m x=some v
 | [],_,_,_,_,h,_,_=>by simp at h
 | _::_, [],_,_,_,_,h,_=>by simp at h
 | p::P,w::vs,0,m,nd,h1,h2,hk=>by
  simp at h1 h2;subst h1;subst h2;show bindL kindOf ((p,w)::P.zip vs) m p=_;unfold bindL;rw [W1 fun v hv=>(List.nodup_cons.mp nd).1 (List.of_mem_zip hv).1,if_pos hk];simp
 | p::P,w::vs,i + 1,m,nd,h1,h2,hk=>by
  show bindL kindOf ((p,w)::P.zip vs) m x=_;unfold bindL;exact W3 (i:=i) (List.nodup_cons.mp nd).2 (by simpa using h1) (by simpa using h2) hk
theorem W5{kindOf:Str->Option NameKind}:∀ {P:List Str}{vs:List Value}{i:Nat}{m:Str->Option Value},P.Nodup->P[i]?=some x->vs[i]?=some v->kindOf x≠some .local->
  bindC kindOf (P.zip vs) m x=some v
 | [],_,_,_,_,h,_,_=>by simp at h
 | _::_, [],_,_,_,_,h,_=>by simp at h
 | p::P,w::vs,0,m,nd,h1,h2,hk=>by
  simp at h1 h2;subst h1;subst h2;show bindC kindOf ((p,w)::P.zip vs) m p=_;unfold bindC;rw [W4 fun v hv=>(List.nodup_cons.mp nd).1 (List.of_mem_zip hv).1,if_neg hk];simp
 | p::P,w::vs,i + 1,m,nd,h1,h2,hk=>by
  show bindC kindOf ((p,w)::P.zip vs) m x=_;unfold bindC;exact W5 (i:=i) (List.nodup_cons.mp nd).2 (by simpa using h1) (by simpa using h2) hk
def start(N:List Str)(vs:List V):St:=vs.map some++ List.replicate (N.length - vs.length) none
def Ys(CX:CXT)(P:Program)(w:World)(K:W.Frag)(mg:Str->Option Value)(base:Heap)(N:List Str)(qual:Str)(scope:Scope)(f:Addr)(cd:Value)(A:Around)(outer:List Env)(s:Shared)(H:Hp)(E:XK):Cx where
 prog:=P
 w:=w
 K:=K
 mg:=mg
 base:=base
 A:=A.deeper (envOfC qual scope s.heap.objs.size f cd)
 N:=N
 s₀:=s
 H₀:=H
 env:=envOfC qual scope s.heap.objs.size f cd
 outer:=outer
 stack:=envOfC qual scope s.heap.objs.size f cd::outer
 ex:= []
 calm:=true
 fn:=fun _=>true
 pn:= []
 xe:=fun e s'=>wpAny (model P w) (A.deeper (envOfC qual scope s.heap.objs.size f cd)) (leaving (envOfC qual scope s.heap.objs.size f cd) e) (fun _ s''=>CX outer H s E e s'') (fun e' s''=>CX outer H s E e' s'') s'
theorem RQ{sc:Scope}(h:sc.names.lookup x=some .cell):∃ c,(cellsFrom n sc.names []).lookup x=some c:=by
 have q:=W.cellsFrom_some sc.names n [] (.inl h);exact Option.isSome_iff_exists.mp q
theorem BQ{CX:CXT}{P:Program}{w:World}{K:W.Frag}(S:ZX N ps scope)(hd:A.handled=none)(e0:Mw P w K mg base A outer s H)(hl:vs.length=ps.length)(r:Vals vs us)(x:InCallC s s.heap.objs.size (bindL (envOfC qual scope s.heap.objs.size f cd).kindOf (ps.zip us) fun _=>none) (cellsFrom (s.heap.objs.size + 1) scope.names []) (bindC (envOfC qual scope s.heap.objs.size f cd).kindOf (ps.zip us) fun _=>none) s1):
  Inv (Ys CX P w K mg base N qual scope f cd A outer s H E) [] (start N vs) H s1:=by
 have hpl:ps.length<=N.length:=by have:=congrArg List.length S.pre;rw [List.length_take] at this;omega
 obtain ⟨h1,tk,rfl,hk⟩:=x.done;have noA:∀ b:Addr,b ∉ (Ys CX P w K mg base N qual scope f cd A outer s H E).ex:=fun b z=>absurd (show b∈([]:List Addr) from z) (by simp);refine ⟨⟨e0.mod,S.kind,rfl,rfl,Nat.le_refl _,fun y z c h1 h2=>?_,fun y hy=>?_,fun y c _ h=>?_,fun _=>hd,Around.frames_deeper e0.frames, .inr ⟨rfl,rfl⟩,fun b z=>absurd z (noA b),e0.bs,e0.bsz,fun b _ _=>noA b,fun b z=>absurd z (noA b),e0.funs,e0.frf⟩,
  rfl,e0.bare,Un.kept hk,⟨_,x.toInCall.ns,fun i y v h1 h2 h3=>?_⟩,fun y c h=>⟨_,x.cell y c h⟩,e0.hok.fresh (Nat.le_refl _),fun y c h=>?_,fun p hp=>absurd (show p∈([]:List (Addr × Obj)) from hp) (by simp),e0.hok.kept hk,?_⟩
 .exact name_of_addr x.apart (PySem.mem_of_lookup h1) (PySem.mem_of_lookup h2)
 .have hy:scope.names.lookup y=some .cell \/ scope.names.lookup y=some .free:=hy
  rcases hy with hy | hy
  .exact RQ hy
  .exact absurd rfl (S.nofree _ (PySem.mem_of_lookup hy))
 .exact Nat.le_of_lt (x.above y c (PySem.mem_of_lookup h))
 .have hi:i < vs.length:=by
   unfold start at h2
   by_cases hi:i < vs.length
   .exact hi
   .rw [List.getElem?_append_right (by simpa using hi)] at h2
    rw [List.getElem?_replicate] at h2
    split at h2 <;> cases h2
  have ha:vs[i]?=some v:=by
   unfold start at h2;rw [List.getElem?_append_left (by simpa using hi),List.getElem?_map] at h2
   cases e:vs[i]? with
   | none=>rw [e] at h2;cases h2
   | some a=>rw [e] at h2;cases h2;rfl
  obtain ⟨u,hu,rv⟩:=r.get ha
  have hp:ps[i]?=some y:=by
   rw [<-S.pre,List.getElem?_take_of_lt (by omega)];exact h1
  have ndP:ps.Nodup:=by rw [<-S.pre];exact S.nd.sublist (List.take_sublist _ _)
  refine ⟨u,rv,?_⟩;rcases S.par y (List.mem_of_getElem? hp) with k | k
  .exact .inl ⟨k,W3 ndP hp hu k⟩
  .obtain ⟨c,e⟩:=RQ (n:=s.heap.objs.size + 1) k
   refine .inr ⟨.inl k,c,e,?_⟩;have q:=x.cell y c e;rw [W5 ndP hp hu (by show scope.names.lookup y≠_;rw [k];decide)] at q;exact q
 .exact e0.hok.fresh (Nat.le_of_lt (x.above y c (PySem.mem_of_lookup h)))
 .unfold start
  show _=N.length;rw [List.length_append,List.length_map,List.length_replicate];omega
theorem Kx{CX:CXT}{P:Program}{K:W.Frag}{dV kV doc pm cdv ct oc:Value}(lk:K.lookup f=some ⟨oc,od, .func (W.fnOf name qual params body scope dV kV doc pm an cdv ct),osl⟩)(hcd:W.codeIn K cdv qual=true)(S:ZX N ps scope)(len:∀ vs H Q E,sp vs H Q E->vs.length=ps.length)(hbody:∀ (A:Around) (outer:List Env) (s:Shared) (H:Hp) (vs:List V) (Q:VK) (E:XK),Ya k (A.deeper (envOfC qual scope s.heap.objs.size f cdv))->sp vs H Q E->
   ∃ t,PSs (Ys CX P w K mg base N qual scope f cdv A outer s H E) body t/\t {nx:=fun _ H'=>Q .non H',rt:=Q} (start N vs) H):
  ZN P w K mg base CX (k + 1) f (W.fnOf name qual params body scope dV kV doc pm an cdv ct) ps sp:=by
 refine ⟨len,fun A outer s H args us vs Q E hr e0 hb r hsp=>?_⟩;have hl:=len _ _ _ _ hsp;have KX:K.In s.heap:=e0.mod.kin.keeps fun b o e=>(e0.bs b o e).1;have lim:s.heap.NoLimit:=e0.mod.nolimit.keeps fun b o e=>(e0.bs b o e).1
 have hkind:∀ y∈ps.zip us,scope.names.lookup y.1=some .local \/ (scope.names.lookup y.1=some .cell/\((cellsFrom (s.heap.objs.size + 1) scope.names []).lookup y.1).isSome=true):=fun ⟨n,v⟩ hy=>by
  rcases S.par n (List.of_mem_zip hy).1 with q | q
  .exact .inl q
  .exact .inr ⟨q,W.cellsFrom_some _ _ _ (.inl q)⟩
 refine codeAny_call_function hr.depth (KX _ _ lk) rfl S.co S.gen rfl (W.codeRec_of KX hcd) (hb _ _ _ _ ?_);refine wpAny_newFunctionEnv_cells S.kind hkind fun env he s1 x=>?_;subst he;refine ⟨lim.keeps x.toInCall.keep,codeAny_func ?_⟩;obtain ⟨t,ht,hq⟩:=hbody A outer s H vs Q E (hr.deeper _) hsp;have I:Inv (Ys CX P w K mg base N qual scope f cdv A outer s H E) [] (start N vs) H s1:=BQ S hr.hd e0 hl r x;refine wpAny_mono (ht [] s1 (start N vs) H _ I hq) (fun fl s' hs=>?_) fun e s' hs=>hs
 have fin:∀ {U':St}{H':Hp}{v:V}{u:Value},Inv (Ys CX P w K mg base N qual scope f cdv A outer s H E) [] U' H' s'->RelV v u->Q v H'->CE outer P w H s Q u s':=
  fun {U' H' v u} J rv q=>⟨v,H',J.os,J.bare,J.base,J.hok,rv,q⟩
 cases fl with
 | ret u=>
  obtain ⟨v,U',H',J,rv,q⟩:=hs;exact fin J rv q
 | next=>
  obtain ⟨U',H',J,q⟩:=hs;exact fin (v:=V.non) (u:=Value.none) J rfl q
 | brk=>
  obtain ⟨_,_,_,q⟩:=hs;exact False.elim q
 | cont=>
  obtain ⟨_,_,_,q⟩:=hs;exact False.elim q
end L2
namespace L2
open PySem PySem.Spec PyProof.Rows
section
variable{t:TA}{id T:String}{r:List V->Hp->VK->Prop}
def tCB(r:List V->Hp->VK->Prop)(t:TA):TE:=fun U H Q=>t U H fun vs H1=>r vs H1 Q
theorem Zj(hc:Y9 X (.builtin id) r)(hg:Gl X x)(hm:X.mg x=none)(hv:bootBuiltins x=some (.builtin id))(ha:PA X (e::es) t)(hn:x≠"__name__" :=by decide)(hdb:(x==("__debug__" :Str))=false:=by decide)(he:starEach (e::es) X.env=(false,eval e X.env)::starEach es X.env:=by rfl)(hpl:(backTo pos (starEach es X.env)).any (·.1)=false:=by rfl):PE X (.Call (.Name x p) (e::es) [] pos) (tCB r t):=by
 intro pins s U H Q I h;refine wpAny_Call_Name_kw (U1 I hg hm hv ?_ hn hdb);exact PyProof.Rows.callWith_builtin1 (thn (ha pos pins s U H _ I h) fun us s1 ⟨vs,H1,I1,r1,q1⟩=>hc pins s1 U H1 vs us Q I1 r1 q1) he hpl
theorem Zo(hc:Y9 X (.type T) r)(hg:Gl X x)(hm:X.mg x=none)(hv:bootBuiltins x=some (.type T))(ha:PA X (e::es) t)(hn:x≠"__name__" :=by decide)(hdb:(x==("__debug__" :Str))=false:=by decide)(he:starEach (e::es) X.env=(false,eval e X.env)::starEach es X.env:=by rfl)(hpl:(backTo pos (starEach es X.env)).any (·.1)=false:=by rfl):PE X (.Call (.Name x p) (e::es) [] pos) (tCB r t):=by
 intro pins s U H Q I h;refine wpAny_Call_Name_kw (U1 I hg hm hv ?_ hn hdb);exact PyProof.Rows.callWith_type1 (thn (ha pos pins s U H _ I h) fun us s1 ⟨vs,H1,I1,r1,q1⟩=>hc pins s1 U H1 vs us Q I1 r1 q1) he hpl
end
end L2
namespace HT
open PySem PyProof.Rows
section
open PySem.SeqAt
open PySem.AutoSeq1 (wpAny_loadPart')
open PySem.MeetsSeq PySem.MeetsSeq2 PySem.MeetsSeq3
end
section
theorem cat_tup(ht:IsTup s.heap t vs.toArray)(hb:IsTup s.heap b ws.toArray)(hv:vs≠ [])(h1:ws= []->Q (.ref t) s)(h2:ws≠ []->Q (.ref s.heap.objs.size) {s with heap:=s.heap.push {cls:= .type "tuple",data:= .seq (vs++ ws).toArray}})(hsz:vs.length + ws.length<=sizeLine):wpAny (model prog w) A (binaryOp .Add (.ref t) (.ref b)) Q E s:=by
 obtain ⟨⟨cls,dd,data,sl⟩,ho,hc,n,hd⟩:=id ht;obtain ⟨⟨cls2,dd2,data2,sl2⟩,ho2,hc2,n2,hd2⟩:=id hb;simp only at hc hd hc2 hd2;subst hc hd hc2 hd2;have e:vs.toArray++ ws.toArray=(vs++ ws).toArray:=by simp
 by_cases hw:ws= []
 .exact concat_meets ⟨_,ho,rfl⟩ ⟨_,ho2,rfl⟩ noFill_tuple_add seq_tuple_add PySem.F.slot_tuple_add PySem.F.entry_tuple_add (PySem.F.args_tuple_add_2 _ _)
   (tuple_addW1 t b vs.toArray ws.toArray n n2 dd dd2 sl sl2 (by simpa using hv) (by simp [hw])) ⟨ho,ho2,h1 hw⟩
 .refine concat_meets ⟨_,ho,rfl⟩ ⟨_,ho2,rfl⟩ noFill_tuple_add seq_tuple_add PySem.F.slot_tuple_add PySem.F.entry_tuple_add (PySem.F.args_tuple_add_2 _ _)
   (tuple_addW2 t b vs.toArray ws.toArray n n2 dd dd2 sl sl2 (by simpa using hv) (by simpa using hw) (by rw [List.size_toArray,List.size_toArray];exact hsz)) ⟨ho,ho2,?_⟩
  rw [e];exact h2 hw
def sIx(n d:Nat):Option Int->Nat
 | none=>d
 | some v=>if v < 0 then (v + (n:Int)).toNat else min v.toNat n
theorem sIx_none(n d:Nat):sIx n d none=d:=rfl
theorem sIx_nat(n d k:Nat):sIx n d (some (k:Int))=min k n:=by
 show (if (k:Int) < 0 then ((k:Int) + (n:Int)).toNat else min (k:Int).toNat n)=min k n;rw [if_neg (by omega),Int.toNat_natCast]
theorem LP(n d:Nat)(hd:d<=n)(o:Option Int):sIx n d o<=n:=by
 cases o with
 | none=>exact hd
 | some v=>
  show (if v < 0 then (v + (n:Int)).toNat else min v.toNat n)<=n
  by_cases hv:v < 0
  .rw [if_pos hv];omega
  .rw [if_neg hv];exact Nat.min_le_right _ _
theorem Nh(v:Int)(n d:Nat):(if v < 0 then max (v + (n:Int)) 0 else min v (n:Int))=((sIx n d (some v):Nat):Int):=by
 show (if v < 0 then max (v + (n:Int)) 0 else min v (n:Int))=(((if v < 0 then (v + (n:Int)).toNat else min v.toNat n):Nat):Int)
 by_cases hv:v < 0
 .simp only [if_pos hv];omega
 .simp only [if_neg hv];omega
theorem Mu(lo hi:Option Int)(n:Nat):Builtin.Slice.sliceAdjust lo hi 1 (n:Int)=(((sIx n 0 lo:Nat):Int),((sIx n n hi:Nat):Int)):=by
 have h1: ¬ ((1:Int) < 0):=by omega
 unfold Builtin.Slice.sliceAdjust;simp only [h1,if_false];refine Prod.ext ?_ ?_
 .cases lo with
  | none=>rfl
  | some v=>exact Nh v n 0
 .cases hi with
  | none=>rfl
  | some v=>exact Nh v n n
theorem MP(i j:Nat):Builtin.Slice.slicePlaces (i:Int) (j:Int) 1=j - i:=by
 unfold Builtin.Slice.slicePlaces;have h1:(1:Int) > 0:=by omega
 simp only [h1,if_true,Int.ediv_one]
 split <;> omega
theorem Xy(p:IsPart v o)(h:Q o s):wpAny (model prog w) A (Builtin.Slice.slicePartIndex v) Q E s:=by
 cases p with
 | none=>exact slicePart_none h
 | int i t=>exact slicePart_int h
theorem Ur{lo hi:Option Int}{n:Nat}(hs:s.heap.IsSliceOf sl vl vu .none)(pl:IsPart vl lo)(pu:IsPart vu hi)(h:Q (((sIx n 0 lo:Nat):Int),1,sIx n n hi - sIx n 0 lo) s):wpAny (model prog w) A (Builtin.Slice.sliceApplied (.ref sl) (pure (n:Int))) Q E s:=by
 obtain ⟨os,hos,hcs,hds⟩:=id hs;unfold Builtin.Slice.sliceApplied Builtin.Slice.sliceFields;refine wpAny_bind (wpAny_bind (wpAny_field hos hds (x:=vl) rfl (wpAny_bind (wpAny_field hos hds (x:=vu) rfl (wpAny_bind (wpAny_field hos hds (x:= .none) rfl (wpAny_pure ?_)))))));refine wpAny_bind (slicePart_none ?_);show wpAny _ _ (if ((1:Int)==0)=true then _ else _) _ _ s;rw [if_neg (by decide)];refine wpAny_bind (Xy pl (wpAny_bind (Xy pu (wpAny_bind (wpAny_pure ?_)))));show wpAny _ _ (match Builtin.Slice.sliceAdjust lo hi 1 (n:Int) with | (lo,hi)=>pure (lo,(1:Int),Builtin.Slice.slicePlaces lo hi 1)) _ _ s;rw [Mu lo hi n];show wpAny _ _ (pure (((sIx n 0 lo:Nat):Int),(1:Int),Builtin.Slice.slicePlaces ((sIx n 0 lo:Nat):Int) ((sIx n n hi:Nat):Int) 1)) _ _ s;rw [MP];exact wpAny_pure h
theorem Dl(xs:Array Value)(i k:Nat):((List.range k).filterMap fun (m:Nat)=>xs[((i:Int) + (m:Int) * 1).toNat]?).toArray=((xs.toList.drop i).take k).toArray:=by
 have e:(fun (m:Nat)=>xs[((i:Int) + (m:Int) * 1).toNat]?)=fun m=>xs[i + m]?:=by
  funext m
  have:((i:Int) + (m:Int) * 1).toNat=i + m:=by omega
  rw [this]
 rw [e];have:=pick_run xs i k;rw [List.filterMap_map] at this;have e2:((fun x=>xs[x]?) ∘ fun x=>i + x)=fun m=>xs[i + m]?:=rfl;rw [e2] at this;rw [this]
theorem getItem_tuple_cut{lo hi:Option Int}(ht:IsTup s.heap t items)(hs:s.heap.IsSliceOf sl vl vu .none)(pl:IsPart vl lo)(pu:IsPart vu hi)(hw: ¬ (sIx items.size 0 lo=0/\sIx items.size items.size hi=items.size))(h:Q (.ref s.heap.objs.size) {s with heap:=s.heap.push {cls:= .type "tuple",data:= .seq ((items.toList.drop (sIx items.size 0 lo)).take (sIx items.size items.size hi - sIx items.size 0 lo)).toArray}})(hsz:items.size<=sizeLine):wpAny (model prog w) A (getItem (.ref t) (.ref sl)) Q E s:=by
 have htake:sizeOk (.seq ((items.toList.drop (sIx items.size 0 lo)).take (sIx items.size items.size hi - sIx items.size 0 lo)).toArray):=by
  show ((items.toList.drop (sIx items.size 0 lo)).take (sIx items.size items.size hi - sIx items.size 0 lo)).toArray.size<=sizeLine;rw [List.size_toArray,List.length_take,List.length_drop,Array.length_toList];omega
 have hj:sIx items.size items.size hi<=items.size:=LP _ _ (Nat.le_refl _) hi;obtain ⟨os,hos,hcs,hds⟩:=id hs;have hTs:s.TypeIs (.ref sl) "slice" :=⟨os,hos,hcs⟩;unfold getItem
 try with_reducible refine wpAny_holding ?_
 first | refine wpAny_bind (wpAny_pure ?_) | skip
 refine wpAny_bind (wpAny_sequenceKey ht.typeIs (by decide) ?_);refine wpAny_bind (wpAny_callSpecial?_slot (name:=Str.ofString "__getitem__") ht.typeIs PyProof.Rows.slot_tuple_getitem
  (wpAny_call_entry PyProof.Rows.slot_tuple_getitem ht.typeIs entry_tuple_getitem ?_ (args_tuple_getitem _ _)))
 show wpAny _ _ (Builtin.Tuple.tupleItemsOf (.ref t) >>=_) _ _ s;refine wpAny_bind (tupleItemsOf_ ht ?_);refine wpAny_bind (wpAny_typeOf hTs ?_);rw [if_pos (by decide)];refine wpAny_bind (Ur hs pl pu ?_)
 have hno: ¬ ((((sIx items.size 0 lo:Nat):Int)==0 && (1:Int)==1 && (sIx items.size items.size hi - sIx items.size 0 lo)==items.size)=true):=by
  intro q;rw [Bool.and_eq_true,Bool.and_eq_true] at q;have q1:((sIx items.size 0 lo:Nat):Int)=0:=eq_of_beq q.1.1;have q2:sIx items.size items.size hi - sIx items.size 0 lo=items.size:=eq_of_beq q.2;exact hw ⟨by omega,by omega⟩
 show wpAny _ _ (if (((sIx items.size 0 lo:Nat):Int)==0 && (1:Int)==1 && (sIx items.size items.size hi - sIx items.size 0 lo)==items.size)=true then _ else _) _ _ s;rw [if_neg hno,Dl]
 first
  | exact wpAny_bind (m:=Builtin.Tuple.tupleExact _) (wpAny_newObj_type (wpAny_pure ⟨_,rfl,wpAny_pure h⟩) htake)
  | exact wpAny_bind (m:=Builtin.Tuple.tupleExact _) (wpAny_newObj_type (wpAny_bind (wpAny_pure (wpAny_pure ⟨_,rfl,wpAny_pure h⟩))) htake)
  | exact wpAny_bind (wpAny_bind (m:=Builtin.Tuple.tupleExact _) (wpAny_newObj_type (wpAny_pure (wpAny_pure ⟨_,rfl,wpAny_pure h⟩)) htake))
  | exact wpAny_bind (wpAny_bind (m:=Builtin.Tuple.tupleExact _) (wpAny_newObj_type (wpAny_pure ⟨_,rfl,wpAny_pure h⟩) htake))
end
end HT
namespace L2
open PySem PySem.Spec PyProof.Rows
abbrev TO:=St->Hp->(Option Int->Hp->Prop)->Prop
def PO(X:Cx)(e:Option Expr)(t:TO):Prop:=
 ∀ (pins:List (Addr × Obj)) (s:Shared) (U:St) (H:Hp) (Q:Option Int->Hp->Prop),Inv X pins U H s->t U H Q->
  wpAny (model X.prog X.w) X.A (evalPart e X.env) (fun u s'=> ∃ o H',Inv X pins U H' s'/\IsPart u o/\Q o H') X.xe s
def FX:TO:=fun _ H Q=>Q none H
def OE(t:TE):TO:=fun U H Q=>t U H fun x H1=> ∃ i,x= .int i/\Q (some i) H1
section
variable{X:Cx}{te:TE}{lo hi:Option Expr}{tl th:TO}
theorem VU:PO X none FX:=by
 intro pins s U H Q I h;rw [evalPart_none];exact wpAny_pure ⟨none,H,I, .none,h⟩
theorem Y2(h:PE X e te):PO X (some e) (OE te):=by
 intro pins s U H Q I hw;rw [evalPart_some];refine thn (h pins s U H _ I hw) fun u s1 ⟨x,H1,I1,r1,q1⟩=>?_;obtain ⟨i,rfl,q⟩:=q1;obtain ⟨t,rfl⟩:=r1;exact ⟨some i,H1,I1, .int i t,q⟩
def SlR(X:Cx)(r:V->Option Int->Option Int->Hp->VK->Prop):Prop:=
 ∀ (pins:List (Addr × Obj)) (s:Shared) (U:St) (H:Hp) (x:V) (v vl vu:Value) (lo hi:Option Int) (sl:Addr) (Q:VK),Inv X pins U H s->RelV x v->s.heap.IsSliceOf sl vl vu .none->IsPart vl lo->IsPart vu hi->r x lo hi H Q->
  ∃ T id,typeLookup (.type T) "__getitem__" =pure (some (.builtin id))/\s.TypeIs v T/\wpAny (model X.prog X.w) X.A (getItem v (.ref sl)) (EP X pins U Q) X.xe s
def tSl(r:V->Option Int->Option Int->Hp->VK->Prop)(te:TE)(tl th:TO):TE:=fun U H Q=>te U H fun x H1=>tl U H1 fun l H2=>th U H2 fun u H3=>r x l u H3 Q
theorem Yw(hr:SlR X r)(he:PE X e te)(hl:PO X lo tl)(hu:PO X hi th):PE X (.Subscript e (.Slice lo hi none p2) pos) (tSl r te tl th):=by
 intro pins s U H Q I h;refine Subscript_ (thn (he pins s U H _ I h) fun v s1 ⟨x,H1,I1,r1,q1⟩=>?_);refine wpAny_Slice (thn (hl pins s1 U H1 _ I1 q1) fun vl s2 ⟨l,H2,I2,pl,q2⟩=>thn (hu pins s2 U H2 _ I2 q2) fun vu s3 ⟨u,H3,I3,pu,q3⟩=>?_);rw [evalPart_none];refine wpAny_pure ?_;have I4:Inv X pins U H3 {s3 with heap:=s3.heap.push {cls:= .type "slice",data:= .fields #[vl,vu, .none]}}:=I3.kept (t':=s3.toks) fun b ob q=>Heap.get?_push_of_some _ q;obtain ⟨T,id,hT,ht,hg⟩:=hr pins {s3 with heap:=s3.heap.push {cls:= .type "slice",data:= .fields #[vl,vu, .none]}} U H3 x v vl vu l u s3.heap.objs.size Q I4 r1 (Heap.IsSliceOf.new ..) pl pu q3;show wpAny (model X.prog X.w) X.A (subscriptTail e (.Slice lo hi none p2) v (.ref s3.heap.objs.size)) (EP X pins U Q) X.xe {s3 with heap:=s3.heap.push {cls:= .type "slice",data:= .fields #[vl,vu, .none]}};exact tail_any (ops:= [.ref s3.heap.objs.size,v]) ht hT hg (by with_unfolding_all rfl)
def JE(xs:List V)(lo hi:Option Int):List V:=(xs.drop (HT.sIx xs.length 0 lo)).take (HT.sIx xs.length xs.length hi - HT.sIx xs.length 0 lo)
theorem XM(xs:List V)(lo hi:Option Int):(JE xs lo hi).length<=xs.length:=by
 unfold JE;rw [List.length_take,List.length_drop];omega
def O2(K:W.Frag):V->Option Int->Option Int->Hp->VK->Prop:=fun x lo hi H Q=> ∃ a xs,x= .ref a/\SqT K H a xs/\
 ¬ (HT.sIx xs.length 0 lo=0/\HT.sIx xs.length xs.length hi=xs.length)/\∀ p,H p=none->Q (.ref p) (upd H p (.tup (JE xs lo hi)))
theorem Rk:SlR X (O2 X.K):=by
 intro pins s U H x v vl vu lo hi sl Q I rx hs pl pu h;obtain ⟨a,xs,rfl,hx,hw,q⟩:=h;cases rx;obtain ⟨its,r,ht,hz⟩:=I.tuple hx;have hlen:its.toArray.size=xs.length:=by rw [List.size_toArray];exact r.length.symm
 refine ⟨"tuple",_,PyProof.Rows.slot_tuple_getitem.lookup,ht.typeIs,?_⟩;refine HT.getItem_tuple_cut ht hs pl pu (by rw [hlen];exact hw) ?_ (by rw [hlen];exact hz);rw [hlen];refine ⟨.ref s.heap.objs.size,_,I.laid (t':=s.toks) (o:= .tup (JE xs lo hi)) (fun b ob q=>Heap.get?_push_of_some _ q) (Nat.le_refl _) ?_,rfl,q _ (I.hok.fresh (Nat.le_refl _))⟩;exact ⟨Nat.le_trans (XM xs lo hi) hz,_,(r.drop (HT.sIx xs.length 0 lo)).take (HT.sIx xs.length xs.length hi - HT.sIx xs.length 0 lo),XT.new _ _⟩
def Tz(K:W.Frag):R2:=fun x y H Q=> ∃ a b xs ys,x= .ref a/\y= .ref b/\SqT K H a xs/\SqT K H b ys/\xs≠ []/\xs.length + ys.length<=sizeLine/\
 (ys= []->Q (.ref a) H)/\(ys≠ []->∀ p,H p=none->Q (.ref p) (upd H p (.tup (xs++ ys))))
theorem Vals.nil_iff(r:Vals xs us):us= []↔xs= []:=by
 cases r with
 | nil=>simp
 | cons _ _=>simp
theorem NO:OpR X (binaryOp .Add) (Tz X.K):=by
 intro pins s U H x y v u Q I rx ry h;obtain ⟨a,b,xs,ys,rfl,rfl,ha,hb,hx,hz,q1,q2⟩:=h;cases rx;cases ry;obtain ⟨its,r1,p1,_⟩:=I.tuple ha;obtain ⟨its2,r2,p2,_⟩:=I.tuple hb;refine HT.cat_tup p1 p2 (fun z=>hx (r1.nil_iff.mp z)) (fun z=>⟨.ref a,H,I,rfl,q1 (r2.nil_iff.mp z)⟩) (fun z=>?_) (by rw [<-r1.length,<-r2.length];exact hz);refine ⟨.ref s.heap.objs.size,_,I.laid (t':=s.toks) (o:= .tup (xs++ ys)) (fun b ob q=>Heap.get?_push_of_some _ q) (Nat.le_refl _) ?_,rfl,q2 (fun w=>z (r2.nil_iff.mpr w)) _ (I.hok.fresh (Nat.le_refl _))⟩;exact ⟨by rw [List.length_append];exact hz,_,r1.append r2,XT.new _ _⟩
end
end L2
namespace L2
open PySem PySem.Spec PyProof.Rows
def ixN(n:Nat)(i:Int):Option Nat:=if 0<=i then (if i < n then some i.toNat else none) else if -(n:Int)<=i then some (i + n).toNat else none
def atI{α:Type}(xs:List α)(i:Int):Option α:=(ixN xs.length i).bind fun j=>xs[j]?
theorem NV(h:ixN n i=some j):seqIndex? i n=some j/\j < n/\ -(n:Int)<=i/\i < n:=by
 unfold ixN at h
 by_cases h0:0<=i
 .rw [if_pos h0] at h
  by_cases h1:i < n
  .rw [if_pos h1] at h
   have e:i.toNat=j:=Option.some.inj h;exact ⟨by rw [seqIndex_of h0 h1,e],by omega,by omega,h1⟩
  .rw [if_neg h1] at h;cases h
 .rw [if_neg h0] at h
  by_cases h1: -(n:Int)<=i
  .rw [if_pos h1] at h
   have e:(i + n).toNat=j:=Option.some.inj h;exact ⟨by rw [seqIndex_neg (by omega) h1,e],by omega,h1,by omega⟩
  .rw [if_neg h1] at h;cases h
theorem Tf(h:atI xs i=some v):∃ j,seqIndex? i xs.length=some j/\xs[j]?=some v/\j < xs.length/\ -(xs.length:Int)<=i/\i < xs.length:=by
 unfold atI at h
 cases e:ixN xs.length i with
 | none=>rw [e] at h;cases h
 | some j=>
  rw [e] at h;obtain ⟨h1,h2,h3,h4⟩:=NV e;exact ⟨j,h1,h,h2,h3,h4⟩
theorem Z7{xs:List α}{j:Nat}{v:α}(h:xs[j]?=some v):atI xs (j:Int)=some v:=by
 have hj:j < xs.length:=(List.getElem?_eq_some_iff.mp h).1
 have e:ixN xs.length (j:Int)=some j:=by
  unfold ixN;rw [if_pos (by omega),if_pos (by omega)];simp
 unfold atI;rw [e];exact h
def Kc(b:Expr):Prop:= ∀ o i,subscripted b false o i=operate [o,i] (getItem o i)
def IxR(X:Cx)(r:R2):Prop:=
 ∀ (value slice:Expr) (pins:List (Addr × Obj)) (s:Shared) (U:St) (H:Hp) (x y:V) (v u:Value) (Q:VK),Inv X pins U H s->RelV x v->RelV y u->r x y H Q->
  subscripted slice false v u=operate [v,u] (getItem v u)->wpAny (model X.prog X.w) X.A (subscriptTail value slice v u) (EP X pins U Q) X.xe s
def MtR(X:Cx)(id:String)(r:V->List V->Hp->VK->Prop):Prop:=
 ∀ (pins:List (Addr × Obj)) (s:Shared) (U:St) (H:Hp) (x:V) (xs:List V) (v:Value) (us:List Value) (Q:VK),Inv X pins U H s->RelV x v->Vals xs us->r x xs H Q->
  wpAny (model X.prog X.w) X.A (call (.builtin id) (v::us)) (EP X pins U Q) X.xe s
section
variable{a b:Expr}{ta tb:TE}
theorem ZY(hr:IxR X r)(ha:PE X a ta)(hb:PE X b tb)(hs:Kc b:=by exact fun _ _=>rfl):PE X (.Subscript a b pos) (tOp r ta tb):=by
 intro pins s U H Q I h;exact Subscript_ (L4 ha hb I h fun v u s2 x y H2 I2 rx ry q=>hr a b pins s2 U H2 x y v u Q I2 rx ry q (hs _ _))
def Fu(K:W.Frag):R2:=fun x y H Q=>VN x fun p=>Vt y fun i=> ∃ xs v,SqL K H p xs/\atI xs i=some v/\Q v H
theorem Fu.old{K:W.Frag}(h:Fu K x y H Q):∃ p xs i v,x= .ref p/\y= .int i/\SqL K H p xs/\atI xs i=some v/\Q v H:=by
 replace h:=VN.old h;obtain ⟨p,e,h⟩:=h;replace h:=Vt.old h;obtain ⟨i,e',xs,v,h⟩:=h;exact ⟨p,xs,i,v,e,e',h⟩
def UY(K:W.Frag):R2:=fun x y H Q=>VN x fun p=>Vt y fun i=> ∃ xs v,SqT K H p xs/\atI xs i=some v/\Q v H
theorem UY.old{K:W.Frag}(h:UY K x y H Q):∃ p xs i v,x= .ref p/\y= .int i/\SqT K H p xs/\atI xs i=some v/\Q v H:=by
 replace h:=VN.old h;obtain ⟨p,e,h⟩:=h;replace h:=Vt.old h;obtain ⟨i,e',xs,v,h⟩:=h;exact ⟨p,xs,i,v,e,e',h⟩
def OS:R2:=fun x y H Q=> ∃ z i c,x= .str z/\y= .int i/\z.length<=sizeLine/\atI z.cps.toList i=some c/\Q (.str ⟨#[c]⟩) H
theorem Zm:IxR X (Fu X.K):=by
 intro value slice pins s U H x y v u Q I rx ry h hs;replace h:=Fu.old h;obtain ⟨p,xs,i,z,rfl,rfl,hq,he,q⟩:=h;cases rx;obtain ⟨t,rfl⟩:=ry;obtain ⟨its,r,pl,hz⟩:=I.list hq;obtain ⟨j,h1,h2,h3,h4,h5⟩:=Tf he;obtain ⟨w,ew,rw'⟩:=r.get h2;have hl:=r.length;have hn:=U0;have fin:EP X pins U Q w s:=⟨z,H,I,rw',q⟩
 by_cases h0:0<=i
 .have hj:i.toNat=j:=by
   rw [seqIndex_of h0 h5] at h1;exact Option.some.inj h1
  exact item_listR pl.isList h0 (by omega) (by rw [hj];simpa using ew) fin hs
 .have hj:(i + (its.toArray.size:Int)).toNat=j:=by
   rw [seqIndex_neg (by omega) h4] at h1;rw [List.size_toArray,<-hl];exact Option.some.inj h1
  exact subscriptTail_builtinR (x:=w) pl.isList.typeIs slot_list_getitem.lookup
   (wpAny_getItem_list_neg (Q:=fun r s'=>r=w/\EP X pins U Q r s') pl.isList (by omega) (by rw [List.size_toArray] <;> omega) (by omega) (by rw [hj];simpa using ew) ⟨rfl,fin⟩) hs
theorem Za:IxR X (UY X.K):=by
 intro value slice pins s U H x y v u Q I rx ry h hs;replace h:=UY.old h;obtain ⟨p,xs,i,z,rfl,rfl,hq,he,q⟩:=h;cases rx;obtain ⟨t,rfl⟩:=ry;obtain ⟨its,r,pl,hz⟩:=I.tuple hq;obtain ⟨j,h1,h2,h3,h4,h5⟩:=Tf he;obtain ⟨w,ew,rw'⟩:=r.get h2;have hl:=r.length;have hn:=U0;have fin:EP X pins U Q w s:=⟨z,H,I,rw',q⟩;exact subscriptTail_builtinR (x:=w) pl.typeIs slot_tuple_getitem.lookup
  (getItem_tuple (j:=j) (Q:=fun r s'=>r=w/\EP X pins U Q r s') pl (by omega) (by omega) (by rw [List.size_toArray,<-hl];exact h1) (by simpa using ew) ⟨rfl,fin⟩) hs
theorem Md:IxR X OS:=by
 intro value slice pins s U H x y v u Q I rx ry h hs;obtain ⟨z,i,c,rfl,rfl,hz,he,q⟩:=h;obtain ⟨t,rfl⟩:=rx;obtain ⟨t',rfl⟩:=ry;obtain ⟨j,h1,h2,h3,h4,h5⟩:=Tf he;have hl:z.cps.toList.length=z.length:=by simp [Str.length]
 rw [hl] at h1 h4 h5;have hn:=U0
 exact tail_any (typeIs_str s z t) slot_str_getitem.lookup (getItem_str (c:=c) (by
  have e1:decide (i < -(2 ^ 63:Int))=false:=decide_eq_false (by omega);have e2:decide (i ≥ 2 ^ 63)=false:=decide_eq_false (by omega);rw [e1,e2,Bool.or_false]) (by rw [h1];simpa using h2) ⟨.str ⟨#[c]⟩,H,I.tok _,⟨_,rfl⟩,q⟩) hs
theorem MY(its:List Value)(n j:Nat)(u:Value):Obj.mapSeq (·.setIfInBounds j u) {cls:= .type "list",data:= .seq its.toArray n}={cls:= .type "list",data:= .seq (its.set j u).toArray n}:=by
 simp [Obj.mapSeq]
theorem Inv.lst(I:Inv X pins U H s)(h:H p=some (.lst xs)):
  ∃ (its:List Value) (n:Nat),Vals xs its/\s.heap.get? p=some {cls:= .type "list",data:= .seq its.toArray n}/\xs.length<=sizeLine:=by
 obtain ⟨z,its,n,r,e⟩:=I.hok p _ h;exact ⟨its,n,r,e,z⟩
theorem Inv.lstUpd{its its':List Value}(I:Inv X pins U H s)(h:H p=some (.lst xs))(ho:s.heap.get? p=some {cls:= .type "list",data:= .seq its.toArray n})(hf:f {cls:= .type "list",data:= .seq its.toArray n}={cls:= .type "list",data:= .seq its'.toArray n'})(r:Vals ys its')(hz:ys.length<=sizeLine)(t:Nat):
  Inv X pins U (upd H p (.lst ys)) {s with heap:=s.heap.update p f,toks:=t}:=by
 have e:(s.heap.update p f).get? p=some {cls:= .type "list",data:= .seq its'.toArray n'}:=by
  rw [Heap.get?_update_self f ho (by rw [hf] <;> rfl),hf]
 refine I.write (x:=p) (e:=p) (by rw [h];trivial) (.inl rfl) (fun b u hb q=>(Heap.get?_update_other _ _ (Ne.symm hb)).trans q) ⟨_,e⟩ ?_;exact ⟨hz,its',n',r,e⟩
def OQ:V->V->V->Hp->(Hp->Prop)->Prop:=fun o i v H Q=> ∃ p xs k j,o= .ref p/\i= .int k/\H p=some (.lst xs)/\ixN xs.length k=some j/\Q (upd H p (.lst (xs.set j v)))
theorem set_list:Oq X OQ:=by
 intro pins s U H o i v ov iv u Q I ro ri rv h;obtain ⟨p,xs,k,j,rfl,rfl,hp,hj,q⟩:=h;cases ro;obtain ⟨t,rfl⟩:=ri;obtain ⟨its,n,r,ho,hz⟩:=I.lst hp;obtain ⟨h1,h2,h3,h4⟩:=NV hj;have hl:=r.length;have hn:=U0
 have I':Inv X pins U (upd H p (.lst (xs.set j v))) {s with heap:=s.heap.update p (Obj.mapSeq (·.setIfInBounds j u))}:=
  I.lstUpd hp ho (MY its n j u) (r.set rv j) (by rw [List.length_set];exact hz) s.toks
 by_cases h0:0<=k
 .have hk:k.toNat=j:=by
   rw [seqIndex_of h0 h4] at h1;exact Option.some.inj h1
  exact W.ki_setAt ho h0 (by omega) (by rw [List.size_toArray,<-hl];exact h4) (by rw [hk];exact ⟨_,I',q⟩)
 .have hk:(k + (its.toArray.size:Int)).toNat=j:=by
   rw [seqIndex_neg (by omega) h3] at h1;rw [List.size_toArray,<-hl];exact Option.some.inj h1
  exact W.ki_setBack ho (by omega) (by rw [List.size_toArray,<-hl];exact h3) (by omega) (by rw [hk];exact ⟨_,I',q⟩)
theorem Gd(lo hi:Option Int)(n:Nat):(sliceBounds lo hi none n).1=((HT.sIx n 0 lo:Nat):Int)/\(sliceBounds lo hi none n).2.1=((HT.sIx n n hi:Nat):Int)/\(sliceBounds lo hi none n).2.2=1:=by
 refine ⟨?_,?_,rfl⟩
 .cases lo with
  | none=>simp [sliceBounds,HT.sIx]
  | some i=>
   simp only [sliceBounds,HT.sIx,Option.getD_none,show (1:Int) > 0 by decide,if_true]
   by_cases h:i < 0
   .simp only [h,if_true] <;> omega
   .simp only [h,if_false] <;> omega
 .cases hi with
  | none=>simp [sliceBounds,HT.sIx]
  | some i=>
   simp only [sliceBounds,HT.sIx,Option.getD_none,show (1:Int) > 0 by decide,if_true]
   by_cases h:i < 0
   .simp only [h,if_true] <;> omega
   .simp only [h,if_false] <;> omega
theorem WX(its:List Value)(lo hi:Option Int):slicePick its.toArray lo hi none=((its.drop (HT.sIx its.length 0 lo)).take (HT.sIx its.length its.length hi - HT.sIx its.length 0 lo)).toArray:=by
 obtain ⟨h1,h2,h3⟩:=Gd lo hi its.toArray.size;unfold slicePick;rw [h1,h2,h3];simp only [sliceRange_one,pick_run,List.size_toArray] <;> rfl
def O4(K:W.Frag):V->Option Int->Option Int->Hp->VK->Prop:=fun x lo hi H Q=> ∃ a xs,x= .ref a/\SqL K H a xs/\∀ p,H p=none->Q (.ref p) (upd H p (.lst (JE xs lo hi)))
theorem Ge:SlR X (O4 X.K):=by
 intro pins s U H x v vl vu lo hi sl Q I rx hs pl pu h;obtain ⟨a,xs,rfl,hx,q⟩:=h;cases rx;obtain ⟨its,r,ht,hz⟩:=I.list hx;have hlen:=r.length;refine ⟨"list",_,slot_list_getitem.lookup,ht.isList.typeIs,?_⟩;refine wpAny_getItem_list_slice ht.isList hs pl pu .none (by simp) ?_ (by rw [List.size_toArray] <;> omega);rw [WX,<-hlen];refine ⟨.ref s.heap.objs.size,_,I.laid (t':=s.toks) (o:= .lst (JE xs lo hi)) (fun b ob q=>Heap.get?_push_of_some _ q) (Nat.le_refl _) ?_,rfl,q _ (I.hok.fresh (Nat.le_refl _))⟩;exact ⟨Nat.le_trans (XM xs lo hi) hz,_,0,(r.drop (HT.sIx xs.length 0 lo)).take (HT.sIx xs.length xs.length hi - HT.sIx xs.length 0 lo),Heap.get?_push_size _ rfl⟩
def Ue:V->Bool
 | .non=>true
 | .bl _=>true
 | .int _=>true
 | .str _=>true
 | _=>false
def eqV:V->V->Bool
 | .non, .non=>true
 | .bl a, .bl b=>a==b
 | .bl a, .int b=>(if a then 1 else 0)==b
 | .int a, .bl b=>a==(if b then 1 else 0)
 | .int a, .int b=>a==b
 | .str a, .str b=>a==b
 | _,_=>false
theorem Ly(ry:RelV y u)(rx:RelV x v)(fy:Ue y=true)(fx:Ue x=true):SeqAt.EqAt A s u v (eqV y x):=by
 cases y with
 | non=>
  cases ry
  cases x with
  | non=>cases rx;exact SeqAt.EqAt.same _
  | bl b=>cases rx;exact SeqAt.EqAt.none_bool b
  | int b=>obtain ⟨t,rfl⟩:=rx;exact SeqAt.EqAt.none_int b t
  | str b=>obtain ⟨t,rfl⟩:=rx;exact SeqAt.EqAt.none_str b t
  | _=>exact absurd (show false=true from fx) Bool.false_ne_true
 | bl a=>
  cases ry
  cases x with
  | non=>cases rx;exact SeqAt.EqAt.bool_none a
  | bl b=>cases rx;exact SeqAt.EqAt.bool_bool a b
  | int b=>obtain ⟨t,rfl⟩:=rx;exact SeqAt.EqAt.bool_int a b t
  | str b=>obtain ⟨t,rfl⟩:=rx;exact SeqAt.EqAt.bool_str a b t
  | _=>exact absurd (show false=true from fx) Bool.false_ne_true
 | int a=>
  obtain ⟨t',rfl⟩:=ry
  cases x with
  | non=>cases rx;exact SeqAt.EqAt.int_none a t'
  | bl b=>cases rx;exact SeqAt.EqAt.int_bool a t' b
  | int b=>obtain ⟨t,rfl⟩:=rx;exact SeqAt.EqAt.int_int a t' b t
  | str b=>obtain ⟨t,rfl⟩:=rx;exact SeqAt.EqAt.int_str a t' b t
  | _=>exact absurd (show false=true from fx) Bool.false_ne_true
 | str a=>
  obtain ⟨t',rfl⟩:=ry
  cases x with
  | non=>cases rx;exact SeqAt.EqAt.str_none a t'
  | bl b=>cases rx;exact SeqAt.EqAt.str_bool a t' b
  | int b=>obtain ⟨t,rfl⟩:=rx;exact SeqAt.EqAt.str_int a t' b t
  | str b=>obtain ⟨t,rfl⟩:=rx;exact SeqAt.EqAt.str_str a t' b t
  | _=>exact absurd (show false=true from fx) Bool.false_ne_true
 | _=>exact absurd (show false=true from fy) Bool.false_ne_true
def eqU(x:V)(u:Value):Bool:=match u with
 | .none=>eqV .non x
 | .bool b=>eqV (.bl b) x
 | .int i _=>eqV (.int i) x
 | .str z _=>eqV (.str z) x
 | _=>false
theorem Ez(r:RelV y u)(f:Ue y=true):eqU x u=eqV y x:=by
 cases y with
 | non=>cases r;rfl
 | bl b=>cases r;rfl
 | int i=>obtain ⟨t,rfl⟩:=r;rfl
 | str z=>obtain ⟨t,rfl⟩:=r;rfl
 | _=>exact absurd (show false=true from f) Bool.false_ne_true
theorem Ul:∀ {xs:List V}{us:List Value},Vals xs us->xs.all Ue=true->us.any (eqU x)=xs.any fun y=>eqV y x
 | _,_, .nil,_=>rfl
 | y::xs,u::us, .cons r t,f=>by
  rw [List.all_cons,Bool.and_eq_true] at f;rw [List.any_cons,List.any_cons,Ez r f.1,Ul t f.2]
theorem Jn(rx:RelV x v)(fx:Ue x=true):∀ {xs:List V}{us:List Value},Vals xs us->xs.all Ue=true->∀ u∈us,SeqAt.EqAt A s u v (eqU x u)
 | _,_, .nil,_=>fun u hu=>by cases hu
 | y::xs,u::us, .cons r t,f=>fun u' hu=>by
  rw [List.all_cons,Bool.and_eq_true] at f;rcases List.mem_cons.mp hu with rfl | hu
  .rw [Ez r f.1];exact Ly r rx f.1 fx
  .exact Jn rx fx t f.2 u' hu
def inV(x:V)(xs:List V):Bool:=xs.any fun y=>eqV y x
def rIn(K:W.Frag)(neg:Bool):R2:=fun x y H Q=> ∃ p xs,y= .ref p/\(SqL K H p xs \/ SqT K H p xs)/\Ue x=true/\xs.all Ue=true/\Q (.bl (if neg then !inV x xs else inV x xs)) H
theorem Wp:OpR X (compareOp .In) (rIn X.K false):=by
 intro pins s U H x y v u Q I rx ry h;obtain ⟨p,xs,rfl,hq,fx,fs,q⟩:=h;cases ry;rcases hq with hq | hq
 .obtain ⟨its,r,pl,hz⟩:=I.list hq
  refine SeqAt.in_listAt (eqU x) pl.isList (fun w hw=>Jn rx fx r fs w (by simpa using hw)) ⟨.bl _,H,I,rfl,?_⟩;rw [show its.toArray.any (eqU x)=its.any (eqU x) by simp,Ul r fs];exact q
 .obtain ⟨its,r,pl,hz⟩:=I.tuple hq
  refine SeqAt.in_tupleAt (eqU x) pl (fun w hw=>Jn rx fx r fs w (by simpa using hw)) ⟨.bl _,H,I,rfl,?_⟩;rw [show its.toArray.any (eqU x)=its.any (eqU x) by simp,Ul r fs];exact q
theorem Vf:OpR X (compareOp .NotIn) (rIn X.K true):=by
 intro pins s U H x y v u Q I rx ry h;obtain ⟨p,xs,rfl,hq,fx,fs,q⟩:=h;cases ry;rcases hq with hq | hq
 .obtain ⟨its,r,pl,hz⟩:=I.list hq
  refine SeqAt.notIn_listAt (eqU x) pl.isList (fun w hw=>Jn rx fx r fs w (by simpa using hw)) ⟨.bl _,H,I,rfl,?_⟩;rw [show its.toArray.any (eqU x)=its.any (eqU x) by simp,Ul r fs];exact q
 .obtain ⟨its,r,pl,hz⟩:=I.tuple hq
  refine SeqAt.notIn_tupleAt (eqU x) pl (fun w hw=>Jn rx fx r fs w (by simpa using hw)) ⟨.bl _,H,I,rfl,?_⟩;rw [show its.toArray.any (eqU x)=its.any (eqU x) by simp,Ul r fs];exact q
theorem Zg:Y9 X (.builtin "len") (fun xs H Q=> ∃ p ys,xs= [.ref p]/\(SqL X.K H p ys \/ SqT X.K H p ys)/\Q (.int ys.length) H):=by
 intro pins s U H xs us Q I r h;obtain ⟨p,ys,rfl,hq,q⟩:=h;obtain ⟨u,rfl,rx⟩:=vals1 r;cases rx;have hn:=U0;rcases hq with hq | hq
 .obtain ⟨its,r',pl,hz⟩:=I.list hq
  have hlen:=r'.length;exact Calls.call_len_list pl.isList (by simp only [List.size_toArray] <;> omega) ⟨.int ys.length,H,I.tok _,⟨s.toks + 1,by rw [List.size_toArray,hlen]⟩,q⟩
 .obtain ⟨its,r',pl,hz⟩:=I.tuple hq
  have hlen:=r'.length;exact len_tuple pl (by simp only [List.size_toArray] <;> omega) ⟨.int ys.length,H,I.tok _,⟨s.toks + 1,by rw [List.size_toArray,hlen]⟩,q⟩
theorem Uk:Y9 X (.builtin "len") (fun xs H Q=> ∃ z,xs= [.str z]/\z.length<=sizeLine/\Q (.int z.length) H):=by
 intro pins s U H xs us Q I r h;obtain ⟨z,rfl,hz,q⟩:=h;obtain ⟨u,rfl,t,rfl⟩:=vals1 r;have hn:=U0;exact len_str (by omega) ⟨.int z.length,H,I.tok _,⟨_,rfl⟩,q⟩
theorem YY:Y9 X (.type "list") (fun xs H Q=> ∃ p ys,xs= [.ref p]/\(SqL X.K H p ys \/ SqT X.K H p ys)/\∀ l,H l=none->Q (.ref l) (upd H l (.lst ys))):=by
 intro pins s U H xs us Q I r h;obtain ⟨p,ys,rfl,hq,q⟩:=h;obtain ⟨u,rfl,rx⟩:=vals1 r;cases rx;have fin:∀ (its:List Value),Vals ys its->ys.length<=sizeLine->∀ (h':Heap) (c':Nat),(∀ b o',s.heap.get? b=some o'->h'.get? b=some o')->
   h'.get? s.heap.objs.size=some {cls:= .type "list",dict:=none,data:= .seq its.toArray c',slots:= #[]}->EP X pins U Q (.ref s.heap.objs.size) {s with heap:=h'}:=fun its r' hz h' c' kp e=>
  ⟨.ref s.heap.objs.size,_,I.laid (t':=s.toks) kp (Nat.le_refl _) (show Z5 X.prog X.w _ h' _ (.lst ys) from ⟨hz,its,c',r',e⟩),rfl,q _ (I.hok.fresh (Nat.le_refl _))⟩
 rcases hq with hq | hq
 .obtain ⟨its,r',pl,hz⟩:=I.list hq
  have hlen:=r'.length;obtain ⟨o,ho,hc,n,hd⟩:=pl.isList;exact call_list_seq p (.inl rfl) ho hc hd (fun h' c' kp e=>fin its r' hz h' c' kp e) (by simp only [List.size_toArray] <;> omega)
 .obtain ⟨its,r',pl,hz⟩:=I.tuple hq
  have hlen:=r'.length;obtain ⟨o,ho,hc,n,hd⟩:=pl;exact call_list_seq p (.inr rfl) ho hc hd (fun h' c' kp e=>fin its r' hz h' c' kp e) (by simp only [List.size_toArray] <;> omega)
theorem Yn:Y9 X (.type "tuple") (fun xs H Q=> ∃ p ys,xs= [.ref p]/\((SqL X.K H p ys/\∀ l,H l=none->Q (.ref l) (upd H l (.tup ys))) \/ (SqT X.K H p ys/\Q (.ref p) H))):=by
 intro pins s U H xs us Q I r h;obtain ⟨p,ys,rfl,h⟩:=h;obtain ⟨u,rfl,rx⟩:=vals1 r;cases rx;rcases h with ⟨hq,q⟩ | ⟨hq,q⟩
 .obtain ⟨its,r',pl,hz⟩:=I.list hq
  have hlen:=r'.length;refine call_tuple_list pl.isList (fun h' kp=>?_) (by simp only [List.size_toArray] <;> omega);have I1:Inv X pins U H {s with heap:=h'}:=I.kept (t':=s.toks) kp
  have I2:Inv X pins U (upd H h'.objs.size (.tup ys)) {s with heap:=h'.push {cls:= .type "tuple",data:= .seq its.toArray}}:=
   I1.laid (t':=s.toks) (fun b o e=>Heap.get?_push_of_some _ e) (Nat.le_refl _) (show Z5 X.prog X.w _ _ _ (.tup ys) from ⟨hz,its,r',XT.new _ _⟩)
  exact ⟨.ref h'.objs.size,_,I2,rfl,q _ (I1.hok.fresh (Nat.le_refl _))⟩
 .obtain ⟨its,r',pl,hz⟩:=I.tuple hq
  exact call_tuple_same pl ⟨.ref p,H,I,rfl,q⟩
def tyV(K:W.Frag)(T:String)(x:V)(H:Hp):Prop:=match x with
 | .str _=>T="str"
 | .int _=>T="int"
 | .ref p=>(T="list" /\∃ xs,SqL K H p xs) \/ (T="tuple" /\∃ o,K.lookup p=some o/\o.cls= .type "tuple" /\o.dict=none) \/
   (T="dict" /\((∃ kvs,H p=some (.dK kvs)) \/ ∃ kvs,H p=some (.dT kvs))) \/ (T="set" /\∃ S n,H p=some (.set S n))
 | _=>False
theorem Bn(I:Inv X pins U H s)(r:RelV x v)(ty:tyV X.K T x H):
  s.TypeIs v T/\∀ a,v= .ref a->∃ ob,s.heap.get? a=some ob/\ob.dict=none:=by
 cases x with
 | str z=>
  obtain ⟨t,rfl⟩:=r;cases (show T="str" from ty);exact ⟨typeIs_str s z t,fun _ e=>nomatch e⟩
 | int i=>
  obtain ⟨t,rfl⟩:=r;cases (show T="int" from ty);exact ⟨typeIs_int s i t,fun _ e=>nomatch e⟩
 | ref p=>
  cases r;rcases ty with ⟨rfl,xs,hq⟩ | ⟨rfl,o,hk,hc,hd⟩ | ⟨rfl,hk⟩ | ⟨rfl,S,n,hk⟩
  .obtain ⟨its,_,pl,_⟩:=I.list hq
   refine ⟨pl.isList.typeIs,fun a e=>?_⟩;cases e;obtain ⟨o,n,e,c,hd,_⟩:=pl;exact ⟨o,e,hd⟩
  .refine ⟨⟨o,I.kIn p o hk,hc⟩,fun a e=>?_⟩
   cases e;exact ⟨o,I.kIn _ o hk,hd⟩
  .have z:∃ o,s.heap.get? p=some o/\o.ExactDict:=by
    rcases hk with ⟨kvs,hk⟩ | ⟨kvs,hk⟩
    .obtain ⟨_,_,_,_,o,_,_,e,ex,_⟩:=I.hok p _ hk
     exact ⟨o,e,ex⟩
    .obtain ⟨_,_,_,_,o,_,_,e,ex,_⟩:=I.hok p _ hk
     exact ⟨o,e,ex⟩
   obtain ⟨o,e,ex⟩:=z;refine ⟨⟨o,e,ex.1⟩,fun a e2=>?_⟩;cases e2;exact ⟨o,e,ex.2.1⟩
  .obtain ⟨o,_,_,_,e,ex,_⟩:=I.hok p _ hk
   refine ⟨⟨o,e,ex.1⟩,fun a e2=>?_⟩;cases e2;exact ⟨o,e,ex.2.1⟩
 | _=>exact False.elim ty
def Oy(K:W.Frag)(T:String)(r:V->List V->Hp->VK->Prop)(to:TE):TE:=fun U H Q=>to U H fun x H1=>tyV K T x H1/\r x [] H1 Q
def tBM(K:W.Frag)(T:String)(r:V->List V->Hp->VK->Prop)(to:TE)(t:TA):TE:=fun U H Q=>to U H fun x H1=>tyV K T x H1/\t U H1 fun xs H2=>r x xs H2 Q
variable{T id:String}
theorem MQ(pa:PlainAttrs T)(slot:Slot T name id)(hty:typeOf (.builtin id)=pure (.type "method_descriptor"))(hm:MtR X id r)(ho:PE X o to)(hbase:attributeBase o name X.env (eval o X.env)=eval o X.env:=by rfl)(hline:(apos.endLine==cpos.line)=true:=by rfl):PE X (.Call (.Attribute o name apos) [] [] cpos) (Oy X.K T r to):=by
 intro pins s U H Q I h;refine wpAny_Call_method0_late hbase hline (thn (ho pins s U H _ I h) fun v s1 ⟨x,H1,I1,r1,ty,q1⟩=>?_);obtain ⟨h1,h2⟩:=Bn I1 r1 ty;exact ⟨T,id,pa,slot,hty,h1,h2,Calls.callWith_builtin rfl (PySem.evalArgs_none (hm pins s1 U H1 x [] v [] Q I1 r1 .nil q1))⟩
theorem Vw(pa:PlainAttrs T)(slot:Slot T name id)(hty:typeOf (.builtin id)=pure (.type "method_descriptor"))(hm:MtR X id r)(ho:PE X o to)(ha:PA X (e::es) t)(hbase:attributeBase o name X.env (eval o X.env)=eval o X.env:=by rfl)(hfew:((backTo cpos (starEach (e::es) X.env)).all (fun x=>!x.1) && (backToKw cpos (keywordEach [] X.env)).all (fun x=>x.1.isSome)
   && decide ((e::es).length + ([]:List Keyword).length + (if ([]:List Keyword).isEmpty then 0 else 1) < 30))=true:=by rfl)(hline:(apos.endLine==cpos.line)=true:=by rfl)(hs:starEach (e::es) X.env=(false,eval e X.env)::starEach es X.env:=by rfl)(hplain:(backTo cpos (starEach es X.env)).any (·.1)=false:=by rfl):
  PE X (.Call (.Attribute o name apos) (e::es) [] cpos) (tBM X.K T r to t):=by
 intro pins s U H Q I h;refine wpAny_Call_method_late hbase hfew hline rfl (thn (ho pins s U H _ I h) fun v s1 ⟨x,H1,I1,r1,ty,q1⟩=>?_);obtain ⟨h1,h2⟩:=Bn I1 r1 ty;refine ⟨T,id,pa,slot,hty,h1,h2,?_⟩;have hA:=ha cpos pins s1 U H1 _ I1 q1;rw [hs] at hA |-;refine Calls.callWith_builtin (by show (false || (backTo cpos (starEach es X.env)).any (·.1))=false;rw [hplain] <;> rfl) (Calls.evalArgs_plain ?_);exact thn hA fun us s2 ⟨vs,H2,I2,r2,q2⟩=>hm pins s2 U H2 x vs v us Q I2 r1 r2 q2
end
end L2
namespace L2
open PySem PySem.Spec PyProof.Rows
def MtM(X:Cx)(id:String)(r:V->List V->Hp->VK->Prop):Prop:=
 ∀ (pins:List (Addr × Obj)) (s:Shared) (U:St) (H:Hp) (x:V) (xs:List V) (v:Value) (us:List Value) (Q:VK),Inv X pins U H s->RelV x v->Vals xs us->r x xs H Q->
  wpAny (model X.prog X.w) X.A (call (.builtin id) (v::us)) (EP X pins U Q) X.xe s
theorem Vals.one:∀ {x:V}{us:List Value},Vals [x] us->∃ u,us= [u]/\RelV x u
 | _,_, .cons r .nil=>⟨_,rfl,r⟩
theorem Vals.zero:∀ {us:List Value},Vals [] us->us= []
 | _, .nil=>rfl
theorem Vals.reverse(h:Vals xs us):Vals xs.reverse us.reverse:=by
 induction h with
 | nil=>exact .nil
 | cons r t ih=>rw [List.reverse_cons,List.reverse_cons];exact Vals.append ih (.cons r .nil)
section
theorem Inv.lset{its its':List Value}(I:Inv X pins U H s)(hH:H l=some (.lst xs))(e:s.heap.get? l=some {cls:= .type "list",data:= .seq its.toArray n})(hf:f its.toArray=its'.toArray)(hv:Vals ys its')(hz:ys.length<=sizeLine):
  Inv X pins U (upd H l (.lst ys)) {s with heap:=s.heap.update l (Obj.mapSeq f),toks:=t'}:=by
 have q:=PySem.IsL.update e f;rw [hf] at q;refine I.write (x:=l) (e:=l) (by rw [hH];exact trivial) (.inl rfl) (fun b' u hb hu=>(Heap.get?_update_other s.heap (Obj.mapSeq f) (Ne.symm hb)).trans hu) ⟨_,q⟩ ?_;exact ⟨hz,its',_,hv,q⟩
theorem Inv.lnew(I:Inv X pins U H s)(hv:Vals ys its)(hz:ys.length<=sizeLine):
  Inv X pins U (upd H s.heap.objs.size (.lst ys)) {s with heap:=s.heap.push {cls:= .type "list",data:= .seq its.toArray},toks:=t'}:=
 I.laid (fun _ _ q=>Heap.get?_push_of_some _ q) (Nat.le_refl _) ⟨hz,its,0,hv,Heap.get?_push_size _ rfl⟩
theorem Inv.fresh(I:Inv X pins U H s):H s.heap.objs.size=none:=I.hok.fresh (Nat.le_refl _)
theorem Inv.lstM(I:Inv X pins U H s)(hH:H l=some (.lst xs)):xs.length<=sizeLine/\∃ (its:List Value) (n:Nat),Vals xs its/\xs.length=its.length/\s.heap.get? l=some {cls:= .type "list",data:= .seq its.toArray n}:=by
 obtain ⟨z,its,n,r,e⟩:=I.hok l _ hH;exact ⟨z,its,n,r,r.length,e⟩
end
section
def Fv:V->List V->Hp->VK->Prop:=fun x vs H Q=> ∃ l xs y,x= .ref l/\vs= [y]/\H l=some (.lst xs)/\xs.length < sizeLine/\Q .non (upd H l (.lst (xs++ [y])))
theorem Yf:MtM X "list.append" Fv:=by
 intro pins s U H x vs v us Q I rx rv h;obtain ⟨l,xs,y,rfl,rfl,hH,hz,q⟩:=h;cases rx;obtain ⟨u,rfl,ru⟩:=rv.one;obtain ⟨z,its,n,r,hl,e⟩:=I.lstM hH;refine call_meets F.slot_list_append ⟨_,e,rfl⟩ F.entry_list_append (F.args_list_append_2 _ _) (PySem.list_append l its.toArray n u (by rw [List.size_toArray];omega)) ⟨e,?_⟩;refine ⟨.non,_,I.lset (its':=its++ [u]) hH e (by simp) (r.append (.cons ru .nil)) ?_,rfl,q⟩;rw [List.length_append,List.length_singleton];omega
def Dh:V->List V->Hp->VK->Prop:=fun x vs H Q=> ∃ l xs,x= .ref l/\vs= []/\H l=some (.lst xs)/\Q .non (upd H l (.lst xs.reverse))
theorem WH:MtM X "list.reverse" Dh:=by
 intro pins s U H x vs v us Q I rx rv h;obtain ⟨l,xs,rfl,rfl,hH,q⟩:=h;cases rx;have hus:=rv.zero;subst hus;obtain ⟨z,its,n,r,hl,e⟩:=I.lstM hH;refine call_meets F.slot_list_reverse ⟨_,e,rfl⟩ F.entry_list_reverse (F.args_list_reverse_1 _) (AutoSeq1.list_reverse_list_0 l its.toArray n (by rw [List.size_toArray];omega)) ⟨e,?_⟩;refine ⟨.non,_,I.lset (its':=its.reverse) hH e (by simp) r.reverse ?_,rfl,q⟩;rw [List.length_reverse];omega
def LS:V->List V->Hp->VK->Prop:=fun x vs H Q=> ∃ l xs,x= .ref l/\vs= []/\H l=some (.lst xs)/\Q .non (upd H l (.lst []))
theorem EY:MtM X "list.clear" LS:=by
 intro pins s U H x vs v us Q I rx rv h;obtain ⟨l,xs,rfl,rfl,hH,q⟩:=h;cases rx;have hus:=rv.zero;subst hus;obtain ⟨z,its,n,r,hl,e⟩:=I.lstM hH;refine call_meets F.slot_list_clear ⟨_,e,rfl⟩ F.entry_list_clear (F.args_list_clear_1 _) (AutoSeq1.list_clear_list_0 l its.toArray n (by rw [List.size_toArray];omega)) ⟨e,?_⟩;exact ⟨.non,_,I.lset (its':= []) (ys:= []) hH e rfl .nil (Nat.zero_le _),rfl,q⟩
def O8:R2:=fun x y H Q=> ∃ l b xs zs,x= .ref l/\y= .ref b/\H l=some (.lst xs)/\H b=some (.lst zs)/\xs.length + zs.length<=sizeLine/\∀ p,H p=none->Q (.ref p) (upd H p (.lst (xs++ zs)))
theorem JN:OpR X (binaryOp .Add) O8:=by
 intro pins s U H x y v u Q I rx ry h;obtain ⟨l,b,xs,zs,rfl,rfl,hH,hB,hz,q⟩:=h;cases rx;cases ry;obtain ⟨z,its,n,r,hl,e⟩:=I.lstM hH;obtain ⟨z2,its2,n2,r2,hl2,e2⟩:=I.lstM hB;refine PySem.P.add_list e e2 ?_ (by rw [List.size_toArray,List.size_toArray];omega);have ea:its.toArray++ its2.toArray=(its++ its2).toArray:=by simp
 rw [ea];exact ⟨.ref _,_,I.lnew (t':=s.toks) (r.append r2) (by rw [List.length_append];omega),rfl,q _ I.fresh⟩
end
section
set_option maxRecDepth 100000 in
end
end L2
namespace L2
open PySem PySem.Spec PyProof.Rows
section
variable{κ:Type}[DecidableEq κ]
def Zp(kvs:List (κ × V))(k:κ):Option V:=(kvs.find? fun kv=>decide (kv.1=k)).map (·.2)
def putK(kvs:List (κ × V))(k:κ)(v:V):List (κ × V):=
 if (kvs.any fun kv=>decide (kv.1=k))=true then kvs.map (fun kv=>if kv.1=k then (kv.1,v) else kv) else kvs++ [(k,v)]
theorem Yt{p:κ × V}(e:p.1=k):Zp (p::r) k=some p.2:=by simp [Zp,List.find?_cons,e]
theorem Yu{p:κ × V}(e: ¬ p.1=k):Zp (p::r) k=Zp r k:=by simp [Zp,List.find?_cons,e]
theorem Ja(k:κ):∀ kvs:List (κ × V),(kvs.any fun kv=>decide (kv.1=k))=(Zp kvs k).isSome
 | []=>rfl
 | p::r=>by
  rw [List.any_cons]
  by_cases e:p.1=k
  .simp only [Yt e,decide_eq_true e,Bool.true_or,Option.isSome_some]
  .rw [Yu e,decide_eq_false e,Bool.false_or];exact Ja k r
theorem Tn(k j:κ)(y:V):∀ kvs:List (κ × V),Zp (kvs.map fun kv=>if kv.1=k then (kv.1,y) else kv) j=(Zp kvs j).map fun x=>if j=k then y else x
 | []=>rfl
 | p::r=>by
  have ih:=Tn k j y r;rw [List.map_cons]
  by_cases h:p.1=k
  .rw [if_pos h]
   by_cases e:p.1=j
   .rw [Yt (p:=(p.1,y)) e,Yt e,Option.map_some,if_pos (e.symm.trans h)]
   .rw [Yu (p:=(p.1,y)) e,Yu e,ih]
  .rw [if_neg h]
   by_cases e:p.1=j
   .rw [Yt (p:=p) e,Yt e,Option.map_some,if_neg (fun z=>h (e.trans z))]
   .rw [Yu (p:=p) e,Yu e,ih]
theorem Wf(k j:κ)(y:V):∀ kvs:List (κ × V),Zp kvs k=none->Zp (kvs++ [(k,y)]) j=if j=k then some y else Zp kvs j
 | [],_=>by
  by_cases e:k=j
  .rw [if_pos e.symm];exact Yt (p:=(k,y)) e
  .rw [if_neg (fun z=>e z.symm)];exact Yu (p:=(k,y)) e
 | p::r,hn=>by
  rw [List.cons_append];have hk: ¬ p.1=k:=fun z=>by rw [Yt z] at hn;cases hn
  rw [Yu hk] at hn;have ih:=Wf k j y r hn
  by_cases e:p.1=j
  .rw [Yt e,Yt e,if_neg (fun z=>hk (e.trans z))]
  .rw [Yu e,Yu e,ih]
theorem VA(kvs:List (κ × V))(k j:κ)(y:V):Zp (putK kvs k y) j=if j=k then some y else Zp kvs j:=by
 unfold putK
 by_cases a:(kvs.any fun kv=>decide (kv.1=k))=true
 .rw [if_pos a,Tn]
  rw [Ja] at a
  by_cases e:j=k
  .obtain ⟨x,hx⟩:=Option.isSome_iff_exists.mp a
   rw [if_pos e,e,hx,Option.map_some,if_pos rfl]
  .rw [if_neg e]
   cases Zp kvs j with
   | none=>rfl
   | some x=>rw [Option.map_some,if_neg e]
 .rw [if_neg a]
  refine Wf k j y kvs ?_;rw [Ja] at a
  cases q:Zp kvs k with
  | none=>rfl
  | some x=>rw [q] at a;exact (a rfl).elim
theorem YJ(kvs:List (κ × V))(k:κ)(v:V):(putK kvs k v).length<=kvs.length + 1:=by
 unfold putK
 split
 .rw [List.length_map];omega
 .rw [List.length_append,List.length_cons,List.length_nil];omega
theorem Jj{kvs:List (κ × V)}(v:V)(h:Zp kvs k=none):putK kvs k v=kvs++ [(k,v)]:=by
 unfold putK;rw [Ja,h];exact if_neg (by decide)
theorem JY.isSome_eq(r:JY o u):o.isSome=u.isSome:=by
 cases o with
 | none=>cases u with
  | none=>rfl
  | some _=>exact (show False from r).elim
 | some _=>cases u with
  | none=>exact (show False from r).elim
  | some _=>rfl
theorem JY.getD(r:JY o u)(rd:RelV d d'):RelV (o.getD d) (u.getD d'):=by
 cases o with
 | none=>cases u with
  | none=>exact rd
  | some _=>exact (show False from r).elim
 | some _=>cases u with
  | none=>exact (show False from r).elim
  | some _=>exact r
theorem KV.val(r:KV kvs vs)(k:κ):JY (Zp kvs k) (valueAt vs k):=by
 unfold KV at r
 induction r with
 | nil=>exact True.intro
 | @cons p q ps qs h t ih=>
  obtain ⟨h1,h2⟩:=h
  by_cases e:p.1=k
  .have e':q.1=k:=h1.symm.trans e
   have b:valueAt (q::qs) k=some q.2:=by simp [valueAt,List.find?_cons,e']
   rw [Yt e,b];exact h2
  .have e': ¬ q.1=k:=fun z=>e (h1.trans z)
   have b:valueAt (q::qs) k=valueAt qs k:=by simp [valueAt,List.find?_cons,e']
   rw [Yu e,b];exact ih
theorem KV.any(r:KV kvs vs)(k:κ):(kvs.any fun kv=>decide (kv.1=k))=vs.any fun kv=>decide (kv.1=k):=by
 unfold KV at r
 induction r with
 | nil=>rfl
 | cons h t ih=>rw [List.any_cons,List.any_cons,ih,h.1]
theorem KV.repl(r:KV kvs vs)(k:κ)(ry:RelV y u):
  KV (kvs.map fun kv=>if kv.1=k then (kv.1,y) else kv) (vs.map fun kv=>if kv.1=k then (kv.1,u) else kv):=by
 unfold KV at r |-
 induction r with
 | nil=>exact .nil
 | @cons p q ps qs h t ih=>
  rw [List.map_cons,List.map_cons];refine .cons ?_ ih;obtain ⟨h1,h2⟩:=h
  by_cases e:p.1=k
  .rw [if_pos e,if_pos (h1.symm.trans e)];exact ⟨h1,ry⟩
  .rw [if_neg e,if_neg (fun z=>e (h1.trans z))];exact ⟨h1,h2⟩
theorem KV.put(r:KV kvs vs)(k:κ)(ry:RelV y u):KV (putK kvs k y) (stored vs k u):=by
 unfold putK stored;rw [r.any k]
 by_cases e:(vs.any fun kv=>decide (kv.1=k))=true
 .rw [if_pos e,if_pos e];exact r.repl k ry
 .rw [if_neg e,if_neg e];exact Paired.snoc r ⟨rfl,ry⟩
theorem KV.keys{kvs:List (κ × V)}(r:KV kvs vs):kvs.map (·.1)=vs.map (·.1):=by
 unfold KV at r
 induction r with
 | nil=>rfl
 | cons h t ih=>rw [List.map_cons,List.map_cons,ih,h.1]
theorem KV.length(r:KV kvs vs):kvs.length=vs.length:=Paired.length r
end
theorem UD(r:RelV (kV k) u):(Zq P w).is k u=true:=by
 cases k with
 | inl i=>obtain ⟨t,e⟩:=(show ∃ t,u=Value.int i t from r);subst e;exact RB P w i t
 | inr x=>obtain ⟨t,e⟩:=(show ∃ t,u=Value.str x t from r);subst e;exact T9 P w x t
theorem Wt:∀ {ks:List Key}{us:List Value},Vals (ks.map kV) us->ItemsAre (Zq P w) ks us
 | [],_,r=>by rw [List.map_nil] at r;cases r;exact .nil
 | k::ks,_,r=>by
  rw [List.map_cons] at r
  cases r with
  | cons h t=>exact .cons (UD h) (Wt t)
abbrev KT(H:Hp):List (List Key × V)->List (List Key × Addr × Value)->Prop:=Paired fun p q=>p.1=q.1/\H q.2.1=some (.tup (p.1.map kV))/\RelV p.2 q.2.2
theorem KT.val(r:KT H kvs xs)(k:List Key):JY (Zp kvs k) ((atKey xs k).map (·.2)):=by
 induction r with
 | nil=>exact True.intro
 | @cons p q ps qs h t ih=>
  obtain ⟨h1,_,h2⟩:=h
  by_cases e:p.1=k
  .have e':q.1=k:=h1.symm.trans e
   have b:atKey (q::qs) k=some q.2:=by simp [atKey,List.find?_cons,e']
   rw [Yt e,b];exact h2
  .have e': ¬ q.1=k:=fun z=>e (h1.trans z)
   have b:atKey (q::qs) k=atKey qs k:=by simp [atKey,List.find?_cons,e']
   rw [Yu e,b];exact ih
theorem KT.repl(r:KT H kvs xs)(k:List Key)(ry:RelV y u):
  KT H (kvs.map fun kv=>if kv.1=k then (kv.1,y) else kv) (xs.map (putAt k u)):=by
 induction r with
 | nil=>exact .nil
 | @cons p q ps qs h t ih=>
  rw [List.map_cons,List.map_cons];refine .cons ?_ ih;obtain ⟨h1,h2,h3⟩:=h;unfold putAt
  by_cases e:p.1=k
  .rw [if_pos e,if_pos (h1.symm.trans e)];exact ⟨h1,h2,ry⟩
  .rw [if_neg e,if_neg (fun z=>e (h1.trans z))];exact ⟨h1,h2,h3⟩
theorem KT.put(r:KT H kvs xs)(k:List Key)(hb:H b=some (.tup (k.map kV)))(ry:RelV y u):
  KT H (putK kvs k y) (storedH xs k b u):=by
 have e:(kvs.any fun kv=>decide (kv.1=k))=(atKey xs k).isSome:=by
  rw [Ja,(r.val k).isSome_eq,Option.isSome_map]
 unfold putK storedH;rw [e]
 by_cases q:(atKey xs k).isSome=true
 .rw [if_pos q,if_pos q];exact r.repl k ry
 .rw [if_neg q,if_neg q];exact Paired.snoc r ⟨rfl,hb,ry⟩
theorem KT.keeps(r:KT H kvs xs)(ht:∀ b ys,H b=some (.tup ys)->H' b=some (.tup ys)):KT H' kvs xs:=
 Paired.mapP r fun _ _ z=>⟨z.1,ht _ _ z.2.1,z.2.2⟩
section
theorem Kn(ok:HOk P w H h)(e:Rd H a u):Z5 P w H h a u:=e.ok ok
theorem UE(ok:HOk P w H h)(e:Rd H a (.dK kvs)):kvs.length<=sizeLine/\(a==sysModules)=false/\∃ vs,KV kvs vs/\h.DictOf (Zq P w) a vs:=
 show Z5 P w H h a (.dK kvs) from Kn ok e
theorem E4(ok:HOk P w H h)(e:H a=some (.dK kvs)):kvs.length<=sizeLine/\(a==sysModules)=false/\∃ vs,KV kvs vs/\h.DictOf (Zq P w) a vs:=UE ok (.inl e)
theorem U3(ok:HOk P w H h)(e:H a=some (.tup (ks.map kV))):(tupleKind (Zq P w)).is h ks a:=by
 obtain ⟨_,its,r,o,h1,_,h2,n,h3⟩:=(show Z5 P w H h a (.tup (ks.map kV)) from ok a _ e);exact ⟨o,its.toArray,n,h1,h2,h3,by simpa using Wt r⟩
theorem WN(ok:HOk P w H h)(e:Rd H a (.dT kvs)):kvs.length<=sizeLine/\(a==sysModules)=false/\
  ∃ xs,KT H kvs xs/\h.DictOfH (tupleKind (Zq P w)) a xs:=by
 obtain ⟨z,y,xs,r,o,es,ep,h1,h2,h3,h4,h5⟩:=(show Z5 P w H h a (.dT kvs) from Kn ok e);refine ⟨z,y,xs,r,o,es,ep,h1,h2,h3,h4,fun x hx=>?_,h5⟩
 have all:∀ {l:List (List Key × V)}{m:List (List Key × Addr × Value)},KT H l m->∀ x∈m,(tupleKind (Zq P w)).is h x.1 x.2.1:=by
  intro l m q
  induction q with
  | nil=>intro x hx;exact nomatch hx
  | @cons p q ps qs hq t ih=>
   intro x hx;rcases List.mem_cons.mp hx with e | hx
   .subst e
    exact U3 ok (by rw [<-hq.1];exact hq.2.1)
   .exact ih x hx
 exact all r x hx
theorem Om(ok:HOk P w H h)(e:H a=some (.dT kvs)):kvs.length<=sizeLine/\(a==sysModules)=false/\
  ∃ xs,KT H kvs xs/\h.DictOfH (tupleKind (Zq P w)) a xs:=WN ok (.inl e)
end
def Zz(H:Hp)(a:Addr)(y:V)(r:Option V):Prop:=
 (∃ kvs k,Rd H a (.dK kvs)/\y=kV k/\r=Zp kvs k) \/ ∃ kvs k b,Rd H a (.dT kvs)/\y= .ref b/\H b=some (.tup (k.map kV))/\r=Zp kvs k
def VJ(H:Hp)(a:Addr)(y v:V)(H':Hp):Prop:=
 (∃ kvs k,H a=some (.dK kvs)/\y=kV k/\kvs.length < sizeLine/\H'=upd H a (.dK (putK kvs k v))) \/
 ∃ kvs k b,H a=some (.dT kvs)/\y= .ref b/\H b=some (.tup (k.map kV))/\kvs.length < sizeLine/\H'=upd H a (.dT (putK kvs k v))
theorem Zz.k{k:Key}(e:H a=some (.dK kvs)):Zz H a (kV k) (Zp kvs k):= .inl ⟨kvs,k, .inl e,rfl,rfl⟩
theorem Zz.t{k:List Key}(e:H a=some (.dT kvs))(eb:H b=some (.tup (k.map kV))):Zz H a (.ref b) (Zp kvs k):= .inr ⟨kvs,k,b, .inl e,rfl,eb,rfl⟩
theorem VJ.k{k:Key}(e:H a=some (.dK kvs))(hl:kvs.length < sizeLine):VJ H a (kV k) v (upd H a (.dK (putK kvs k v))):= .inl ⟨kvs,k,e,rfl,hl,rfl⟩
theorem VJ.t{k:List Key}(e:H a=some (.dT kvs))(eb:H b=some (.tup (k.map kV)))(hl:kvs.length < sizeLine):
  VJ H a (.ref b) v (upd H a (.dT (putK kvs k v))):= .inr ⟨kvs,k,b,e,rfl,eb,hl,rfl⟩
section
theorem Inv.big(I:Inv X pins U H s):sysModules < s.heap.objs.size:=by
 have h:mainGlobals < s.heap.objs.size:=(I.mod.glob.keeps I.bk).lt;exact Nat.lt_trans (by decide) h
theorem Bc(hu:A.units + 1 < cLine)(I:Inv X pins U H s)(g:Zz H a y (some v))(ry:RelV y u)(h:∀ w' s',Inv X pins U H s'->RelV v w'->Q w' s'):
  wpAny (model X.prog X.w) A (getItem (.ref a) u) Q E s:=by
 rcases g with ⟨kvs,k,e,ey,l⟩ | ⟨kvs,k,b,e,ey,eb,l⟩
 .subst ey
  obtain ⟨z,hd,vs,rel,dd⟩:=UE I.hok e;obtain ⟨w',hw,rw'⟩:=JY.some_of (v:=v) (o:=valueAt vs k) (by rw [l];exact rel.val k);exact wpAny_getItem_of (UD ry) dd.mapOf hw (h w' _ (I.tok _) rw')
 .subst ey
  cases (show u=Value.ref b from ry);obtain ⟨z,hd,xs,rel,dd⟩:=WN I.hok e;obtain ⟨w',hw,rw'⟩:=JY.some_of (v:=v) (o:=(atKey xs k).map (·.2)) (by rw [l];exact rel.val k);obtain ⟨p,hp,hp2⟩:=Option.map_eq_some_iff.mp hw;refine wpAny_getItem_heap (tupleKind_room_in1 hu) (U3 I.hok eb) dd hp ?_;rw [hp2];exact h w' _ (I.tok _) rw'
theorem PR(hu:A.units + 1 < cLine)(I:Inv X pins U H s)(g:Zz H a y o)(ry:RelV y u)(h:∀ s',Inv X pins U H s'->Q (.bool o.isSome) s'):
  wpAny (model X.prog X.w) A (compareOp .In u (.ref a)) Q E s:=by
 rcases g with ⟨kvs,k,e,ey,l⟩ | ⟨kvs,k,b,e,ey,eb,l⟩
 .subst ey
  obtain ⟨z,hd,vs,rel,dd⟩:=UE I.hok e;refine wpAny_in_of (UD ry) hd dd.mapOf ?_;rw [<-(rel.val k).isSome_eq,<-l];exact h _ (I.tok _)
 .subst ey
  cases (show u=Value.ref b from ry);obtain ⟨z,hd,xs,rel,dd⟩:=WN I.hok e;refine wpAny_in_heap (tupleKind_room_in1 hu) (U3 I.hok eb) hd dd ?_;have q:=(rel.val k).isSome_eq;rw [Option.isSome_map] at q;rw [<-q,<-l];exact h _ (I.tok _)
theorem KQ(hu:A.units + 1 < cLine)(I:Inv X pins U H s)(g:Zz H a y o)(ry:RelV y u)(h:∀ s',Inv X pins U H s'->Q (.bool (!o.isSome)) s'):
  wpAny (model X.prog X.w) A (compareOp .NotIn u (.ref a)) Q E s:=by
 rcases g with ⟨kvs,k,e,ey,l⟩ | ⟨kvs,k,b,e,ey,eb,l⟩
 .subst ey
  obtain ⟨z,hd,vs,rel,dd⟩:=UE I.hok e;refine wpAny_notIn_of (UD ry) hd dd.mapOf ?_;rw [<-(rel.val k).isSome_eq,<-l];exact h _ (I.tok _)
 .subst ey
  cases (show u=Value.ref b from ry);obtain ⟨z,hd,xs,rel,dd⟩:=WN I.hok e;refine wpAny_notIn_heap (tupleKind_room_in1 hu) (U3 I.hok eb) hd dd ?_;have q:=(rel.val k).isSome_eq;rw [Option.isSome_map] at q;rw [<-q,<-l];exact h _ (I.tok _)
theorem Ta(I:Inv X pins U H s)(mu:Mut (H a))(hs:Heap.SameBut a s.heap h')(he:∃ q,h'.get? a=some q)(new:Z5 X.prog X.w (upd H a ob) h' a ob):
  Inv X pins U (upd H a ob) {s with heap:=h',toks:=t'}:=
 I.write (x:=a) (e:=a) mu (.inl rfl) (fun b q hb z=>(hs.2 b hb).trans z) he new
theorem WO(z:kvs.length<=sizeLine)(hd:(a==sysModules)=false)(rel:KV kvs vs)(dd:h'.DictOf (Zq P w) a vs):
  Z5 P w H' h' a (.dK kvs):=⟨z,hd,vs,rel,dd⟩
theorem Bb(hu:A.units + 1 < cLine)(I:Inv X pins U H s)(g:VJ H a y v H')(ry:RelV y u)(rv:RelV v r)(h:∀ s',Inv X pins U H' s'->Q () s'):
  wpAny (model X.prog X.w) A (setItem (.ref a) u r) Q E s:=by
 rcases g with ⟨kvs,k,e,ey,l,eH⟩ | ⟨kvs,k,b,e,ey,eb,l,eH⟩
 .subst ey eH
  obtain ⟨z,hd,vs,rel,dd⟩:=E4 I.hok e;have hz:vs.length<=sizeLine:=by rw [<-rel.length];exact z
  have hl:(putK kvs k v).length<=sizeLine:=by have:=YJ kvs k v;omega
  refine wpAny_setItem_pairs (hsz:=hz) (UD ry) dd fun h' dd' hs=>h _ ?_;have he:∃ q,h'.get? a=some q:=let ⟨q,_,_,hq,_⟩:=dd';⟨q,hq⟩
  exact Ta I (by rw [e];exact True.intro) hs he (WO hl hd (rel.put k rv) dd')
 .subst ey eH
  cases (show u=Value.ref b from ry);obtain ⟨z,hd,xs,rel,dd⟩:=Om I.hok e;have hz:xs.length<=sizeLine:=by rw [<-Paired.length rel];exact z
  have hl:(putK kvs k v).length<=sizeLine:=by have:=YJ kvs k v;omega
  refine wpAny_setItem_heap (hsz:=hz) (tupleKind_room_in1 hu) (U3 I.hok eb) dd fun h' dd' hs=>h _ ?_;obtain ⟨q,es,ep,hq,h2,h3,h4,_,h5⟩:=dd';refine Ta I (by rw [e];exact True.intro) hs ⟨q,hq⟩ ⟨hl,hd,_,(rel.put k eb rv).keeps fun c ys ec=>?_,q,es,ep,hq,h2,h3,h4,h5⟩;rw [ZI (YM ec e (fun z=>nomatch z))];exact ec
end
section
theorem On(I:Inv X pins U H s)(e:Rd H a (.dK kvs))(h:∀ t s',Inv X pins U H s'->Q (.int kvs.length t) s'):wpAny (model X.prog X.w) A (call (.builtin "len") [.ref a]) Q E s:=by
 obtain ⟨z,hd,vs,rel,dd⟩:=UE I.hok e;refine call_len_dict hd dd (by rw [<-rel.length];rw [sizeLine_eq] at z;omega) ?_;rw [<-rel.length];exact h _ _ (I.tok _)
end
def L7(i:Expr):Prop:= ∀ ov iv,subscripted i false ov iv=operate [ov,iv] (getItem ov iv)
theorem M5{T id:String}(hl:typeLookup (.type T) "__getitem__" =pure (some (.builtin id)))(hs:L7 slice)(h:wpAny (model prog w) A (eval value env) (fun o s₁=>wpAny (model prog w) A (eval slice env) (fun i s₂=>s₂.TypeIs o T/\wpAny (model prog w) A (getItem o i) Q E s₂) E s₁) E s):
  wpAny (model prog w) A (eval (.Subscript value slice pos) env) Q E s:=by
 refine Subscript_ (wpAny_mono h (fun o s₁ h₁=>wpAny_mono h₁ (fun i s₂ h₂=>?_) fun _ _ x=>x) fun _ _ x=>x);obtain ⟨hT,h₂⟩:=h₂;unfold subscriptTail;refine wpAny_bind ?_;rw [getitemInPython_of_ne hT.not_modules];refine wpAny_bind (wpAny_specialOf hT hl ?_)
 have fin:wpAny (model prog w) A (subscripted slice false o i) (fun r s₃=>wpAny (model prog w) A (letTemporaryGo value o r >>=fun _=>pure r) Q E s₃) E s₂:=by
  rw [hs o i];exact wpAny_operating (wpAny_mono h₂ (fun r s₃ h₃=>wpAny_bind (wpAny_letTemporaryGo (wpAny_pure h₃))) fun _ _ x=>x)
 first
  | exact wpAny_pure (wpAny_bind fin)
  | exact wpAny_bind (wpAny_pure (wpAny_bind fin))
  | exact wpAny_bind fin
theorem RN(I:Inv X pins U H s)(g:Zz H a y o):s.TypeIs (.ref a) "dict" :=by
 rcases g with ⟨kvs,k,e,_,_⟩ | ⟨kvs,k,b,e,_,_,_⟩
 .obtain ⟨_,_,vs,_,dd⟩:=UE I.hok e
  exact dd.typeIs
 .obtain ⟨_,_,xs,_,dd⟩:=WN I.hok e
  exact dd.typeIs
def Ki(td ty:TE):TE:=fun U H Q=>td U H fun x H1=>ty U H1 fun y H2=>VN x fun a=> ∃ v,Zz H2 a y (some v)/\Q v H2
def Ox(ty td:TE):TE:=fun U H Q=>ty U H fun y H1=>td U H1 fun x H2=>VN x fun a=> ∃ o,Zz H2 a y o/\Q (.bl o.isSome) H2
def FY(ty td:TE):TE:=fun U H Q=>ty U H fun y H1=>td U H1 fun x H2=>VN x fun a=> ∃ o,Zz H2 a y o/\Q (.bl (!o.isSome)) H2
def OP(td ty tv:TE):TS:=fun D U H=>tv U H fun v H1=>td U H1 fun x H2=>ty U H2 fun y H3=>VN x fun a=> ∃ H4,VJ H3 a y v H4/\D.nx U H4
section
theorem Ze(hu:X.A.units + 1 < cLine)(ho:PE X o td)(hi:PE X i ty)(hs:L7 i):PE X (.Subscript o i pos) (Ki td ty):=by
 intro pins s U H Q I h;refine M5 PySem.F.slot_dict_getitem.lookup hs (thn (ho pins s U H _ I h) fun u s1 ⟨x,H1,I1,rx,q1⟩=>thn (hi pins s1 U H1 _ I1 q1) fun iv s2 ⟨y,H2,I2,ry,q2⟩=>?_);replace q2:=VN.old q2;obtain ⟨a,ex,v,g,q2⟩:=q2;subst ex;obtain rfl:u=Value.ref a:=rx;exact ⟨RN I2 g,Bc hu I2 g ry fun w' s3 I3 rw'=>⟨v,H2,I3,rw',q2⟩⟩
theorem Ux(hu:X.A.units + 1 < cLine)(hi:PE X i ty)(ho:PE X o td):PC X .In i o (Ox ty td):=by
 intro pins s U H Q I h;refine thn (hi pins s U H _ I h) fun iv s1 ⟨y,H1,I1,ry,q1⟩=>thn (ho pins s1 U H1 _ I1 q1) fun u s2 ⟨x,H2,I2,rx,q2⟩=>?_;replace q2:=VN.old q2;obtain ⟨a,ex,ov,g,q2⟩:=q2;subst ex;obtain rfl:u=Value.ref a:=rx;exact PR hu I2 g ry fun s3 I3=>⟨.bl ov.isSome,H2,I3,rfl,q2⟩
theorem Jz(hu:X.A.units + 1 < cLine)(hi:PE X i ty)(ho:PE X o td):PC X .NotIn i o (FY ty td):=by
 intro pins s U H Q I h;refine thn (hi pins s U H _ I h) fun iv s1 ⟨y,H1,I1,ry,q1⟩=>thn (ho pins s1 U H1 _ I1 q1) fun u s2 ⟨x,H2,I2,rx,q2⟩=>?_;replace q2:=VN.old q2;obtain ⟨a,ex,ov,g,q2⟩:=q2;subst ex;obtain rfl:u=Value.ref a:=rx;exact KQ hu I2 g ry fun s3 I3=>⟨.bl (!ov.isSome),H2,I3,rfl,q2⟩
theorem YD(hu:X.A.units + 1 < cLine)(ho:PE X o td)(hi:PE X i ty)(hv:PE X value tv)(hs:swapsWith value (some (.Subscript o i pos')) pos.line X.env=pure false):
  PS X (.Assign [.Subscript o i pos'] value pos) (OP td ty tv):=by
 intro pins s U H D I h;refine wpAny_Assign_Subscript (thn (hv pins s U H _ I h) fun r s1 ⟨v,H1,I1,rv,q1⟩=>thn (ho pins s1 U H1 _ I1 q1) fun u s2 ⟨x,H2,I2,rx,q2⟩=>thn (hi pins s2 U H2 _ I2 q2) fun iv s3 ⟨y,H3,I3,ry,q3⟩=>?_) hs;replace q3:=VN.old q3;obtain ⟨a,ex,H4,g,q3⟩:=q3;subst ex;obtain rfl:u=Value.ref a:=rx;exact Bb hu I3 g ry rv fun s4 I4=>⟨U,H4,I4,q3⟩
end
theorem RM(h:Heap)(hb:sysModules < h.objs.size):Z5 P w H (h.push {cls:= .type "dict",data:= .dict #[]}) h.objs.size (.dK []):=
 ⟨Nat.zero_le _,beq_eq_false_iff_ne.mpr (Ne.symm (Nat.ne_of_lt hb)), [], .nil,Heap.DictOf.new h⟩
theorem E1(h:Heap)(hb:sysModules < h.objs.size):Z5 P w H (h.push {cls:= .type "dict",data:= .dict #[]}) h.objs.size (.dT []):=
 ⟨Nat.zero_le _,beq_eq_false_iff_ne.mpr (Ne.symm (Nat.ne_of_lt hb)), [], .nil,_,#[],0,Heap.get?_push_size _ rfl,⟨rfl,rfl,rfl⟩,rfl,rfl,List.nodup_nil⟩
def LA:TE:=fun _ H Q=> ∀ p,H p=none->Q (.ref p) (upd H p (.dK []))
def K9:TE:=fun _ H Q=> ∀ p,H p=none->Q (.ref p) (upd H p (.dT []))
section
theorem Yl:PE X (.Dict [] [] pos) LA:=fun pins s U H Q I h=>
 wpAny_Dict_empty ⟨.ref s.heap.objs.size,_,I.laid (a:=s.heap.objs.size) (o:= .dK []) (t':=s.toks) (fun _ _ q=>Heap.get?_push_of_some _ q) (Nat.le_refl _) (RM s.heap I.big),rfl,h _ (I.hok.fresh (Nat.le_refl _))⟩
theorem Dn:PE X (.Dict [] [] pos) K9:=fun pins s U H Q I h=>
 wpAny_Dict_empty ⟨.ref s.heap.objs.size,_,I.laid (a:=s.heap.objs.size) (o:= .dT []) (t':=s.toks) (fun _ _ q=>Heap.get?_push_of_some _ q) (Nat.le_refl _) (E1 s.heap I.big),rfl,h _ (I.hok.fresh (Nat.le_refl _))⟩
end
def Rc:List (TE × TE)->St->Hp->(List (V × V)->Hp->Prop)->Prop
 | [],_,H,Q=>Q [] H
 | (tk,tv)::r,U,H,Q=>tk U H fun x H1=>tv U H1 fun y H2=>Rc r U H2 fun ps H3=>Q ((x,y)::ps) H3
abbrev VV:List (V × V)->List (Value × Value)->Prop:=Paired fun p q=>RelV p.1 q.1/\RelV p.2 q.2
def PPs(X:Cx)(pos:Pos)(keys:List (Option Expr))(values:List Expr)(trs:List (TE × TE)):Prop:=
 ∀ (pins:List (Addr × Obj)) (s:Shared) (U:St) (H:Hp) (Q:List (V × V)->Hp->Prop),Inv X pins U H s->Rc trs U H Q->
  wpAny (model X.prog X.w) X.A (evalPairs (pairTrees keys values X.env pos)) (fun vs s'=> ∃ ps H',Inv X pins U H' s'/\VV ps vs/\Q ps H') X.xe s
theorem Fz:PPs X pos [] [] []:=fun pins s U H Q I h=>pairTrees_nil_walk ⟨[],H,I, .nil,h⟩
theorem UZ(hk:PE X k tk)(hv:PE X v tv)(hr:PPs X pos ks vs trs):
  PPs X pos (some k::ks) (v::vs) ((tk,tv)::trs):=fun pins s U H Q I h=>
 pairTrees_cons_walk (thn (hk pins s U H _ I h) fun u s1 ⟨x,H1,I1,rx,q1⟩=>thn (hv pins s1 U H1 _ I1 q1) fun w2 s2 ⟨y,H2,I2,ry,q2⟩=>
  thn (hr pins s2 U H2 _ I2 q2) fun ws s3 ⟨ps,H3,I3,rel,q3⟩=>⟨(x,y)::ps,H3,I3, .cons ⟨rx,ry⟩ rel,q3⟩)
def WI(kvs more:List (Key × V)):List (Key × V):=more.foldl (fun acc kv=>putK acc kv.1 kv.2) kvs
theorem KV.merge:∀ {more:List (Key × V)}{rs:List (Key × Value)}{kvs:List (Key × V)}{vs:List (Key × Value)},KV more rs->KV kvs vs->KV (WI kvs more) (merged vs rs):=by
 intro more rs kvs vs r;unfold KV at r
 induction r generalizing kvs vs with
 | nil=>intro q;exact q
 | @cons p q ps qs h t ih=>
  intro r0
  have e:KV (putK kvs p.1 p.2) (stored vs q.1 q.2):=by
   have:=r0.put p.1 h.2;rw [<-h.1];exact this
  exact ih e
theorem UC:∀ (more kvs:List (Key × V)),(WI kvs more).length<=kvs.length + more.length
 | [],kvs=>by show kvs.length<=kvs.length + 0;omega
 | p::r,kvs=>by
  have h1:=UC r (putK kvs p.1 p.2);have h2:=YJ kvs p.1 p.2;show (WI (putK kvs p.1 p.2) r).length<=_;rw [List.length_cons];omega
theorem WQ:∀ {kvs:List (Key × V)}{ws:List (Value × Value)},VV (kvs.map fun kv=>(kV kv.1,kv.2)) ws->∃ rs,Carries (Zq P w) ws rs/\KV kvs rs
 | [],_,r=>by rw [List.map_nil] at r;cases r;exact ⟨[],True.intro, .nil⟩
 | p::kvs,_,r=>by
  rw [List.map_cons] at r
  cases r with
  | @cons a b as bs h t=>
   obtain ⟨rs,c,q⟩:=WQ (P:=P) (w:=w) t;obtain ⟨b1,b2⟩:=b;exact ⟨(p.1,b2)::rs,⟨UD h.1,rfl,c⟩, .cons ⟨rfl,h.2⟩ q⟩
def OM(trs:List (TE × TE)):TE:=fun U H Q=> ∀ p,H p=none->Rc trs U (upd H p (.dK [])) fun ps H2=>H2 p=some (.dK [])/\∃ kvs:List (Key × V),ps=kvs.map (fun kv=>(kV kv.1,kv.2))/\kvs.length<=15/\Q (.ref p) (upd H2 p (.dK (WI [] kvs)))
theorem IJ(h:PPs X pos keys values trs)(hall:keys.all (·.isSome)=true)(hl:keys.length=values.length)(h0:keys≠ [])(h15:keys.length<=15):PE X (.Dict keys values pos) (OM trs):=by
 intro pins s U H Q I q;have hn:=I.hok.fresh (Nat.le_refl s.heap.objs.size);have I1:=I.laid (a:=s.heap.objs.size) (o:= .dK []) (h':=s.heap.push {cls:= .type "dict",data:= .dict #[]}) (t':=s.toks) (fun _ _ q=>Heap.get?_push_of_some _ q) (Nat.le_refl _) (RM s.heap I.big);refine wpAny_Dict_walk (knd:=Zq X.prog X.w) hall hl h0 h15 (thn (h pins _ U _ _ I1 (q _ hn)) fun ws s2 ⟨ps,H2,I2,rel,e,kvs,ep,lk,q2⟩=>?_);subst ep;obtain ⟨rs,c,rk⟩:=WQ (P:=X.prog) (w:=X.w) rel;obtain ⟨z,hd,vs0,r0,dd⟩:=E4 I2.hok e;cases r0;refine ⟨rs,c,dd,fun h' dd' hs=>⟨.ref s.heap.objs.size,_,?_,rfl,q2⟩⟩
 have hz:(WI [] kvs).length<=sizeLine:=by
  have h1:=UC kvs [];rw [List.length_nil] at h1;rw [sizeLine_eq];omega
 have he:∃ q,h'.get? s.heap.objs.size=some q:=let ⟨q,_,_,hq,_⟩:=dd';⟨q,hq⟩
 exact Ta I2 (by rw [e];exact True.intro) hs he (WO hz hd (rk.merge .nil) dd')
structure M1(X:Cx)(o:Expr)(m:Str)(apos:Pos)(e:Expr)(cpos:Pos):Prop where
 base:attributeBase o m X.env (eval o X.env)=eval o X.env
 few:((backTo cpos (starEach [e] X.env)).all (fun x=>!x.1) && (backToKw cpos (keywordEach [] X.env)).all (fun x=>x.1.isSome)
  && decide (([e]:List Expr).length + ([]:List Keyword).length + (if ([]:List Keyword).isEmpty then 0 else 1) < 30))=true
 line:(apos.endLine==cpos.line)=true
 trees:backTo cpos (starEach [e] X.env)= [(false,eval e X.env)]
structure M2(X:Cx)(o:Expr)(m:Str)(apos:Pos)(e f:Expr)(cpos:Pos):Prop where
 base:attributeBase o m X.env (eval o X.env)=eval o X.env
 few:((backTo cpos (starEach [e,f] X.env)).all (fun x=>!x.1) && (backToKw cpos (keywordEach [] X.env)).all (fun x=>x.1.isSome)
  && decide (([e,f]:List Expr).length + ([]:List Keyword).length + (if ([]:List Keyword).isEmpty then 0 else 1) < 30))=true
 line:(apos.endLine==cpos.line)=true
 trees:backTo cpos (starEach [e,f] X.env)= [(false,eval e X.env),(false,eval f X.env)]
def IsD(H:Hp)(a:Addr):Prop:=(∃ kvs,Rd H a (.dK kvs)) \/ ∃ kvs,Rd H a (.dT kvs)
theorem Lo(I:Inv X pins U H s)(d:IsD H a):
  s.TypeIs (.ref a) "dict" /\(∀ b,Value.ref a= .ref b->∃ ob,s.heap.get? b=some ob/\ob.dict=none)/\(a==sysModules)=false:=by
 rcases d with ⟨kvs,e⟩ | ⟨kvs,e⟩
 .obtain ⟨_,hd,vs,_,dd⟩:=UE I.hok e
  refine ⟨dd.typeIs,fun b q=>?_,hd⟩;cases q;obtain ⟨ob,_,_,h1,h2,_⟩:=dd;exact ⟨ob,h1,h2.2.1⟩
 .obtain ⟨_,hd,xs,_,dd⟩:=WN I.hok e
  refine ⟨dd.typeIs,fun b q=>?_,hd⟩;cases q;obtain ⟨ob,_,_,h1,h2,_⟩:=dd;exact ⟨ob,h1,h2.2.1⟩
section
theorem L0(hu:A.units + 1 < cLine)(I:Inv X pins U H s)(g:Zz H a y o)(ry:RelV y u)(h:∀ w' s',Inv X pins U H s'->RelV (o.getD .non) w'->Q w' s'):
  wpAny (model X.prog X.w) A (call (.builtin "dict.get") [.ref a,u]) Q E s:=by
 rcases g with ⟨kvs,k,e,ey,l⟩ | ⟨kvs,k,b,e,ey,eb,l⟩
 .subst ey
  obtain ⟨z,hd,vs,rel,dd⟩:=UE I.hok e;refine call_meetsIn PySem.F.slot_dict_get dd.typeIs PySem.F.entry_dict_get (PySem.F.args_dict_get_2 _ _) (meets_dict_get (Zq X.prog X.w) a (UD ry) hd) ⟨_,dd.mapOf,h _ _ (I.tok _) ?_⟩;rw [l];exact (rel.val k).getD rfl
 .subst ey
  cases (show u=Value.ref b from ry);obtain ⟨z,hd,xs,rel,dd⟩:=WN I.hok e;refine call_meetsIn PySem.F.slot_dict_get dd.typeIs PySem.F.entry_dict_get (PySem.F.args_dict_get_2 _ _) (meetsH_dict_get (tupleKind (Zq X.prog X.w)) a b hd) ⟨tupleKind_room_in1 hu,k,xs,U3 I.hok eb,dd,h _ _ (I.tok _) ?_⟩;rw [l];exact (rel.val k).getD rfl
end
def LB(td ty:TE):TE:=fun U H Q=>td U H fun x H1=>VN x fun a=>IsD H1 a/\ty U H1 fun y H2=> ∃ o,Zz H2 a y o/\Q (o.getD .non) H2
section
theorem WE(hu:X.A.units + 1 < cLine)(ho:PE X o td)(he:PE X e ty)(m:M1 X o "get" apos e cpos):PE X (.Call (.Attribute o "get" apos) [e] [] cpos) (LB td ty):=by
 intro pins s U H Q I h;refine wpAny_Call_method m.base m.few m.line PySem.F.plainAttrs_dict PySem.F.slot_dict_get PySem.F.type_dict_get (thn (ho pins s U H _ I h) fun u s1 ⟨x,H1,I1,rx,q1⟩=>?_);replace q1:=VN.old q1;obtain ⟨a,ex,d,q1⟩:=q1;subst ex;obtain rfl:u=Value.ref a:=rx;obtain ⟨t1,t2,_⟩:=Lo I1 d;refine ⟨t1,t2,?_⟩;rw [m.trees];refine Calls.callWith_builtin rfl (Calls.evalArgs_plain (Calls.spliced_cons (thn (he pins s1 U H1 _ I1 q1) fun iv s2 ⟨y,H2,I2,ry,ov,g,q2⟩=>Calls.spliced_nil ?_)));exact L0 hu I2 g ry fun w' s3 I3 rw'=>⟨_,H2,I3,rw',q2⟩
end
end L2
namespace Att
open PySem PySem.W PySem.Calls PyProof.Rows
theorem XO:∀ (ns:List Int) (vs:List Value),WellAll P h vs (ns.map WData.int)->IntsAre vs ns:=by
 intro ns
 induction ns with
 | nil=>
  intro vs w;rw [List.map_nil] at w;cases w;exact .nil
 | cons n ns ih=>
  intro vs w;rw [List.map_cons] at w
  cases w with
  | cons a b=>
   cases a;exact .cons _ _ (ih _ b)
theorem Nv{l:OpenLaw}(hn:l.most=some n)(hpre:l.row.toRowW.claim.pre args=true)(hwl:WellAll P h vals args):
  ∃ a vs ns,vals= [Value.ref a]/\args= [WData.list (ns.map WData.int)]/\h.get? a=some {cls:= .type "list",data:= .seq vs.toArray}/\IntsAre vs ns/\ns.length<=n:=by
 have hsh:WShape.hasAll [] args [.list .int]=true:=(pre_splitW hpre).1;have hc:l.pre.holds [] {args:=args}=true:=(pre_splitW hpre).2;obtain ⟨d,r,rfl,h1,h2⟩:=hasAllW_cons hsh;obtain rfl:=hasAllW_nil h2;obtain ⟨xs,rfl,h3⟩:=hasW_list h1;obtain ⟨ns,rfl⟩:=items_int h3
 have hlen:ns.length<=n:=by
  unfold OpenLaw.pre at hc
  have h4:(WTm.not (.lt (.lit (.int (n:Int))) (.len (.arg 0)))).holds [] {args:= [.list (ns.map .int)]}=true:=by
   have h4:=(holds_andW hc).1;rw [hn] at h4;exact h4
  have h5:=condW_of h4 (w_not (w_lt w_lit (w_len_list (w_arg rfl))));rw [List.length_map] at h5;refine Nat.le_of_not_lt fun q=>?_;have q':(n:Int) < ((ns.length:Nat):Int):=by omega
  first
   | (rw [decide_eq_true q'] at h5;exact absurd h5 (by decide))
   | (simp at h5;omega)
 cases hwl with
 | cons w1 w2=>
  cases w2
  cases w1 with
  | list ho hall=>exact ⟨_,_,ns,rfl,rfl,ho,XO ns _ hall,hlen⟩
theorem N1(l:OpenLaw)(args:List WData):l.row.toRowW.claim.post args (.bool true) args=true:=
 postW_of (r:=l.row.toRowW) (X:=(true==true))
  (show WShape.has [] (.bool true) .bool=true by first | rfl | decide | simp [WShape.has,WShape.arms,WShape.armsAll])
  (show (WTm.eq .res (.lit (.bool true))).value [] {args:=args,res:=some (.bool true),after:=args}=some (.bool (true==true)) from w_eq_bool (w_res rfl) w_lit) rfl
theorem attach_call{l:OpenLaw}(hn:l.most=some n)(hdf:d.params.defaults= [])(call:∀ (w:World) (s₀ s₁:Shared) (mg mb:Str->Option Value) (fa:Addr) (o:Obj) (pm cd doc:Value) (a:Addr) (vs:List Value) (ns:List Int),
   Ground q loose [] XP w s₀ mg mb s₁.heap->YP w s₁.heap->
   s₁.heap.get? fa=some o->o.data= .func (docDef d.name d.params d.body d.scope pm cd doc)->s₁.heap.CodeRec cd d.name->mg d.name=some (.ref fa)->
   s₁.heap.get? a=some {cls:= .type "list",data:= .seq vs.toArray}->IntsAre vs ns->ns.length<=n->s₁.gens= #[]->
   codeAny (model l.prog w) callerA (.call (.ref fa) ⟨[.ref a], []⟩) (fun r s'=>r= .ok (.ret (.bool true))/\OldK s₁.heap s'.heap/\s'.os=s₁.os/\AllBare s'.gens) s₁):
  WalkO q loose XP YP l.row.toRowW d [] (fun f vs=>PySem.call f vs):=by
 intro w s₀ s₁ mg mb G Y fa o pm cd doc dV kV ho hd hcd hD hmg hg args vals as hpre hlay hrd hwl hlo;obtain rfl:dV= .none:=Dflts.none hD hdf;obtain rfl:kV= .none:=Dflts.noKw hD;obtain ⟨a,vs,ns,rfl,rfl,hobj,hints,hlen⟩:=Nv hn hpre hwl;refine enter_call (codeAny_mono (call w s₀ s₁ mg mb fa o pm cd doc a vs ns G Y ho (fd_plain hd) hcd hmg hobj hints hlen hg) fun r s' hq=>?_);obtain ⟨rfl,h2,h3,h4⟩:=hq;exact ⟨.inl ⟨.bool true, .bool true, [],rfl,fun _=>rfl, .bool true,N1 l _,fun _=>⟨List.Pairwise.nil,fun _ hm=>(nomatch hm)⟩⟩,h2,h3,h4⟩
end Att
namespace L2
open PySem PySem.Spec PyProof.Rows
theorem We:∀ {vs:List Value}{ns:List Int},IntsAre vs ns->Vals (ns.map V.int) vs
 | _,_, .nil=> .nil
 | _,_, .cons n t h=> .cons ⟨t,rfl⟩ (We h)
def L6(H:Hp):Prop:= ∀ b,H b=none \/ ∃ o xs,H b=some (.frz o (.lst xs))
theorem Eb{K:W.Frag}(KX:K.In s₁.heap)(hns:s₁.heap.Ns mainGlobals mg)(hb:s₁.heap.Ns builtinsNs mb)(hbb:∀ x:Str,x≠"__name__" ->mb x=bootBuiltins x)(hlim:s₁.heap.NoLimit)(hg:s₁.gens= #[])(ha:s₁.heap.get? a=some {cls:= .type "list",data:= .seq vs.toArray})(hi:IntsAre vs ns)(hl:ns.length<=sizeLine)(hr:Ya k callerA)(F:∀ base:Heap,K.In base->base.Ns mainGlobals mg->ZN P w K mg base CX k fa fd [x] sp)(hbind:∀ (s:Shared) (u:Value),BindsTo s fd ⟨[u], []⟩ [(x,u)])(hsp:∀ H:Hp,L6 H->SqL K H a (ns.map V.int)->sp [.ref a] H (fun v _=>v= .bl true) fun _ _ _=>False)(hCX:∀ H e s',CX [] H s₁ (fun _ _ _=>False) e s'->False):
  codeAny (model P w) callerA (.call (.ref fa) ⟨[.ref a], []⟩) (fun r s'=>r= .ok (.ret (.bool true))/\OldK s₁.heap s'.heap/\s'.os=s₁.os/\AllBare s'.gens) s₁:=by
 have rv:=We hi;have lenV:=hi.length;have core:∀ H:Hp,L6 H->SqL K H a (ns.map V.int)->HOk P w H s₁.heap->(∀ b,H b≠none->b=a)->(H a≠none->K.lookup a=none)->
   codeAny (model P w) callerA (.call (.ref fa) ⟨[.ref a], []⟩) (fun r s'=>r= .ok (.ret (.bool true))/\OldK s₁.heap s'.heap/\s'.os=s₁.os/\AllBare s'.gens) s₁:=by
  intro H hO hS hok hA hK;have base_of:∀ {b:Addr}{o:Obj},s₁.heap.get? b=some o->H b=none->(TJ s₁.heap H).get? b=some o:=fun e n=>Ef e n
  have noA:∀ {b:Addr}{o:Obj}{es:Array DictEntry}{ep:Nat},s₁.heap.get? b=some o->o.data= .dict es ep->H b=none:=fun {b o es ep} e d=>by
   cases q:H b with
   | none=>rfl
   | some u=>
    have e':b=a:=hA b (by rw [q];simp);subst e';rw [ha] at e;cases e;have d':Data.seq vs.toArray _=Data.dict es ep:=d;cases d'
  have nsK:∀ {b:Addr}{m:Str->Option Value},s₁.heap.Ns b m->(TJ s₁.heap H).Ns b m:=fun {b m} ⟨o,es,ep,e,d,r⟩=>⟨o,es,ep,base_of e (noA e d),d,r⟩
  have hKb:K.In (TJ s₁.heap H):=fun b o e=>base_of (KX b o e) (by
   cases q:H b with
   | none=>rfl
   | some u=>
    have e':b=a:=hA b (by rw [q];simp);subst e';rw [hK (by rw [q];simp)] at e;cases e)
  have hM:Mod K mg (TJ s₁.heap H):=⟨hKb,nsK hns,⟨mb,nsK hb,hbb⟩,let ⟨mc,h1,h2⟩:=hlim;⟨mc,nsK h1,h2⟩⟩;have e0:Mw P w K mg (TJ s₁.heap H) callerA [] s₁ H:=⟨rfl,hM,fun b o e=>Ib e,Nat.le_of_eq (BR _ _),trivial,fun b hb=>absurd (show b∈([]:List Addr) from hb) (by simp),hok, .of_eq hg⟩;refine codeAny_mono ((F _ hKb (nsK hns)).run callerA [] s₁ H ⟨[.ref a], []⟩ [.ref a] [.ref a] _ _ hr e0 (hbind s₁ (.ref a)) (.cons rfl .nil) (hsp H hO hS)) fun r s' h=>?_
  cases r with
  | error e=>exact (hCX H e s' h).elim
  | ok fl=>
   cases fl with
   | next=>exact False.elim h
   | brk=>exact False.elim h
   | cont=>exact False.elim h
   | ret u=>
    obtain ⟨v,H',os,bare,un,hok',r',q⟩:=h;have q':v= .bl true:=q;subst q';obtain rfl:u=Value.bool true:=r';refine ⟨rfl,OldK.of_keep fun b o e=>?_,os,bare⟩
    cases q:H b with
    | none=>exact un.keep b o e q (by intro z;exact absurd (show b∈([]:List Addr) from z) (by simp)) (by simp)
    | some u=>
     rcases hO b with z | ⟨ob,xs,z⟩
     .rw [q] at z;cases z
     .have z2:=un.frzs b ob _ z
      obtain ⟨e1,_⟩:=hok b _ z;obtain ⟨e2,_⟩:=hok' b _ z2;rw [e] at e1;cases e1;exact e2
 cases hk:K.lookup a with
 | some o=>
  have e:=KX a o hk;rw [ha] at e;cases e;refine core (fun _=>none) (fun _=> .inl rfl) (.inr ⟨_,vs.toArray,_,hk,rfl,rfl,rfl,by rw [List.size_toArray,lenV];exact hl,by simpa using rv⟩) (fun b u z=>by have z':(none:Option HO)=some u:=z;cases z') (fun b z=>absurd rfl z) fun z=>absurd rfl z
 | none=>
  refine core (fun b=>if b=a then some (.frz {cls:= .type "list",data:= .seq vs.toArray} (.lst (ns.map V.int))) else none) (fun b=>?_) (.inl (.inr ⟨{cls:= .type "list",data:= .seq vs.toArray},if_pos rfl⟩)) (fun b u z=>?_) (fun b z=>?_) fun _=>hk
  .by_cases hb:b=a
   .exact .inr ⟨_,_,if_pos hb⟩
   .exact .inl (if_neg hb)
  .by_cases hb:b=a
   .have z':=(if_pos hb).symm.trans z
    cases z';subst hb;exact ⟨ha,by rw [List.length_map];exact hl,vs,_,rv,ha⟩
   .have z':=(if_neg hb).symm.trans z
    cases z'
  .by_cases hb:b=a
   .exact hb
   .exact absurd (if_neg hb) z
end L2
namespace L2
open PySem PySem.Spec PyProof.Rows
theorem walk_of{l:W.OpenLaw}{K:Params->W.Frag}{CX:World->CXT}{sp:World->Sp}(hn:l.most=some n)(hn2:n<=sizeLine)(hdf:d.params.defaults= [])(hr:Ya k callerA)(hY:∀ (w:World) (h:Heap),YP w h->(K w.params).In h)(F:∀ (w:World) (mg:Str->Option Value) (fa:Addr) (h:Heap),(K w.params).In h->h.Ns mainGlobals mg->mg d.name=some (.ref fa)->
   ∃ fd:FuncData,(∀ (s:Shared) (u:Value),BindsTo s fd ⟨[u], []⟩ [(x,u)])/\
    ∀ base:Heap,(K w.params).In base->base.Ns mainGlobals mg->ZN l.prog w (K w.params) mg base (CX w) k fa fd [x] (sp w))(hsp:∀ (w:World) (H:Hp) (a:Addr) (ns:List Int),ns.length<=n->L6 H->SqL (K w.params) H a (ns.map V.int)->sp w [.ref a] H (fun v _=>v= .bl true) fun _ _ _=>False)(hCX:∀ (w:World) (H:Hp) (s:Shared) (e:Value) (s':Shared),CX w [] H s (fun _ _ _=>False) e s'->False):
  W.WalkO q loose XP YP l.row.toRowW d [] (fun f vs=>PySem.call f vs):=by
 refine Att.attach_call hn hdf fun w s₀ s₁ mg mb fa o pm cd doc a vs ns G Y ho hd hcd hmg hobj hints hlen hg=>?_;have KX:=hY w _ Y;obtain ⟨fd,hb,hF⟩:=F w mg fa _ KX G.T.g hmg;exact Eb KX G.T.g G.T.b G.T.builtins G.T.nolimit hg hobj hints (Nat.le_trans hlen hn2) hr hF hb (fun H hO hS=>hsp w H a ns hlen hO hS) fun H e s'=>hCX w H s₁ e s'
end L2
namespace L2
open PySem PySem.Spec PyProof.Rows
def inClass(s:Stmt)(j:Nat):Stmt:=match s with
 | .ClassDef _ _ _ body _ _ _ _ _ _ _=>body.getD j (.Pass ⟨0,0,0,0⟩)
 | _=> .Pass ⟨0,0,0,0⟩
def Vy(s:Stmt):Arguments:=match s with
 | .FunctionDef _ a _ _ _ _ _ _ _ _=>a
 | _=>{posonlyargs:= [],args:= [],vararg:=none,kwonlyargs:= [],kw_defaults:= [],kwarg:=none,defaults:= []}
def VI(s:Stmt):List Stmt:=match s with
 | .FunctionDef _ _ b _ _ _ _ _ _ _=>b
 | _=> []
def ZL(s:Stmt):Scope:=match s with
 | .FunctionDef _ _ _ _ _ _ sc _ _ _=>sc
 | _=>{kind:= .function,names:= [],isGenerator:=false,isCoroutine:=false}
abbrev CX0:CXT:=fun _ _ _ _ _ _=>False
abbrev E0:XK:=fun _ _ _=>False
theorem ZT:V4 CX0 X E0:=fun _ _ _ _ _ _ _ h=>h.elim
structure Fun(K:W.Frag)(x qual:Str)(st:Stmt)(f:Addr)(fd:FuncData):Prop where
 ex:∃ (oc:Value) (od:Option Addr) (kV doc pm:Value) (an:Option Addr) (cdv ct:Value) (osl:Array (Option Value)),
  fd=W.fnOf x qual (Vy st) (VI st) (ZL st) .none kV doc pm an cdv ct/\K.lookup f=some ⟨oc,od, .func fd,osl⟩/\W.codeIn K cdv qual=true
 kp:W.keepIn K (.ref f)=true
section
variable{K:W.Frag}
theorem Fun.ok{st:Stmt}(F:Fun K x qual st f fd)(S:ZX N ps (ZL st))(len:∀ vs H Q E,sp vs H Q E->vs.length=ps.length)(hbody:∀ (cdv:Value) (A:Around) (outer:List Env) (s:Shared) (H:Hp) (vs:List V) (Q:VK) (E:XK),Ya k (A.deeper (envOfC qual (ZL st) s.heap.objs.size f cdv))->sp vs H Q E->
   ∃ t,PSs (Ys CX0 P w K mg base N qual (ZL st) f cdv A outer s H E).nox (VI st) t/\t {nx:=fun _ H'=>Q .non H',rt:=Q} (start N vs) H):ZN P w K mg base CX0 (k + 1) f fd ps sp:=by
 obtain ⟨oc,od,kV,doc,pm,an,cdv,ct,osl,rfl,lk,hcd⟩:=F.ex;refine Kx lk hcd S len fun A outer s H vs Q E hr hsp=>?_;obtain ⟨t,h,q⟩:=hbody cdv A outer s H vs Q E hr hsp;exact ⟨t,h.nox,q⟩
theorem Fun.binds{st:Stmt}(F:Fun K x qual st f fd)(h:∀ (kV doc pm:Value) (an:Option Addr) (cdv ct:Value) (us:List Value),us.length=ps.length->bindArgs (W.fnOf x qual (Vy st) (VI st) (ZL st) .none kV doc pm an cdv ct) ⟨us, []⟩=pure (ps.zip us)):Binds K fd ps []:=by
 obtain ⟨oc,od,kV,doc,pm,an,cdv,ct,osl,rfl,lk,hcd⟩:=F.ex;exact .all (h kV doc pm an cdv ct)
theorem Et{st:Stmt}{kV doc pm cdv ct:Value}(l:K.lookup f=some ⟨oc,od, .func (W.fnOf x qual (Vy st) (VI st) (ZL st) .none kV doc pm an cdv ct),osl⟩)(c:W.codeIn K cdv qual=true)(k:W.keepIn K (.ref f)=true):Fun K x qual st f (W.fnOf x qual (Vy st) (VI st) (ZL st) .none kV doc pm an cdv ct):=⟨⟨oc,od,kV,doc,pm,an,cdv,ct,osl,rfl,l,c⟩,k⟩
end
theorem Yg(hr:Ya k A):A.units + 1 < cLine:=Nat.lt_of_le_of_lt (Nat.add_le_add_left (by decide:1<=64) _) hr.units
theorem ZK(h:n<=1000):n < sizeLine:=Nat.lt_of_le_of_lt h (by decide)
section
theorem pv(i:Nat)(hN:X.N[i]?=some x:=by rfl)(hv:Vis X.env.scope x:=by first | exact Or.inl rfl | exact Or.inr (Or.inl rfl) | exact Or.inr (Or.inr rfl))(hd:(x==("__debug__" :Str))=false:=by decide)(hcd:(x==("__classdict__" :Str))=false:=by decide):PE X (.Name x pos) (UF i):=LX hN hv hd hcd
end
theorem Yr{c A B:Prop}[Decidable c](h1:c->A)(h2: ¬ c->B):if c then A else B:=by
 by_cases h:c
 .rw [if_pos h]
  exact h1 h
 .rw [if_neg h]
  exact h2 h
def Same(H H':Hp):Prop:= ∀ b o,H b=some o->H' b=some o
theorem Same.refl(H:Hp):Same H H:=fun _ _ h=>h
theorem Same.trans(a:Same H H1)(b:Same H1 H2):Same H H2:=fun c o h=>b c o (a c o h)
theorem Same.free(e:Same H H')(h:H' l=Option.none):H l=Option.none:=by
 cases q:H l with
 | none=>rfl
 | some o=>
  rw [e l o q] at h;cases h
theorem Same.seq{K:W.Frag}(e:Same H H')(h:SqL K H a xs):SqL K H' a xs:=by
 rcases h with (h | ⟨o,h⟩) | h
 .exact .inl (.inl (e _ _ h))
 .exact .inl (.inr ⟨o,e _ _ h⟩)
 .exact .inr h
end L2
namespace PySem.W
open PySem PyProof.Rows
section
variable{K:Frag}{x D:Addr}
theorem RK(hc:(clsIn K D).isSome=true)(ha:findIn K (.ref D) name=some (some a))(hn:specialIn K a "__get__" =some (some g))(htk:takesIn K a=some true):findObj K D odo name=some (.bind g a):=by
 obtain ⟨cd,e⟩:=Option.isSome_iff_exists.mp hc;simp only [findObj,e,ha,Option.bind_some,hn,htk]
structure ExcC(K:Frag)(D:Addr):Prop where
 cls:(clsIn K D).isSome=true
 ga:findIn K (.ref D) "__getattribute__" =some (some (.builtin "BaseException.__getattribute__"))
 gn:findIn K (.ref D) "__getattr__" =some none
 base:mroIn K D (.type "BaseException")=some true
 obj:mroIn K D (.type "object")=some true
 ha:findIn K (.ref D) "__class__" =some (some (.builtin "object.__class__"))
 hn:specialIn K (.builtin "object.__class__") "__get__" =some (some (.builtin "getset_descriptor.__get__"))
 htk:takesIn K (.builtin "object.__class__")=some true
set_option tactic.hygienic true in
theorem E7(X:K.In h)(hc:(clsIn K D).isSome=true):∃ c d cd sl,h.get? D=some ⟨c,d, .cls cd,sl⟩:=by
 unfold clsIn at hc
 split at hc
 case h_1 c d cd sl ho=>exact ⟨c,d,cd,sl,X D _ ho⟩
 case h_2=>cases hc
theorem Wy(X:K.In h)(hc:(clsIn K D).isSome=true):Looks M h (isType (.ref D)) true:=by
 obtain ⟨c,d,cd,sl,ho⟩:=E7 X hc;intro A' Q' E' s' k q;simp only [isType,loadHead];exact wpAny_bind (wpAny_loadPart (k D _ ho) (wpAny_pure q))
theorem Iz:builtinKind "BaseException.__getattribute__" =some .slot:=by decide +kernel
theorem Er:splitId "BaseException.__getattribute__" =some ("BaseException","__getattribute__"):=by decide +kernel
theorem Lv:(Value.builtin "BaseException.__getattribute__" == .builtin "object.__getattribute__")=false:=by decide +kernel
theorem BY(C:ExcC K D)(X:K.In s.heap)(I:InstAt s.heap x ox D odo)(hq:Q () s):
  wpAny M A (checkBuiltinCall "BaseException.__getattribute__" ⟨[.ref x,nameV], []⟩) Q E s:=by
 have hs:=looks_mroIn (M:=M) X C.base;have hn:=F.args_bexc_ga (.ref x) nameV;have ht:=I.type (M:=M);unfold checkBuiltinCall;simp only [Iz,Er,isInstance];obtain ⟨h,g,d,t,os⟩:=s;refine wpAny_bind (wpAny_bind (ht.at (hs.at ?_)))
 repeat any_goals first | exact hn | exact hq | wp_step
theorem BX(C:ExcC K D)(X:K.In s.heap)(I:InstAt s.heap x ox D odo)(h:Q (some (.ref D)) {s with toks:=s.toks + 1}):
  wpAny (model prog w) A (getAttr? (.ref x) "__class__") Q E s:=by
 obtain ⟨hh,g,d,t,os⟩:=s;have ht:=I.type (M:=model prog w);have l1:=looks_findIn (M:=model prog w) X C.ga;have l2:=looks_findIn (M:=model prog w) X C.gn;have l3:=looks_find (M:=model prog w) X I (RK C.cls C.ha C.hn C.htk);have sl:=F.attr_ValueError.ga;have bs:=sl.bind (.ref x);simp only [getAttr?,getAttrBy?,getAttrBy];refine wpAny_bind (wpAny_mkText (wpAny_bind (wpAny_attempt (wpAny_holding (wpAny_bind (ht.at ?_))))));refine wpAny_bind (l1.at ?_);simp only [Lv,Bool.and_false,Bool.false_eq_true,if_false,getAttrByItsOwn,hookBefore];refine wpAny_bind (l2.at (wpAny_bind (wpAny_attempt (wpAny_holding ?_))));simp only [callGetattribute,boundAndCalled,Bool.false_and,Bool.false_eq_true,if_false];rw [bs];refine wpAny_bind (wpAny_pure (wpAny_call (codeAny_call_builtin sl.plain F.entry_bexc_ga (BY C X I ?_))));simp only [Builtin.«object.__getattribute__»]
 repeat (first | (with_reducible refine wpAny_call (class_get (s:=⟨hh,g,d,t + 1,os⟩) X I C.obj ?_)) | lk)
 exact h
theorem Td{its:List Value}(X:K.In h)(hc:(clsIn K D).isSome=true)(htp:h.get? tp=some ⟨.type "tuple",dd, .seq its.toArray n,sl⟩):(Value.ref D== .ref tp)=false:=by
 obtain ⟨c,d,cd,sl',ho⟩:=E7 X hc
 cases hb:(Value.ref D==Value.ref tp) with
 | false=>rfl
 | true=>cases beq_iff_eq.mp hb;cases ho.symm.trans htp
theorem kitx_exc(C:ExcC K D):KitX K (.ref x) (.ref D) (fun h=> ∃ ox odo,InstAt h x ox D odo):=
 ⟨fun _ _ _ ⟨_,_,I⟩=>I.type,fun _ _ X _=>Wy X C.cls,fun _ _ _ _ _ _ X ht=>Td X C.cls ht,fun X ⟨_,_,I⟩ k=>BX C X I k⟩
theorem exc_matches(X:K.In s.heap)(I:InstAt s.heap x ox D odo)(hN:(clsIn K N).isSome=true)(hT:typeIn K (.ref N)=some (.type "type"))(hB:mroIn K N (.type "BaseException")=some true)(hS:subIn K (.ref D) (.ref N)=some b)(hq:Q b s):
  wpAny M A (excMatches (.ref x) (.ref N)) Q E s:=by
 have ht:=I.type (M:=M);have l1:=looks_typeIn (M:=M) X hT;have l2:=looks_mroIn (M:=M) X hB;have l3:=looks_subIn (M:=M) X hS;have l4:=Wy (M:=M) X hN;have nt:=tc_notTuple;obtain ⟨h,g,d,t,os⟩:=s;simp only [excMatches,isInstance,isExcClass]
 repeat any_goals first | assumption | lk
 cases b <;> (repeat any_goals first | assumption | lk)
end
end PySem.W
namespace L2
open PySem PySem.Spec PyProof.Rows
def Trc(old:Heap)(H:Hp)(h:Heap)(ea:Addr)(vs:Array Value):Prop:=
 vs[1]?=some .none \/ ∃ T oT ts,vs[1]?=some (.ref T)/\T≠ea/\old.get? T=none/\H T=none/\h.get? T=some oT/\oT.data= .fields ts/\ts[3]?=some .none
structure Fly(old:Heap)(H:Hp)(h:Heap)(ea C:Addr)(dx:Option Addr):Prop where
 new:old.get? ea=none
 free:H ea=none
 obj:∃ oe vs,h.get? ea=some oe/\oe.cls= .ref C/\oe.dict=dx/\oe.data= .fields vs/\1 < vs.size/\Trc old H h ea vs
section
def tbO(head:Value)(L:Addr)(pl:List Value):Obj:={cls:= .type "traceback",dict:=none,data:= .fields ([head, .ref L, .none,rawInt L, .none]++ (if pl.isEmpty then List.replicate 6 Value.none else pl)).toArray}
def tbH(g:Heap)(head:Value)(L ea:Addr)(pl:List Value):Heap:=
 ((g.push (tbO head L pl)).update ea (Obj.mapFields (·.setIfInBounds 1 (.ref g.objs.size)))).update g.objs.size (Obj.mapFields (·.setIfInBounds 3 ((none:Option Addr).elim Value.none fun f=>rawInt f)))
section
variable{g:Heap}
theorem Tq(hb:b≠ea)(q:g.get? b=some o):(tbH g head L ea pl).get? b=some o:=
 (Heap.get?_update_other _ _ (Nat.ne_of_gt (Heap.lt_size q))).trans ((Heap.get?_update_other _ _ (Ne.symm hb)).trans (Heap.get?_push_of_some _ q))
theorem M3(q:g.get? ea=some oe)(hd:oe.data= .fields vs):((g.push (tbO head L pl)).update ea (Obj.mapFields (·.setIfInBounds 1 (.ref g.objs.size)))).get? ea=some (oe.mapFields (·.setIfInBounds 1 (.ref g.objs.size))):=
 Heap.get?_update_self _ (Heap.get?_push_of_some _ q) (Obj.isFreed_of_fields (Obj.data_mapFields hd _))
theorem K7(q:g.get? ea=some oe)(hd:oe.data= .fields vs):(tbH g head L ea pl).get? ea=some (oe.mapFields (·.setIfInBounds 1 (.ref g.objs.size))):=
 (Heap.get?_update_other _ _ (Nat.ne_of_gt (Heap.lt_size q))).trans (M3 q hd)
theorem Tp(q:g.get? ea=some oe):((g.push (tbO head L pl)).update ea (Obj.mapFields (·.setIfInBounds 1 (.ref g.objs.size)))).get? g.objs.size=some (tbO head L pl):=
 (Heap.get?_update_other _ _ (Nat.ne_of_lt (Heap.lt_size q))).trans (Heap.get?_push_size g rfl)
theorem FV(q:g.get? ea=some oe):∃ o ts,(tbH g head L ea pl).get? g.objs.size=some o/\o.data= .fields ts/\ts[3]?=some Value.none:=
 ⟨_,_,Heap.get?_update_self _ (Tp q) (Obj.isFreed_of_fields (Obj.data_mapFields rfl _)),Obj.data_mapFields rfl _,by
  rw [Array.getElem?_setIfInBounds_self_of_lt (by simp)];rfl⟩
end
theorem Na(fr:A.frames=some (env::outer))(ff:s.heap.FunFrames base (env::outer))(fl:env.frame=some L)(he:s.heap.get? ea=some oe)(hd:oe.data= .fields vs)(hsz:1 < vs.size)(h:∀ h' T oT ts,s.heap.get? T=none->(∀ b o,b≠ea->b ∉ frs (env::outer)->s.heap.get? b=some o->h'.get? b=some o)->(∀ b o,b≠ea->s.heap.get? b=some o->∃ sl,h'.get? b=some {o with slots:=sl})->
   h'.get? ea=some (oe.mapFields (·.setIfInBounds 1 (.ref T)))->h'.get? T=some oT->oT.data= .fields ts->ts[3]?=some .none->Q () {s with heap:=h'}):
  wpAny M A (do let a <-frameOf env;let pl <-entryPlaceOf L hadNext;let b <-EntryCells.newEntry head a .none (rawInt L) .none pl;setField (.ref ea) 1 b) (fun _ s'=>wpAny M A (setFlight (.ref ea) none) Q E s') E s:=by
 have apart:ea ∉ frs (env::outer):=fun z=>(ff.mem z).2.elim fun o q=>q.2 vs (by have e:=he.symm.trans q.1;cases e;exact hd);refine wpAny_bind (wpAny_frameOf_fun fr ff fl fun g hg=>wpAny_bind (wpAny_entryPlaceOf fun pl hp=>?_));have hea:g.get? ea=some oe:=(hg.2.1 ea apart).trans he;obtain ⟨oT,ts,q1,q2,q3⟩:=FV (head:=head) (L:=L) (pl:=pl) hea;simp only [EntryCells.newEntry,newFields];refine wpAny_bind (wpAny_newObj_type (wpAny_setField (Heap.get?_push_of_some _ hea) hd hsz ?_) (hp.sizeOk5 _ _ _ _ _));simp only [setFlight];refine wpAny_bind (wpAny_field (M3 (head:=head) (L:=L) (pl:=pl) hea hd) (Obj.data_mapFields hd _) (x:= .ref g.objs.size) (by simp [hsz]) ?_);rw [if_pos (by simp)];refine wpAny_setField (Tp hea) rfl (by simp) ?_;refine h (tbH g head L ea pl) g.objs.size oT ts (Heap.get?_none_of_le (Nat.le_of_eq hg.1.symm)) (fun b o hb nf q=>Tq hb ((hg.2.1 b nf).trans q)) (fun b o hb q=>?_) (K7 hea hd) q1 q2 q3;obtain ⟨sl,q'⟩:=hg.2.2 b o q;exact ⟨sl,Tq hb q'⟩
theorem EQ(hfr:A.frames=some (env::outer))(hl:s.heap.FunFrames base (env::outer))(hf:env.frame=some L)(F:Fly old H s.heap ea C dx)(hT:∀ b o,old.get? b=some o->∃ u,s.heap.get? b=some u)(hH:∀ b o,H b=some o->∃ u,s.heap.get? b=some u)(h:∀ h',(∀ b o,(H b≠none \/ ∃ u,old.get? b=some u)->b ∉ frs (env::outer)->s.heap.get? b=some o->h'.get? b=some o)->
   (∀ b o,(∀ vs,o.data≠ .fields vs)->s.heap.get? b=some o->∃ sl,h'.get? b=some {o with slots:=sl})->Fly old H h' ea C dx->Q () {s with heap:=h'}):
  wpAny M A (noteFrame (.ref ea) env) (fun _ s₂=>wpAny M A (setFlight (.ref ea) none) Q E s₂) E s:=by
 obtain ⟨hnew,hfree,oe,vs,he,hc,hdx,hd,hsz,ht⟩:=F;unfold noteFrame;simp only [hf];have done:∀ h1:Heap,(∀ b o,b≠ea->(H b≠none \/ (∃ u,old.get? b=some u) \/ ∀ vs,o.data≠ .fields vs)->s.heap.get? b=some o->h1.get? b=some o)->(∀ b,(∃ u,s.heap.get? b=some u)->∃ u,h1.get? b=some u)->
   ∀ h' T oT ts,h1.get? T=none->(∀ b o,b≠ea->b ∉ frs (env::outer)->h1.get? b=some o->h'.get? b=some o)->(∀ b o,b≠ea->h1.get? b=some o->∃ sl,h'.get? b=some {o with slots:=sl})->
   h'.get? ea=some (oe.mapFields (·.setIfInBounds 1 (.ref T)))->h'.get? T=some oT->oT.data= .fields ts->ts[3]?=some .none->Q () {s with heap:=h'}:=by
  intro h1 k1 k2 h' T oT ts hTn hk hsl hea hTo hTd hT3
  have dead:∀ b,h1.get? b=none->s.heap.get? b=none:=fun b hb=>by
   cases q:s.heap.get? b with
   | none=>rfl
   | some u=>obtain ⟨v,hv⟩:=k2 b ⟨u,q⟩;rw [hb] at hv;cases hv
  have hTs:=dead T hTn;refine h h' (fun b o hb hnf hq=>?_) (fun b o hnd hq=>?_) ⟨hnew,hfree,_,_,hea,?_,?_,Obj.data_mapFields hd _,by simpa using hsz, .inr ⟨T,oT,ts,by simp [hsz],?_,?_,?_,hTo,hTd,hT3⟩⟩
  .have hne:b≠ea:=by
    rintro rfl;rcases hb with z | ⟨u,z⟩
    .exact z hfree
    .rw [hnew] at z;cases z
   exact hk b o hne hnf (k1 b o hne (by rcases hb with z | z;exact .inl z;exact .inr (.inl z)) hq)
  .have hne:b≠ea:=by
    rintro rfl;rw [he] at hq;cases hq;exact hnd _ hd
   exact hsl b o hne (k1 b o hne (.inr (.inr hnd)) hq)
  .rw [Obj.cls_mapFields];exact hc
  .rw [<-hdx];obtain ⟨c,d,dt,sl⟩:=oe;cases dt <;> rfl
  .rintro rfl;rw [he] at hTs;cases hTs
  .cases q:old.get? T with
   | none=>rfl
   | some u=>obtain ⟨v,hv⟩:=hT T u q;rw [hTs] at hv;cases hv
  .cases q:H T with
   | none=>rfl
   | some u=>obtain ⟨v,hv⟩:=hH T u q;rw [hTs] at hv;cases hv
 rcases ht with h1 | ⟨T,oT,ts,h1,hTe,hnT,hfT,hTo,hdT,h3⟩
 .refine wpAny_bind (wpAny_field he hd h1 ?_)
  rw [if_neg (by decide)];exact Na hfr hl hf he hd hsz (done s.heap (fun b o _ _ q=>q) (fun b q=>q))
 .refine wpAny_bind (wpAny_field he hd h1 ?_)
  rw [if_pos (by simp)];refine wpAny_bind (wpAny_field hTo hdT h3 ?_);rw [if_neg (by simp [rawInt])];have lt3:=(Array.getElem?_eq_some_iff.mp h3).1;have other:∀ b,b≠T->(s.heap.update T (Obj.mapFields fun a=>a.setIfInBounds 3 .none)).get? b=s.heap.get? b:=fun b z=>Heap.get?_update_other _ _ z.symm;refine wpAny_bind (wpAny_setField hTo hdT lt3 ?_);refine Na hfr (hl.of_keeps fun b o hb hnf=>⟨o,(other b fun q=>by rw [q,hTo] at hb;cases hb;exact hnf _ hdT).trans hb,rfl⟩) hf ((other ea (Ne.symm hTe)).trans he) hd hsz
   (done _ (fun b o hne hb hq=>?_) (fun b hb=>?_))
  .refine (other b ?_).trans hq
   rintro rfl;rcases hb with z | ⟨u,z⟩ | z
   .exact z hfT
   .rw [hnT] at z;cases z
   .rw [hTo] at hq;cases hq;exact z _ hdT
  .by_cases e:b=T
   .subst e
    exact ⟨_,Heap.get?_update_self _ hTo (Obj.isFreed_of_fields (Obj.data_mapFields hdT _))⟩
   .obtain ⟨u,hu⟩:=hb
    exact ⟨u,(other b e).trans hu⟩
end
end L2
namespace L2
open PySem PySem.Spec PyProof.Rows
section
theorem Z5.ex(x:Z5 P w H h a o):∃ u,h.get? a=some u:=by
 cases o with
 | lst xs=>obtain ⟨_,_,_,_,e⟩:=x;exact ⟨_,e⟩
 | tup xs=>obtain ⟨_,_,_,o,e,_⟩:=x;exact ⟨_,e⟩
 | dK kvs=>obtain ⟨_,_,_,_,o,_,_,e,_⟩:=x;exact ⟨_,e⟩
 | dT kvs=>obtain ⟨_,_,_,_,o,_,_,e,_⟩:=x;exact ⟨_,e⟩
 | set S n=>obtain ⟨o,_,_,_,e,_⟩:=x;exact ⟨_,e⟩
 | ins C dx fs=>obtain ⟨_,_,_,e,_⟩:=x;exact ⟨_,e⟩
 | own y=>exact x
 | xd fs=>obtain ⟨_,⟨_,_,_,e,_⟩,_⟩:=x;exact ⟨_,e⟩
 | rng lo hi=>obtain ⟨_,_,_,e⟩:=x;exact ⟨_,e⟩
 | frz ob u=>obtain ⟨e,_⟩:=x;exact ⟨_,e⟩
 | tbl ps=>exact ⟨_,x⟩
 | met f y=>exact ⟨_,x⟩
 | ext φ=>obtain ⟨_,e,_⟩:=x;exact e
end
def CX1(P:Program)(w:World):CXT:=fun outer H s E e s'=> ∃ ea C dx H',e= .ref ea/\s'.os=s.os/\AllBare s'.gens/\Un (frs outer) [] H H' s.heap s'.heap/\HOk P w H' s'.heap/\Fly s.heap H' s'.heap ea C dx/\E (.ref C) dx H'
def FI(X:Cx)(E:XK):Prop:= ∀ (pins:List (Addr × Obj)) (U:St) (H:Hp) (s:Shared) (ea C:Addr) (dx:Option Addr),Inv X pins U H s->Fly X.s₀.heap H s.heap ea C dx->E (.ref C) dx H->X.xe (.ref ea) s
theorem Fly.older(F:Fly old H h ea C dx)(k:∀ b u,old'.get? b=some u->∃ v,old.get? b=some v):Fly old' H h ea C dx:=by
 have dead:∀ b,old.get? b=none->old'.get? b=none:=fun b hb=>by
  cases q:old'.get? b with
  | none=>rfl
  | some u=>obtain ⟨v,hv⟩:=k b u q;rw [hb] at hv;cases hv
 obtain ⟨hnew,hfree,oe,vs,he,hc,hdx,hd,hsz,ht⟩:=F;refine ⟨dead _ hnew,hfree,oe,vs,he,hc,hdx,hd,hsz,?_⟩;rcases ht with h1 | ⟨T,oT,ts,h1,hTe,hnT,r⟩
 .exact .inl h1
 .exact .inr ⟨T,oT,ts,h1,hTe,dead _ hnT,r⟩
section
variable{K:W.Frag}
theorem J3:FI (Ys (CX1 P w) P w K mg base N qual scope f cd A outer s₀ H₀ E) E:=by
 intro pins U H s ea C dx I F q;have there:∀ b u,s₀.heap.get? b=some u->∃ v,s.heap.get? b=some v:=fun b u e=>I.base.there b u e (by simp [Ys]);show wpAny _ _ (leaving _ _) _ _ s;unfold leaving;refine wpAny_bind (EQ (base:=base) (outer:=outer) I.ok.frames I.stack rfl F there (fun b o e=>(I.hok b o e).ex) fun h' hk hsl F'=>?_);have fr:∀ b∈frs (envOfC qual scope s₀.heap.objs.size f cd::outer),H b=none:=I.stkFree;have nofr:∀ b o,H b=some o->b ∉ frs (envOfC qual scope s₀.heap.objs.size f cd::outer):=fun b o e z=>by rw [fr b z] at e;cases e
 have tk:∀ b o u,H b=some o->s.heap.get? b=some u->h'.get? b=some u:=fun b o u e q=>hk b u (.inl (by rw [e];simp)) (nofr b o e) q;have B:=I.base;refine ⟨ea,C,dx,H,rfl,I.os,I.bare,⟨fun b o e n hb _=>?_,fun b o e n hb _=>?_,fun b o e n _=>B.free b o e n (by simp [Ys]),fun b o e _=>?_,B.tups,B.frzs,B.tbls⟩,fun a o e=>?_,F',q⟩
 .refine hk b o (.inr ⟨o,e⟩) ?_ (B.keep b o e n hb (by simp [Ys]))
  intro z;have z':b∈(s₀.heap.objs.size::frs outer):=z;rcases List.mem_cons.mp z' with rfl | z'
  .exact (Nat.lt_irrefl _ (Heap.lt_size e)).elim
  .exact hb z'
 .obtain ⟨sl,e1⟩:=B.slot b o e n hb (by simp [Ys])
  have nd:∀ vs,o.data≠ .fields vs:=fun vs z=>by
   obtain ⟨_,o',ho',hd'⟩:=I.stack.mem (b:=b) (by show b∈(s₀.heap.objs.size::frs outer);exact List.mem_cons_of_mem _ hb);rw [e1] at ho';cases ho';exact hd' vs z
  obtain ⟨sl2,e2⟩:=hsl b {o with slots:=sl} nd e1;exact ⟨sl2,e2⟩
 .by_cases hb:b∈frs (envOfC qual scope s₀.heap.objs.size f cd::outer)
  .obtain ⟨_,o',ho',hd'⟩:=I.stack.mem hb
   obtain ⟨sl,e2⟩:=hsl b o' hd' ho';exact ⟨_,e2⟩
  .obtain ⟨o',e1⟩:=there b o e
   exact ⟨o',hk b o' (.inr ⟨o,e⟩) hb e1⟩
 .refine (I.hok a o e).stay (fun b u hb q=>?_) (fun _ q=>q) fun _ _ q=>q
  rcases hb with rfl | hb
  .exact tk _ _ _ e q
  .exact tk _ _ _ hb q
end
section
theorem FI.passes(h:FI X E)(hex:X.ex= []):V4 (CX1 X.prog X.w) X E:=by
 intro pins U H s e s' I hx;obtain ⟨ea,C,dx,H',rfl,os,bare,un,hok,F,q⟩:=hx;obtain ⟨hh,g,d,t,os'⟩:=s';obtain rfl:os'=s.os:=os;exact h pins U H' _ ea C dx (I.call (h':=hh) (g':=g) (d':=d) (t':=t) (ch:= []) un hok bare (fun b z=>absurd z (by simp))) (F.older fun b u q=>I.base.there b u q (by rw [hex];simp)) q
end
end L2
namespace L2
open PySem PySem.Spec PyProof.Rows
abbrev OA:List Value:= [.type "ValueError", .type "Exception", .type "BaseException", .type "object"]
abbrev IsX(K:W.Frag)(C:Addr):Prop:=W.excIn K C OA "ValueError.__new__" =true
set_option tactic.hygienic true in
theorem KU{K:W.Frag}(X:K.In h)(q:IsX K C):
  ∃ tl N nm qn bs hd sn sub ab col dd k0 k1 k2 k3 k5 mN,h.get? C=some (excClassObj nm qn C N bs tl hd sn sub ab col dd k0 k1 k2 k3 k5 "ValueError.__new__")/\h.Ns N mN/\mN "__init__" =none/\OwnTail h OA tl:=by
 unfold IsX W.excIn at q
 split at q
 case h_1 dd cd sl ho=>
  split at q
  case h_1 C2 tl k0 k1 k2 k3 n k5 hm hs=>
   rw [Bool.and_eq_true,Bool.and_eq_true,Bool.and_eq_true,Bool.and_eq_true,Bool.and_eq_true] at q;obtain ⟨⟨⟨⟨⟨q1,q2⟩,q3⟩,q4⟩,q5⟩,q6⟩:=q;have e1:C2=C:=beq_iff_eq.mp q1;have e2:n="ValueError.__new__" :=beq_iff_eq.mp q2;subst e1 e2
   cases cd with
   | mk nm bs mro ns qn hd sn sub ab col del=>
    have e3:mro= .ref C2::tl:=hm
    have e4:del=false:=by cases del with
     | false=>rfl
     | true=>cases q3
    subst e3 e4
    have e5:sl= #[k0,k1,k2,k3,some (.builtin "ValueError.__new__"),k5]:=by
     cases sl with
     | mk l=>exact congrArg Array.mk hs
    subst e5;exact ⟨tl,ns,nm,qn,bs,hd,sn,sub,ab,col,dd,k0,k1,k2,k3,k5,h.nsMap ns,X _ _ ho, .of_isNs (W.isNs_of_in X q5),W.nsMap_none_of_in X q5 (beq_iff_eq.mp q6),W.tail_of_in X q4⟩
  case h_2=>cases q
 case h_2=>cases q
section
variable{X:Cx}{E:XK}{x:Str}{C:Addr}{e:Expr}{es:List Expr}{t:TA}
def K8(C:Addr)(E:XK)(t:TA):TS:=fun _ U H=>t U H fun vs H1=>vs.length<=sizeLine/\E (.ref C) none H1
theorem Dj(hl:FI X E)(hex:X.ex= [])(hc:X.calm=true)(hg:Gl X x)(hm:X.mg x=some (.ref C))(hC:IsX X.K C)(ha:PA X (e::es) t)(hdb:(x==("__debug__" :Str))=false:=by decide)(he:starEach (e::es) X.env=(false,eval e X.env)::starEach es X.env:=by rfl)(hpl:(backTo cpos (starEach es X.env)).any (·.1)=false:=by rfl):
  PS X (.Raise (some (.Call (.Name x np) (e::es) [] cpos)) none pos) (K8 C E t):=by
 intro pins s U H D I h;obtain ⟨tl,N,nm,qn,bs,hd,sn,sub,ab,col,dd,k0,k1,k2,k3,k5,mN,hCo,hN,hni,T⟩:=KU I.ok.mod.kin hC;refine wpAny_Raise_call_subT (C:=C) (nm:=nm) (q:=qn) (N:=N) (bs:=bs) (bm:=tl) (hdct:=hd) (sn:=sn) (sub:=sub) (ab:=ab) (col:=col) (dd:=dd) (k0:=k0) (k1:=k1) (k2:=k2) (k3:=k3) (k5:=k5)
  F.excBase_ValueError (mN:=mN) (T.hasType F.excBase_ValueError.hasBase) (I.ok.hd hc) ?_ hni (JQ I hg hm ⟨rfl,?_⟩ hdb)
 .rw [he]
  show (false || (backTo cpos (starEach es X.env)).any (·.1))=false;rw [hpl];rfl
 .have ha':=ha cpos pins s U H _ I h
  rw [he] at ha' |-;refine Calls.evalArgs_plain (wpAny_mono ha' (fun us s2 ⟨vs,H1,I1,r1,hz,q1⟩=>⟨rfl,by show us.length<=sizeLine;rw [<-r1.length];exact hz,I1.bk _ _ hCo,hN.keeps I1.bk,T.keeps I1.bk,fun h' ea hx=>?_⟩) fun _ _ z=>z);obtain ⟨tt,ht,_,_⟩:=hx.there;refine hl pins U H1 _ ea C none (I1.kept (h':=h') (t':=s2.toks) hx.keeps) ⟨?_,?_,_,_,ht,rfl,rfl,rfl,(by show 1 < 6;decide), .inl rfl⟩ q1
  .cases q:X.s₀.heap.get? ea with
   | none=>rfl
   | some u=>obtain ⟨v,hv⟩:=I1.base.there ea u q (by rw [hex];simp);rw [hx.new] at hv;cases hv
  .cases q:H1 ea with
   | none=>rfl
   | some u=>obtain ⟨v,hv⟩:=(I1.hok ea u q).ex;rw [hx.new] at hv;cases hv
def Wg:List TE->Str->TE
 | [],acc=>fun _ H Q=>Q (.str acc) H
 | t::ts,acc=>fun U H Q=>t U H fun v H1=> ∃ x,v= .str x/\(acc++ x).length<=sizeLine/\Wg ts (acc++ x) U H1 Q
inductive PEs(X:Cx):List Expr->List TE->Prop where
 | nil:PEs X [] []
 | cons {e:Expr}{t:TE}{es:List Expr}{ts:List TE}:PE X e t->PEs X es ts->PEs X (e::es) (t::ts)
theorem RE:∀ {es:List Expr}{ts:List TE}(hp:PEs X es ts) (acc:Str) (s:Shared) (H:Hp),acc.length<=sizeLine->Inv X pins U H s->Wg ts acc U H Q->
  Joins (model X.prog X.w) X.A X.xe (evalEach es X.env) acc (fun out s₁=>out.length<=sizeLine/\EP X pins U Q (.str out s₁.toks) {s₁ with toks:=s₁.toks + 1}) s
 | _,_, .nil,acc,s,H,hz,I,h=>by
  unfold evalEach;exact ⟨hz, .str acc,H,I.tok _,⟨_,rfl⟩,h⟩
 | _,_, .cons (e:=e) (es:=es) hp hr,acc,s,H,hz,I,h=>by
  unfold evalEach;refine thn (hp pins s U H _ I h) fun u s1 ⟨y,H1,I1,r1,x,hx,hl,q⟩=>?_;subst hx;obtain ⟨tk,rfl⟩:=r1;exact ⟨x,tk,rfl,hl,RE hr (acc++ x) s1 H1 hl I1 q⟩
theorem N2(hp:PEs X (v1::v2::vs) ts):PE X (.JoinedStr (v1::v2::vs) pos) (Wg ts Str.empty):=by
 intro pins s U H Q I h;exact wpAny_JoinedStr (RE hp Str.empty s H (by decide) I h)
end
end L2
namespace L2
open PySem PySem.Spec PyProof.Rows
def Uh(ea C:Addr)(dx:Option Addr):HO:= .ext fun h=> ∃ ox,h.get? ea=some ox/\ox.cls= .ref C/\W.notCls ox=true/\ox.dict=dx
section
variable{s s':Shared}
theorem Ie(hfr:A.frames=some (env::outer))(hl:s'.heap.FunFrames base (env::outer))(hf:env.frame=some L)(hH:∀ b∈frs (env::outer),H' b=none)(un:Un (frs (env::outer)) [] H H' s.heap s'.heap)(hok:HOk P w H' s'.heap)(F:Fly s.heap H' s'.heap ea C dx)(h:∀ h',Un (frs (env::outer)) [] H H' s.heap h'->HOk P w H' h'->Fly s.heap H' h' ea C dx->Q () {s' with heap:=h'}):
  wpAny M A (noteFrame (.ref ea) env) (fun _ s₂=>wpAny M A (setFlight (.ref ea) none) Q E s₂) E s':=by
 have there:∀ b u,s.heap.get? b=some u->∃ v,s'.heap.get? b=some v:=fun b u e=>un.there b u e (by simp);refine EQ hfr hl hf F there (fun b o e=>(hok b o e).ex) fun h' hk hsl F'=>?_;have nofr:∀ b o,H' b=some o->b ∉ frs (env::outer):=fun b o e z=>by rw [hH b z] at e;cases e
 have tk:∀ b o u,H' b=some o->s'.heap.get? b=some u->h'.get? b=some u:=fun b o u e q=>hk b u (.inl (by rw [e];simp)) (nofr b o e) q;refine h h' ⟨fun b o e n hb hx=>hk b o (.inr ⟨o,e⟩) hb (un.keep b o e n hb hx),fun b o e n hb hx=>?_,un.free,fun b o e hx=>?_,un.tups,un.frzs,un.tbls⟩ (fun a o e=>?_) F'
 .obtain ⟨sl,e1⟩:=un.slot b o e n hb hx
  have nd:∀ vs,o.data≠ .fields vs:=fun vs z=>by
   obtain ⟨_,o',ho',hd'⟩:=hl.mem hb;rw [e1] at ho';cases ho';exact hd' vs z
  obtain ⟨sl2,e2⟩:=hsl b {o with slots:=sl} nd e1;exact ⟨sl2,e2⟩
 .by_cases hb:b∈frs (env::outer)
  .obtain ⟨_,o',ho',hd'⟩:=hl.mem hb
   obtain ⟨sl,e2⟩:=hsl b o' hd' ho';exact ⟨_,e2⟩
  .obtain ⟨o',e1⟩:=there b o e
   exact ⟨o',hk b o' (.inr ⟨o,e⟩) hb e1⟩
 .refine (hok a o e).stay (fun b u hb q=>?_) (fun _ q=>q) fun _ _ q=>q
  rcases hb with rfl | hb
  .exact tk _ _ _ e q
  .exact tk _ _ _ hb q
theorem BW(un:Un fs [] H H' s.heap s'.heap)(hok:HOk P w H' s'.heap)(F:Fly s.heap H' s'.heap ea C dx)(hT:∀ b∈fs,∀ o vs,s'.heap.get? b=some o->o.data≠ .fields vs)(h:∀ h',Un fs [] H H' s.heap h'->HOk P w H' h'->Fly s.heap H' h' ea C dx->Q () {s' with heap:=h'}):
  wpAny M A (setFlight (.ref ea) none) Q E s':=by
 obtain ⟨hnew,hfree,oe,vs,he,hc,hdx,hd,hsz,ht⟩:=id F;unfold setFlight;rcases ht with h1 | ⟨T,oT,ts,h1,hTe,hnT,hfT,hTo,hdT,h3⟩
 .refine wpAny_bind (wpAny_field he hd h1 ?_)
  rw [if_neg (by decide)];obtain ⟨hh,g,d,t,os⟩:=s';exact wpAny_pure (h hh un hok F)
 .refine wpAny_bind (wpAny_field he hd h1 ?_)
  rw [if_pos (by simp)];have hlt:=(Array.getElem?_eq_some_iff.mp h3).1;have other:∀ b,b≠T->(s'.heap.update T (Obj.mapFields (·.setIfInBounds 3 ((none:Option Addr).elim Value.none fun f=>rawInt f)))).get? b=s'.heap.get? b:=fun b z=>Heap.get?_update_other _ _ (Ne.symm z);have self:=Heap.get?_update_self (Obj.mapFields (·.setIfInBounds 3 ((none:Option Addr).elim Value.none fun f=>rawInt f))) hTo (Obj.isFreed_of_fields (Obj.data_mapFields hdT _));have old:∀ b o,s.heap.get? b=some o->b≠T:=fun b o e z=>by rw [z,hnT] at e;cases e
  refine wpAny_setField hTo hdT hlt (h _ ⟨fun b o e n hb hx=>(other b (old b o e)).trans (un.keep b o e n hb hx),fun b o e n hb hx=>?_,un.free,fun b o e hx=>?_,un.tups,un.frzs,un.tbls⟩ (fun a o e=>?_)
   ⟨hnew,hfree,oe,vs,(other ea (Ne.symm hTe)).trans he,hc,hdx,hd,hsz, .inr ⟨T,_,_,h1,hTe,hnT,hfT,self,Obj.data_mapFields hdT _,by simp [hlt]⟩⟩)
  .obtain ⟨sl,e1⟩:=un.slot b o e n hb hx
   exact ⟨sl,(other b (old b o e)).trans e1⟩
  .obtain ⟨o',e1⟩:=un.there b o e hx
   exact ⟨o',(other b (old b o e)).trans e1⟩
  .refine (hok a o e).stay (fun b u hb q=>?_) (fun _ q=>q) fun _ _ q=>q
   refine (other b ?_).trans q;rintro rfl;rcases hb with rfl | hb
   .rw [hfT] at e;cases e
   .rw [hfT] at hb;cases hb
theorem Fly.track(F:Fly old H' h ea C dx)(un:Un fs [] H H' old h)(hok:HOk P w H' h):Un fs [] H (upd H' ea (Uh ea C dx)) old h/\HOk P w (upd H' ea (Uh ea C dx)) h:=by
 obtain ⟨hnew,hfree,oe,vs,he,hc,hdx,hd,hsz,ht⟩:=F;have ne:∀ b o,H' b=some o->b≠ea:=fun b o e z=>by rw [z,hfree] at e;cases e
 refine ⟨⟨un.keep,un.slot,fun b o e n hx=>?_,un.there,fun b xs e=>?_,fun b o u e=>?_,fun b ps e=>?_⟩,fun a o e=>?_⟩
 .rw [ZI (fun z=>by rw [z,hnew] at e;cases e)];exact un.free b o e n hx
 .rw [ZI (ne b _ (un.tups b xs e))];exact un.tups b xs e
 .rw [ZI (ne b _ (un.frzs b o u e))];exact un.frzs b o u e
 .obtain ⟨more,q⟩:=un.tbls b ps e
  exact ⟨more,by rw [ZI (ne b _ q)];exact q⟩
 .by_cases z:a=ea
  .subst z
   rw [ZD] at e;cases e;refine ⟨⟨oe,he,hc,?_,hdx⟩,⟨oe,he⟩,fun h1 h2 ⟨ox,q1,q2⟩ k=>⟨ox,k ox q1,q2⟩⟩;unfold W.notCls;rw [hd]
  .rw [ZI z] at e
   exact (hok a o e).stay (fun b u _ q=>q) (fun b q=>by rw [ZI (ne b _ q)];exact q) fun b xs q=>by rw [ZI (ne b _ q)];exact q
end
abbrev Cx.sui(X:Cx)(A':Around):Cx:={X with A:=A',calm:=false,xe:=fun _ _=>False}
section
theorem Inv.sui(I:Inv X pins U H s)(hA:A'.frames=some X.stack):Inv (X.sui A') pins U H s:=
 ⟨⟨I.ok.mod,I.ok.kind,I.ok.glob,I.ok.blt,I.ok.above,I.ok.inj,I.ok.has,I.ok.cab,fun z=>absurd z (by simp),hA,I.ok.stk,I.ok.exf,I.ok.bs,I.ok.bsz,I.ok.noex,I.ok.exfs,I.ok.funs,I.ok.frf⟩,
  I.os,I.bare,I.base,I.loc,I.cell,I.free,I.freeC,I.pin,I.hok,I.len⟩
theorem Inv.unsui(I:Inv (X.sui A') pins U H s)(ok:X.Ok):Inv X pins U H s:=
 ⟨ok,I.os,I.bare,I.base,I.loc,I.cell,I.free,I.freeC,I.pin,I.hok,I.len⟩
theorem name_goes(I:Inv X pins U H s)(hN:X.N.Nodup)(hi:X.N[i]?=some x)(hx:X.env.kindOf x=some .local)(h:∀ s',Inv X pins (U.set i none) H s'->Q () s'):wpAny M A (do bindName X.env x .none;unbindBehindTheSuite X.env x pos) Q E s:=by
 obtain ⟨m,hn,hl⟩:=id I.loc;have hcls:(X.env.scope.kind== .class || (X.env.scope.kind== .module && X.env.locals !=X.env.globals))=false:=by rw [I.ok.kind];rfl
 refine wpAny_nameGoes_keeps hx hn hcls fun h' v hn' hs=>h _ ?_;have oth:∀ b,b≠X.env.locals->h'.get? b=s.heap.get? b:=fun b z=>hs.2 b z;have nel:∀ b o,X.s₀.heap.get? b=some o->b≠X.env.locals:=fun b o e=>Nat.ne_of_lt (Nat.lt_of_lt_of_le (Heap.lt_size e) I.ok.above);have tk:∀ b o,H b=some o->b≠X.env.locals:=fun b o e z=>by rw [z,I.free] at e;cases e
 have B:=I.base;refine ⟨I.ok,I.os,I.bare,⟨fun b o e n hb hx=>(oth b (nel b o e)).trans (B.keep b o e n hb hx),fun b o e n hb hx=>?_,B.free,fun b o e hx=>?_,B.tups,B.frzs,B.tbls⟩,⟨_,hn',fun j y u hj hσ hv=>?_⟩,fun y c e=>?_,I.free,I.freeC,fun p hp=>?_,fun a o e=>?_,?_⟩
 .obtain ⟨sl,e1⟩:=B.slot b o e n hb hx
  exact ⟨sl,(oth b (nel b o e)).trans e1⟩
 .obtain ⟨o',e1⟩:=B.there b o e hx
  exact ⟨o',(oth b (nel b o e)).trans e1⟩
 .by_cases hji:j=i
  .subst hji
   rw [List.getElem?_set_self'] at hσ
   cases q:U[j]? with
   | none=>rw [q] at hσ;cases hσ
   | some z=>rw [q] at hσ;cases hσ
  .rw [List.getElem?_set_ne (Ne.symm hji)] at hσ
   obtain ⟨u',ru,lk⟩:=hl j y u hj hσ hv;have hyx:y≠x:=fun z=>hji (WG hN hj (z ▸ hi));refine ⟨u',ru,?_⟩;rcases lk with ⟨k1,k2⟩ | ⟨k1,c,k2,k3⟩
   .exact .inl ⟨k1,by show (if y=x then v else m y)=some u';rw [if_neg hyx];exact k2⟩
   .refine .inr ⟨k1,c,k2,k3.sameBut hs ?_⟩
    exact I.cne y c k2
 .obtain ⟨v',hv'⟩:=I.cell y c e
  exact ⟨v',hv'.sameBut hs (I.cne y c e)⟩
 .obtain ⟨e,n,ne,nf,d⟩:=I.pin p hp
  exact ⟨(oth p.1 ne).trans e,n,ne,nf,d⟩
 .refine (I.hok a o e).stay (fun b u hb q=>?_) (fun _ q=>q) fun _ _ q=>q
  refine (oth b ?_).trans q;rcases hb with rfl | hb
  .exact tk _ _ e
  .exact tk _ _ hb
 .rw [List.length_set];exact I.len
end
end L2
namespace L2
open PySem PySem.Spec PyProof.Rows
def Xp(CX:CXT)(X:Cx)(U:St)(E:XK):Prop:= ∀ (pins:List (Addr × Obj)) (H:Hp) (s:Shared) (e:Value) (s':Shared),Inv X pins U H s->CX X.stack H s E e s'->X.xe e s'
section
variable{sp:Sp}{dvs:List V}{E:St->XK}{t:TA}
def Bt(sp:Sp)(dvs:List V)(E:St->XK)(t:TA):TE:=fun U H Q=>t U H fun vs H1=>sp (vs++ dvs) H1 Q (E U)
theorem Fq(F:ZN X.prog X.w X.K X.mg X.base CX k f fd ps sp)(hr:Ya k X.A)(hb:Binds X.K fd ps ds)(hd:Vals dvs ds)(hx:∀ U,Xp CX X U (E U))(I:Inv X pins U H s)(r:Vals vs us)(h:sp (vs++ dvs) H Q (E U)):wpAny (model X.prog X.w) X.A (call (.ref f) us) (EP X pins U Q) X.xe s:=by
 have r2:Vals (vs++ dvs) (us++ ds):=r.append hd;have hl:(us++ ds).length=ps.length:=by rw [<-r2.length];exact F.len _ _ _ _ h
 refine wpAny_call (codeAny_mono (F.run X.A X.stack s H ⟨us, []⟩ (us++ ds) (vs++ dvs) Q (E U) hr I.env0 (hb s us I.kIn hl) r2 h) fun r s' hq=>?_)
 cases r with
 | error e=>exact hx U pins H s e s' I hq
 | ok fl=>
  cases fl with
  | ret u=>exact I.after hq
  | next=>exact False.elim hq
  | brk=>exact False.elim hq
  | cont=>exact False.elim hq
theorem Dq(F:ZN X.prog X.w X.K X.mg X.base CX k f fd ps sp)(hr:Ya k X.A)(hg:Gl X x)(hm:X.mg x=some (.ref f))(hk:W.keepIn X.K (.ref f)=true)(hb:Binds X.K fd ps ds)(hd:Vals dvs ds)(hx:∀ U,Xp CX X U (E U))(ha:PA X (e::es) t)(hdb:(x==("__debug__" :Str))=false:=by decide)(he:starEach (e::es) X.env=(false,eval e X.env)::starEach es X.env:=by rfl)(hpl:(backTo pos (starEach es X.env)).any (·.1)=false:=by rfl):
  PE X (.Call (.Name x p) (e::es) [] pos) (Bt sp dvs E t):=by
 intro pins s U H Q I h;refine wpAny_Call_Name_kw (JQ I hg hm ?_ hdb);refine W.callWith_K (h₀:=X.base) I.ok.mod.kin hk (thn (ha pos pins s U H _ I h) fun us s1 ⟨vs,H1,I1,r,q⟩=>⟨I1.kIn,?_⟩) he hpl;exact Fq F hr hb hd hx I1 r q
end
structure Ky(K:W.Frag)(N:Addr):Prop where
 cls:(W.clsIn K N).isSome=true
 ty:W.typeIn K (.ref N)=some (.type "type")
 base:W.mroIn K N (.type "BaseException")=some true
def Ot(K:W.Frag)(Nc:Addr)(i:Nat)(tb:(St->XK)->TS)(ts:TS):TS:=fun D U H=>
 tb (fun U' cls dx H'=> ∃ C,cls= .ref C/\W.subIn K (.ref C) (.ref Nc)=some true/\(∀ d,dx=some d->∃ o,H' d=some o)/\
  ∀ ea,H' ea=none->ts {nx:=fun U H=>D.nx (U.set i none) H,rt:=D.rt,bk:=fun U H=>D.bk (U.set i none) H,ct:=fun U H=>D.ct (U.set i none) H} (U'.set i (some (.ref ea))) (upd H' ea (Uh ea C dx))) D U H
section
variable{X:Cx}
theorem XH{A:Around}(h:A.frames=some l):(A.mark v).frames=some l:=h
abbrev Cx.tried(X:Cx)(pn:List (Addr × Obj))(W:Value->Shared->Prop):Cx:={X with pn:=pn,xe:=W}
theorem Inv.tried(I:Inv X pins U H s):Inv (X.tried (X.pn++ pins) W) [] U H s:=
 ⟨⟨I.ok.mod,I.ok.kind,I.ok.glob,I.ok.blt,I.ok.above,I.ok.inj,I.ok.has,I.ok.cab,I.ok.hd,I.ok.frames,I.ok.stk,I.ok.exf,I.ok.bs,I.ok.bsz,I.ok.noex,I.ok.exfs,I.ok.funs,I.ok.frf⟩,
  I.os,I.bare,I.base,I.loc,I.cell,I.free,I.freeC,fun p hp=>I.pin p (by rw [List.append_nil] at hp;exact hp),I.hok,I.len⟩
theorem Inv.untried(I:Inv (X.tried (X.pn++ pins) W) pins' U H s)(ok:X.Ok):Inv X pins U H s:=
 ⟨ok,I.os,I.bare,I.base,I.loc,I.cell,I.free,I.freeC,fun p hp=>I.pin p (List.mem_append_left _ hp),I.hok,I.len⟩
theorem LT(hst:X.stack=X.env::X.outer)(hfr:X.env.frame=some X.env.locals)(hN:X.N.Nodup)(hi:X.N[i]?=some n)(hk:X.env.kindOf n=some .local)(hg:Gl X x)(hm:X.mg x=some (.ref Nc))(hC:Ky X.K Nc)(hb:∀ (EX:St->XK) (pn:List (Addr × Obj)) (W:Value->Shared->Prop),(∀ U,Xp (CX1 X.prog X.w) (X.tried pn W) U (EX U))->PSs (X.tried pn W) body (tb EX))(hs:∀ A',PSs (X.sui A') (b₀::suite) ts)(hdb:(x==("__debug__" :Str))=false:=by decide):
  PS X (.Try body [.ExceptHandler (some (.Name x np)) (some n) (b₀::suite) hpos] [] [] pos) (Ot X.K Nc i tb ts):=by
 intro pins s U H D I h;refine wpAny_Try_except ?_
 let EX:St->XK:=fun U' cls dx H'=> ∃ C,cls= .ref C/\PySem.W.subIn X.K (.ref C) (.ref Nc)=some true/\(∀ d,dx=some d->∃ o,H' d=some o)/\
  ∀ ea,H' ea=none->ts {nx:=fun U H=>D.nx (U.set i none) H,rt:=D.rt,bk:=fun U H=>D.bk (U.set i none) H,ct:=fun U H=>D.ct (U.set i none) H} (U'.set i (some (.ref ea))) (upd H' ea (Uh ea C dx))
 let W:Value->Shared->Prop:=fun e s'=> ∃ U' H1 s1,Inv X pins U' H1 s1/\CX1 X.prog X.w X.stack H1 s1 (EX U') e s'
 have hp:∀ U,Xp (CX1 X.prog X.w) (X.tried (X.pn++ pins) W) U (EX U):=fun U' pins' H1 s1 e s' I1 hx=>⟨U',H1,s1,I1.untried I.ok,hx⟩;refine wpAny_mono (hb EX (X.pn++ pins) W hp [] s U H D I.tried h) (fun fl s1 q=>?_) fun e s1 q=>?_
 .cases fl with
  | next=>
   obtain ⟨U',H',I',q⟩:=q;exact wpAny_execs_nil ⟨U',H',I'.untried I.ok,q⟩
  | brk=>obtain ⟨U',H',I',q⟩:=q;exact ⟨U',H',I'.untried I.ok,q⟩
  | cont=>obtain ⟨U',H',I',q⟩:=q;exact ⟨U',H',I'.untried I.ok,q⟩
  | ret u=>obtain ⟨v,U',H',I',q⟩:=q;exact ⟨v,U',H',I'.untried I.ok,q⟩
 .obtain ⟨U',H1,s0,I0,ea,C,dx,H',rfl,os,bare,un,hok,F,C',hC',hsub,hdx,q⟩:=q
  cases hC';have frm:X.A.frames=some (X.env::X.outer):=hst ▸ I.ok.frames
  have hJ:∀ h' t',Un (frs X.stack) [] H1 H' s0.heap h'->HOk X.prog X.w H' h'->Inv X pins U' H' {s1 with heap:=h',toks:=t'}:=fun h' t' u k=>
   I0.call' (s':={s1 with heap:=h',toks:=t'}) os u k bare (fun b z=>absurd z (by simp))
  have J1:=hJ s1.heap s1.toks un hok;have un':Un (frs (X.env::X.outer)) [] H1 H' s0.heap s1.heap:=hst ▸ un;refine Ie (P:=X.prog) (w:=X.w) (base:=X.base) (s:=s0) frm (hst ▸ J1.stack) hfr (hst ▸ J1.stkFree) un' hok F fun h2 un2 hok2 F2=>?_;have un2':Un (frs X.stack) [] H1 H' s0.heap h2:=hst ▸ un2;have J2:=hJ h2 s1.toks un2' hok2;obtain ⟨ut,kt⟩:=F2.track un2' hok2
  have inst:∀ h3,HOk X.prog X.w (upd H' ea (Uh ea C dx)) h3->∃ ox odo,PySem.W.InstAt h3 ea ox C odo:=fun h3 k3=>by
   obtain ⟨⟨ox,e1,e2,e3,e4⟩,_⟩:=(show Z5 X.prog X.w _ h3 ea (Uh ea C dx) from k3 ea _ ZD)
   cases hd:dx with
   | none=>exact ⟨ox,none,e1,e2,e3,by rw [e4,hd];trivial⟩
   | some d=>
    obtain ⟨o,ho⟩:=hdx d hd
    have hde:upd H' ea (Uh ea C dx) d=some o:=by
     rw [ZI (fun z=>by rw [z,F2.free] at ho;cases ho)];exact ho
    obtain ⟨u,hu⟩:=(k3 d o hde).ex;exact ⟨ox,some u,e1,e2,e3,by rw [e4,hd];exact hu⟩
  have JS:Inv (X.sui (X.A.mark (some (.ref ea)))) pins U' H' {s1 with heap:=h2}:=J2.sui (XH I.ok.frames);refine wpAny_handleBy_cons (codeAny_handlers_test (JQ JS hg hm ?_ hdb)) (by intro z;cases z);obtain ⟨ox,odo,IA⟩:=inst h2 kt;refine PySem.W.exc_matches (s:={s1 with heap:=h2}) JS.kIn IA hC.cls hC.ty hC.base hsub ?_;refine codeAny_handlers_suite_as (BW (P:=X.prog) (w:=X.w) (s:=s0) un2' hok2 F2 (fun b hb o vs ho=>?_) fun h4 un4 hok4 F4=>?_)
  .obtain ⟨_,o',ho',hd'⟩:=J2.stack.mem hb
   have ho2:h2.get? b=some o:=ho;have ho2':h2.get? b=some o':=ho';rw [ho2] at ho2';cases ho2';exact hd' vs
  .obtain ⟨ut4,kt4⟩:=F4.track un4 hok4
   have J4:Inv X pins U' (upd H' ea (Uh ea C dx)) {s1 with heap:=h4}:=I0.call' (s':={s1 with heap:=h4}) os ut4 kt4 bare (fun b z=>absurd z (by simp));refine UT (v:= .ref ea) J4 hN hi (.inl hk) rfl (fun s5 J5=>?_) (.inr hk);have JS5:Inv (X.sui (X.A.mark (some (.ref ea)))) pins (U'.set i (some (.ref ea))) (upd H' ea (Uh ea C dx)) s5:=J5.sui (XH I.ok.frames);refine wpAny_mono (hs _ pins s5 _ _ _ JS5 (q ea F4.free)) (fun fl s6 z=>?_) fun _ _ z=>z.elim
   cases fl with
   | next=>
    obtain ⟨σ6,H6,I6,z⟩:=z;exact name_goes (I6.unsui I.ok) hN hi hk fun s7 I7=>⟨_,H6,I7,z⟩
   | brk=>
    obtain ⟨σ6,H6,I6,z⟩:=z;exact name_goes (I6.unsui I.ok) hN hi hk fun s7 I7=>⟨_,H6,I7,z⟩
   | cont=>
    obtain ⟨σ6,H6,I6,z⟩:=z;exact name_goes (I6.unsui I.ok) hN hi hk fun s7 I7=>⟨_,H6,I7,z⟩
   | ret u=>
    obtain ⟨v,σ6,H6,I6,rv,z⟩:=z;exact name_goes (I6.unsui I.ok) hN hi hk fun s7 I7=>⟨v,_,H6,I7,rv,z⟩
end
end L2
namespace L2
open PySem PySem.Spec PyProof.Rows
theorem Ms(cs:List (Str × NameKind)):∀ (acc:List (Str × Addr)),(∀ x∈cs,x.2= .free->∃ c,env.cells.lookup x.1=some c)->
  ∃ cl,(forIn cs acc (fun (x:Str × NameKind) (r:List (Str × Addr))=>(if (x.2==NameKind.free)=true then do let c <-cellOf env x.1;pure (ForInStep.yield ((x.1,c)::r)) else pure (ForInStep.yield r):Sem (ForInStep (List (Str × Addr)))))=pure cl)/\
   (∀ x c,cl.lookup x=some c->env.cells.lookup x=some c \/ acc.lookup x=some c)/\(∀ x,(x,NameKind.free)∈cs->∃ c,cl.lookup x=some c)/\(∀ x c,acc.lookup x=some c->∃ c',cl.lookup x=some c'):=by
 induction cs with
 | nil=>intro acc _;exact ⟨acc,rfl,fun x c h=> .inr h,fun x h=>(nomatch h),fun x c h=>⟨c,h⟩⟩
 | cons y r ih=>
  intro acc h;obtain ⟨n,k⟩:=y
  by_cases hk:k= .free
  .subst hk
   obtain ⟨c,hc⟩:=h (n, .free) List.mem_cons_self rfl;obtain ⟨cl,e1,e2,e3,e4⟩:=ih ((n,c)::acc) fun x hx=>h x (List.mem_cons_of_mem _ hx);refine ⟨cl,?_,fun x c' hx=>?_,fun x hx=>?_,fun x c' hx=>?_⟩
   .rw [<-e1]
    simp only [List.forIn_cons,beq_self_eq_true,if_true,cellOf,hc]
    rfl
   .rcases e2 x c' hx with q | q
    .exact .inl q
    .rw [List.lookup_cons] at q
     cases hb:x==n with
     | true=>
      rw [hb] at q;have:x=n:=by simpa using hb
      subst this;cases q;exact .inl hc
     | false=>rw [hb] at q;exact .inr q
   .rcases List.mem_cons.mp hx with q | q
    .cases q
     exact e4 n c (by simp [List.lookup_cons])
    .exact e3 x q
   .cases hb:x==n with
    | true=>exact e4 x c (by simp [List.lookup_cons,hb])
    | false=>exact e4 x c' (by simp [List.lookup_cons,hb,hx])
  .obtain ⟨cl,e1,e2,e3,e4⟩:=ih acc fun x hx=>h x (List.mem_cons_of_mem _ hx)
   have hb:(k==NameKind.free)=false:=by simpa using hk
   refine ⟨cl,?_,e2,fun x hx=>?_,e4⟩
   .rw [<-e1]
    simp only [List.forIn_cons,hb,Bool.false_eq_true,if_false]
    rfl
   .rcases List.mem_cons.mp hx with q | q
    .cases q;exact absurd rfl hk
    .exact e3 x q
theorem Mr(h:∀ x∈scope.names,x.2= .free->∃ c,env.cells.lookup x.1=some c):
  ∃ cl,closureFor scope env=pure cl/\(∀ x c,cl.lookup x=some c->env.cells.lookup x=some c)/\(∀ x,(x,NameKind.free)∈scope.names->∃ c,cl.lookup x=some c):=by
 obtain ⟨cl,e1,e2,e3,_⟩:=Ms scope.names [] h;refine ⟨cl,?_,fun x c hx=>(e2 x c hx).resolve_right (by simp),e3⟩;rw [<-bind_pure (pure cl:Sem (List (Str × Addr))),<-e1]
 rfl
theorem UX{scope:Scope}{env:Env}{x:Str}:∀ {names:List (Str × NameKind)},(names.map fun (n,k)=>if (k==NameKind.free && env.scope.kind== .function && env.kindOf n==some .cell) then (n,NameKind.cell) else (n,k)).lookup x=some .cell \/
  (names.map fun (n,k)=>if (k==NameKind.free && env.scope.kind== .function && env.kindOf n==some .cell) then (n,NameKind.cell) else (n,k)).lookup x=some .free->(∀ y∈names,y.2≠ .cell)->(x,NameKind.free)∈names
 | [],h,_=>by simp at h
 | (n,k)::r,h,hc=>by
  have ih:= @UX scope env x r;rw [List.map_cons] at h
  have key:∀ k':NameKind,(∀ k₂,((n,k')::(r.map fun (n,k)=>if (k==NameKind.free && env.scope.kind== .function && env.kindOf n==some .cell) then (n,NameKind.cell) else (n,k))).lookup x=some k₂->(x=n/\k'=k₂) \/ (r.map fun (n,k)=>if (k==NameKind.free && env.scope.kind== .function && env.kindOf n==some .cell) then (n,NameKind.cell) else (n,k)).lookup x=some k₂):=fun k' k₂ q=>by
   rw [List.lookup_cons] at q
   cases hb:x==n with
   | true=>rw [hb] at q;exact .inl ⟨by simpa using hb,Option.some.inj q⟩
   | false=>rw [hb] at q;exact .inr q
  dsimp only at h
  split at h
  .rename_i hk
   have kf:k= .free:=by
    cases k <;> simp at hk
    rfl
   subst kf;rcases h with h | h
   .rcases key _ _ h with ⟨e,_⟩ | q
    .subst e;exact List.mem_cons_self
    .exact List.mem_cons_of_mem _ (ih (.inl q) fun y hy=>hc y (List.mem_cons_of_mem _ hy))
   .rcases key _ _ h with ⟨e,_⟩ | q
    .subst e;exact List.mem_cons_self
    .exact List.mem_cons_of_mem _ (ih (.inr q) fun y hy=>hc y (List.mem_cons_of_mem _ hy))
  .rcases h with h | h
   .rcases key _ _ h with ⟨e,e2⟩ | q
    .exact absurd e2 (hc (n,k) List.mem_cons_self)
    .exact List.mem_cons_of_mem _ (ih (.inl q) fun y hy=>hc y (List.mem_cons_of_mem _ hy))
   .rcases key _ _ h with ⟨e,e2⟩ | q
    .subst e;subst e2;exact List.mem_cons_self
    .exact List.mem_cons_of_mem _ (ih (.inr q) fun y hy=>hc y (List.mem_cons_of_mem _ hy))
theorem RO(I:Nat->Shared->Prop)(turn:∀ n s,I n s->wpAny (model prog w) A (pyNext it) (fun r s1=>match r with
   | none=>R (.ok .next) s1
   | some v=>wpAny (model prog w) A (letOwnedTupleGo target it v) (fun _ s1'=>wpAny (model prog w) A (assign target env v) (fun _ s2=>wpAny (model prog w) A (eval elt env) (fun x s3=>
     wpAny (model prog w) A (call (.builtin "list.append") [acc,x]) (fun _ s4=> ∃ m,m < n/\I m s4) (fun _ _=>False) s3)
     (fun _ _=>False) s2) (fun _ _=>False) s1') (fun _ _=>False) s1) (fun _ _=>False) s)(n:Nat)(h:I n s):codeAny (model prog w) A
   (.compLoop (.ListComp elt [⟨target,iter, [],0⟩] scope pos) 0 it acc env) R s:=by
 refine codeAny_loop rfl I (fun n s hI=>wpAny_noted (m:=compTurn (.ListComp elt [⟨target,iter, [],0⟩] scope pos) 0 it acc env) ?_) n h;rw [compTurn_list1];refine wpAny_bind (wpAny_standAt (wpAny_bind (wpAny_mono (turn n s hI) (fun r s1 h1=>?_) fun _ _ h'=>h'.elim)))
 cases r with
 | none=>exact wpAny_pure h1
 | some v=>
  exact wpAny_bind (wpAny_mono h1 (fun _ s1' h1'=>wpAny_bind (wpAny_mono h1' (fun _ s2 h2=>wpAny_bind (wpAny_bind (wpAny_mono h2 (fun x s3 h3=>wpAny_bind (wpAny_mono h3
   (fun _ s4 h4=>wpAny_pure (wpAny_pure ⟨rfl,h4⟩)) fun _ _ h'=>h'.elim)) fun _ _ h'=>h'.elim))) fun _ _ h'=>h'.elim)) fun _ _ h'=>h'.elim)
theorem XE{env:Env}{x:Str}:∀ {names:List (Str × NameKind)},names.lookup x=some .free->
  (names.map fun (n,k)=>if (k==NameKind.free && env.scope.kind== .function && env.kindOf n==some .cell) then (n,NameKind.cell) else (n,k)).lookup x≠some .local
 | [],h=>by simp at h
 | (n,k)::r,h=>by
  have ih:= @XE env x r;rw [List.map_cons];dsimp only [rI0,rI,Vt];rw [List.lookup_cons] at h
  cases hb:x==n with
  | true=>
   rw [hb] at h;have kf:k= .free:=Option.some.inj h;subst kf
   split <;> simp [List.lookup_cons,hb]
  | false=>
   rw [hb] at h
   split <;> (simp only [List.lookup_cons,hb];exact ih h)
def Zu(X:Cx)(N':List Str)(scope:Scope)(cl:List (Str × Addr))(C:Addr)(fp:List Addr)(s:Shared)(H:Hp):Cx:=
 {X with N:=N',s₀:=s,H₀:=H,env:=compEnvC scope cl C X.env,outer:=X.stack,stack:=X.stack,ex:=fp,fn:=fun _=>false,pn:= [],xe:=fun _ _=>False}
def YB(X:Cx)(own:List Str)(ix:List Nat):List Str:=own++ ix.map fun j=>X.N.getD j ("" :Str)
def YV(k:Nat)(ix:List Nat)(U:St):St:=List.replicate k none++ ix.map fun j=>U.getD j none
def GK(k:Nat)(g:TG):Prop:= ∀ x U H Q,g x U H Q->g x U H fun σ2 H2=>Q σ2 H2/\σ2.length=U.length/\σ2.drop k=U.drop k
theorem YI(h:i < k):GK k (Yi i):=fun x U H Q q=>⟨q,by simp,by rw [List.drop_set,if_pos h]⟩
def GKs(k:Nat)(g:TGs):Prop:= ∀ x U H Q,g x U H Q->g x U H fun σ2 H2=>Q σ2 H2/\σ2.length=U.length/\σ2.drop k=U.drop k
theorem Lu:GKs k Ml:=fun x U H Q q=>by
 match x,q with
 | [],q=>exact ⟨q,rfl,rfl⟩
theorem NY(h1:GK k g)(h2:GKs k gs)(m1:∀ x U H (Q Q':St->Hp->Prop),(∀ a b,Q a b->Q' a b)->g x U H Q->g x U H Q')(m2:∀ x U H (Q Q':St->Hp->Prop),(∀ a b,Q a b->Q' a b)->gs x U H Q->gs x U H Q'):GKs k (Jp g gs):=fun x U H Q q=>by
 match x,q with
 | v::r,q=>
  refine m1 _ _ _ _ _ (fun a b z=>?_) (h1 _ _ _ _ q);obtain ⟨z1,z2,z3⟩:=z;refine m2 _ _ _ _ _ (fun c d y=>?_) (h2 _ _ _ _ z1);exact ⟨y.1,y.2.1.trans z2,y.2.2.trans z3⟩
theorem Ls{K:W.Frag}(h:GKs k gs):GK k (KB K n gs):=fun x U H Q q=>by
 match x,q with
 | .ref a,q=>
  obtain ⟨xs,h1,h2,q⟩:=q;exact ⟨xs,h1,h2,h _ _ _ _ q⟩
def RV(J:It)(g:TG)(te:TE)(s0:St)(Q:VK)(H1:Hp):Prop:= ∃ W:Nat->Nat->List V->Hp->Prop,(∃ m,W 0 m [] H1)/\∀ i m ys H,W i m ys H->
 ys.length < sizeLine/\((J.stop i H/\∀ p,H p=none->Q (.ref p) (upd H p (.lst ys))) \/
  (J.go i H/\∀ x H',J.yld i H x H'->g x s0 H' fun σ2 H2=>te σ2 H2 fun y H3=> ∃ m',m' < m/\W (i + 1) m' (ys++ [y]) H3))
def Kj(k:Nat)(ix:List Nat)(wi:TI)(g:TG)(te:TE):TE:=fun U H Q=>wi U H fun J H1=>RV J g te (YV k ix U) Q H1
theorem Inv.retrack(I:Inv X pins U H s)(hD:H D=none)(f:Vh X pins H D)(new:Z5 X.prog X.w (upd H D o) s.heap D o):Inv X pins U (upd H D o) s:=by
 have ne:∀ b u,H b=some u->b≠D:=fun b u e=>ZJ e hD;have r:=I.step (h':=s.heap) (H':=upd H D o) (g':=s.gens) (d':=s.drawn) (t':=s.toks) (ch:= [D])
  (fun b hb=>by
   have e:b=D:=by simpa using hb
   subst e;exact ⟨f.2.2.2.1,f.2.1,f.2.2.2.2.1,f.2.2.2.2.2⟩)
  (fun b o _ _ _ e _=>e) (fun b o _ _ _ e _=>⟨o.slots,e⟩) (fun b o hb e n=>by rw [ZI (fun z=>hb (by simp [z]))];exact n) (fun b o _ e=>⟨o,e⟩)
  (fun b xs e=>by rw [ZI (ne _ _ e)];exact e) (fun b o u e=>by rw [ZI (ne _ _ e)];exact e) (fun b ps e=>⟨#[],by rw [ZI (ne _ _ e),e];simp⟩) (fun m hm=>hm)
  (fun b u e=>by
   by_cases hb:b=D
   .subst hb;rw [ZD] at e;cases e;exact new
   .rw [ZI hb] at e
    exact (I.hok b u e).stay (fun c v _ q=>q) (fun c q=>by rw [ZI (ne _ _ q)];exact q) fun c xs q=>by rw [ZI (ne _ _ q)];exact q) I.bare
 exact r
def Vs(sc:Scope)(outer:List (Str × NameKind))(N:List Str)(ix:List Nat):Bool:=
 sc.names.all (fun x=>(decide (x.2≠ .local) || decide (sc.names.lookup x.1=some .local)) && decide (x.2≠ .cell) && (decide (x.2≠ .free) || decide (outer.lookup x.1=some .cell) || decide (outer.lookup x.1=some .free))) &&
  ix.all fun j=>match N[j]? with
   | some y=>decide (sc.names.lookup y=some .free)
   | none=>false
theorem Vs.all(hok:Vs sc outer N ix=true):
  (∀ x∈sc.names,x.2= .local->sc.names.lookup x.1=some .local)/\(∀ x∈sc.names,x.2≠ .cell)/\(∀ x∈sc.names,x.2= .free->outer.lookup x.1=some .cell \/ outer.lookup x.1=some .free)/\∀ j∈ix,∃ y,N[j]?=some y/\sc.names.lookup y=some .free:=by
 unfold Vs at hok;rw [Bool.and_eq_true,List.all_eq_true,List.all_eq_true] at hok;have each:=fun x hx=>hok.1 x hx;simp only [Bool.and_eq_true,Bool.or_eq_true,decide_eq_true_eq] at each;refine ⟨fun x hx hl=>(each x hx).1.1.resolve_left fun z=>z hl,fun x hx=>(each x hx).1.2,fun x hx hf=>?_,fun j hj=>?_⟩
 .rcases (each x hx).2 with (z | z) | z
  .exact absurd hf z
  .exact .inl z
  .exact .inr z
 .have q:=hok.2 j hj
  cases e:N[j]? with
  | none=>rw [e] at q;cases q
  | some y=>rw [e] at q;exact ⟨y,rfl,of_decide_eq_true q⟩
structure CB(X:Cx)(own:List Str)(ix:List Nat)(scope:Scope)(pins:List (Addr × Obj))(U:St)(tg:Expr)(cl:List (Str × Addr))(D C:Addr)(fp:List Addr)(it:Addr)(tn:Nat->Heap->Prop)(J:It)(H2:Hp)(s3:Shared):Prop where
 T:Turn X.prog X.w X.K tg J fp it tn
 ok:(Zu X (YB X own ix) scope cl C (D::fp) s3 H2).Ok
 nfp:∀ b∈fp,b≠D
 f2:∀ b∈fp,Vh X pins H2 b
 fD:Vh X pins H2 D
 I3:Inv X pins U H2 s3
 CD:C≠D
 fC:∀ H':Hp,H' C=none->Vh X pins H' C
section
theorem JF{rest:List Comprehension}(own:List Str)(ix:List Nat)(hi:PI X tg iter wi)(hkind:scope.kind= .function)(hok:Vs scope X.env.scope.names X.N ix=true)(hs:∀ x,foldedSetIterable iter X.env x=pure x)(I:Inv X pins U H s)(h:wi U H R)(loop:∀ (cl:List (Str × Addr)) (D C:Addr) (fp:List Addr) (it:Addr) (tn:Nat->Heap->Prop) (J:It) (H2:Hp) (s3 s5:Shared),CB X own ix scope pins U tg cl D C fp it tn J H2 s3->R J H2->Inv (Zu X (YB X own ix) scope cl C (D::fp) s3 H2) [] (YV own.length ix U) H2 s5->tn 0 s5.heap->s5.heap.PlainList D (List.toArray [])->
   codeAny (model X.prog X.w) X.A (.compLoop (.ListComp elt (⟨tg,iter,ifs,0⟩::rest) scope pos) 0 (.ref it) (.ref D) (compEnvC scope cl C X.env)) (compPost (model X.prog X.w) X.A X.xe use POST (.ref D) C) s5):
  wpAny (model X.prog X.w) X.A (comprehension (.ListComp elt (⟨tg,iter,ifs,0⟩::rest) scope pos) scope X.env cpos (newList []) false (eval iter X.env) use) POST X.xe s:=by
 obtain ⟨hnames,hcell,hcap,hix⟩:=Vs.all hok;have hcells:∀ x∈scope.names,x.2= .free->∃ c,X.env.cells.lookup x.1=some c:=fun x hx hf=>I.ok.has x.1 (hcap x hx hf);obtain ⟨cl,hcl,hcl1,hcl2⟩:=Mr hcells;refine wpAny_comprehension_free rfl hs hcl hkind hnames ?_;refine thn (hi pins s U H _ I h) fun v s1 h1=>thn h1 fun itv s2 h2=>?_;obtain ⟨it,fp,tn,J,H2,e,I2,T,st2,f2,hR⟩:=h2;subst e;refine wpAny_newObj_type (wpAny_newFunctionEnv hcell (by intro y hy;simp at hy) (fun h4 hns hsb=>?_) hkind);dsimp only at hns hsb |-;generalize hh3:s2.heap.push {cls:= .type "list",dict:=none,data:= .seq ([]:List Value).toArray}=h3 at hns hsb |-;have sz3:h3.objs.size=s2.heap.objs.size + 1:=by rw [<-hh3,Heap.size_push]
 have k23:∀ b u,s2.heap.get? b=some u->h3.get? b=some u:=fun b u q=>by rw [<-hh3];exact Heap.get?_push_of_some _ q
 have D3:h3.get? s2.heap.objs.size=some {cls:= .type "list",data:= .seq #[]}:=by rw [<-hh3];exact Heap.get?_push_size _ rfl
 obtain ⟨D,hD⟩:∃ D,D=s2.heap.objs.size:=⟨_,rfl⟩;obtain ⟨C,hC⟩:∃ C,C=h3.objs.size:=⟨_,rfl⟩;rw [<-hC] at hns hsb;rw [<-hD] at D3 sz3;have hCD:C=D + 1:=hC.trans sz3
 let s3:Shared:={s2 with heap:=h3}
 have I3:Inv X pins U H2 s3:=I2.kept (t':=s2.toks) k23;have lt3:∀ b u,h3.get? b=some u->b < C:=fun b u q=>by rw [hC];exact Heap.lt_size q
 have k34:∀ b u,h3.get? b=some u->h4.get? b=some u:=fun b u q=>hsb.extBut b u (Nat.ne_of_lt (lt3 b u q)) (Heap.get?_push_of_some _ q);have H2D:H2 D=none:=I2.hok.fresh (by rw [hD];exact Nat.le_refl _);have H2C:H2 C=none:=I2.hok.fresh (by rw [hCD,hD];exact Nat.le_succ _);have fD:Vh X pins H2 D:=I2.fpOk (by rw [hD];exact Nat.le_refl _) H2D
 have cellsLt:∀ x c,X.env.cells.lookup x=some c->c < D:=fun x c e=>by
  obtain ⟨v,z⟩:=I2.cell x c e;rw [hD];exact z.lt
 have fpLt:∀ b∈fp,b < D:=fun b hb=>by
  obtain ⟨o,e,_⟩:=T.obj 0 _ st2 b hb;rw [hD];exact Heap.lt_size e
 let X':Cx:=Zu X (YB X own ix) scope cl C (D::fp) s3 H2
 have stkLt:∀ b∈frs X.stack,b ∉ D::fp:=fun b hb z=>by
  rcases List.mem_cons.mp z with z | z
  .have q:=I2.stack
   obtain ⟨_,o,e,_⟩:=q.mem hb;have:=Heap.lt_size e;rw [z,hD] at this;exact Nat.lt_irrefl _ this
  .rcases List.mem_cons.mp (I2.stkSub b hb) with q | q
   .exact (f2 b z).2.1 q
   .exact (f2 b z).2.2.1 q
 have ok':X'.Ok:=by
  refine ⟨I.ok.mod,hkind,I.ok.glob,I.ok.blt,?_,fun x y c h1 h2=>I.ok.inj x y c (hcl1 x c h1) (hcl1 y c h2),fun x hx=>hcl2 x (UX (scope:=scope) hx hcell),(fun x c z=>Bool.noConfusion (show false=true from z)),I.ok.hd,I.ok.frames, .inl rfl,fun b hb=>⟨?_,fun x c h1=>?_⟩,fun b o e=>?_,?_,fun b o e hb=>?_,fun b hb z=>stkLt b z hb,?_,fun b hb=>I2.stkFree b hb⟩
  .show h3.objs.size<=C
   rw [hC];exact Nat.le_refl _
  .show b≠C
   rcases List.mem_cons.mp hb with z | z
   .rw [z,hCD];exact Nat.ne_of_lt (Nat.lt_succ_self _)
   .rw [hCD];exact Nat.ne_of_lt (Nat.lt_succ_of_lt (fpLt b z))
  .rcases List.mem_cons.mp hb with z | z
   .rw [z];exact Nat.ne_of_lt (cellsLt x c (hcl1 x c h1))
   .exact (f2 b z).2.2.2.2.1 x c (hcl1 x c h1)
  .exact I3.bs b o e
  .show X.base.objs.size<=h3.objs.size
   have:=Nat.le_trans I.ok.bsz I2.sz;rw [<-hD] at this;rw [<-hC,hCD];exact Nat.le_succ_of_le this
  .rcases List.mem_cons.mp hb with z | z
   .have:=Heap.lt_size (I2.bk b o e)
    rw [z,hD] at this;exact Nat.lt_irrefl _ this
   .rcases (f2 b z).2.2.2.1 with q | q
    .exact I.ok.noex b o e q
    .have:=Nat.lt_of_lt_of_le (Heap.lt_size (I.ok.bs b o e).1) q
     exact Nat.lt_irrefl _ this
  .exact I3.stack
 have lenN:(YV own.length ix U).length=(YB X own ix).length:=by simp [YV,YB]
 have I4:∀ t,Inv X' [] (YV own.length ix U) H2 {s2 with heap:=h4,toks:=t}:=fun t=>by
  refine ⟨ok',rfl,I2.bare,Un.kept k34,⟨_,hns,fun i x v e1 e2 e3=>?_⟩,fun x c e=>?_,H2C,fun x c e=>I2.freeC x c (hcl1 x c e),fun p hp=>absurd (show p∈([]:List (Addr × Obj)) from hp) (by simp),(I3.hok).kept k34,lenN⟩
  .-- a name of the def that the block reads
   have hi':own.length<=i:=by
    apply Nat.le_of_not_lt;intro hlt;unfold YV at e2;rw [List.getElem?_append_left (by simpa using hlt),List.getElem?_replicate,if_pos hlt] at e2;cases e2
   have e1':(ix.map fun j=>X.N.getD j ("" :Str))[i - own.length]?=some x:=by
    have z:(own++ ix.map fun j=>X.N.getD j ("" :Str))[i]?=some x:=e1
    rwa [List.getElem?_append_right hi'] at z
   have e2':(ix.map fun j=>U.getD j none)[i - own.length]?=some (some v):=by
    unfold YV at e2;rw [List.getElem?_append_right (by simpa using hi')] at e2;simpa using e2
   rw [List.getElem?_map] at e1' e2'
   cases hj:ix[i - own.length]? with
   | none=>rw [hj] at e1';cases e1'
   | some j=>
    rw [hj] at e1' e2';obtain ⟨y,hy,hfree⟩:=hix j (List.mem_of_getElem? hj)
    have ex:x=y:=by
     have z:X.N.getD j ("" :Str)=x:=Option.some.inj e1';rw [<-z,List.getD_eq_getElem?_getD,hy];rfl
    subst ex
    have ev:U[j]?=some (some v):=by
     have z:U.getD j none=some v:=Option.some.inj e2';rw [List.getD_eq_getElem?_getD] at z
     cases q:U[j]? with
     | none=>rw [q] at z;cases z
     | some a=>rw [q] at z;exact congrArg some z
    have hxm:=PySem.mem_of_lookup hfree;have hvis:=hcap _ hxm rfl;obtain ⟨m,hn,hl⟩:=I2.loc;obtain ⟨u,r,lk⟩:=hl j x v hy ev (.inr hvis);refine ⟨u,r, .inr ⟨?_,?_⟩⟩
    .rcases e3 with z | z
     .exact absurd z (XE hfree)
     .exact z
    .rcases lk with ⟨k,_⟩ | ⟨_,c,hc1,z⟩
     .rcases hvis with q | q
      .exact absurd (k.symm.trans q) (by simp)
      .exact absurd (k.symm.trans q) (by simp)
     .obtain ⟨c',hc'⟩:=hcl2 x hxm
      have:=hcl1 x c' hc';rw [hc1] at this;cases this;obtain ⟨o,ho,hd⟩:=z;exact ⟨c,hc',o,k34 _ _ (k23 _ _ ho),hd⟩
  .obtain ⟨v,z⟩:=I3.cell x c (hcl1 x c e)
   obtain ⟨o,ho,hd⟩:=z;exact ⟨v,o,k34 _ _ ho,hd⟩
 have B:CB X own ix scope pins U tg cl D C fp it tn J H2 s3:=⟨T,ok',fun b hb=>Nat.ne_of_lt (fpLt b hb),f2,fD,I3,by rw [hCD];exact Nat.ne_of_gt (Nat.lt_succ_self _),fun H' hn=>I2.fpOk (by rw [hCD,hD];exact Nat.le_succ _) hn⟩;have loop':=fun t=>loop cl D C fp it tn J H2 s3 {s2 with heap:=h4,toks:=t} B hR (I4 t) (T.keep 0 _ _ st2 fun b _ o e=>k34 _ _ (k23 _ _ e)) ⟨_,k34 _ _ D3⟩;rw [<-hC,<-hD];exact codeAny_compStart_list (loop' _) (T.self _ 0 _ _ _ (T.keep 0 _ _ st2 fun b _ o e=>k34 _ _ (k23 _ _ e)) (loop' _))
theorem CB.stop(B:CB X own ix scope pins U tg cl D C fp it tn J H2 s3)(I6:Inv (Zu X (YB X own ix) scope cl C (D::fp) s3 H2) [(D,oD)] τ H5 s6)(hz:ys.length < sizeLine)(v5:Vals ys its)(eo:oD={cls:= .type "list",data:= .seq its.toArray nn}):
  Inv X pins U (upd H5 D (.lst ys)) s6/\Vh X pins (upd H5 D (.lst ys)) C/\(∃ m,s6.heap.Ns C m)/\H5 D=none:=by
 obtain ⟨m,hn6,_⟩:=id I6.loc
 have I7:Inv X pins U H5 s6:=B.I3.call' (ch:=D::fp) I6.os I6.base I6.hok I6.bare fun b hb=>by
  rcases List.mem_cons.mp hb with z | z
  .subst z
   exact ⟨B.fD.2.2.2.1,B.fD.2.1,B.fD.2.2.2.2.1,B.fD.2.2.2.2.2⟩
  .have f:=B.f2 b z
   exact ⟨f.2.2.2.1,f.2.1,f.2.2.2.2.1,f.2.2.2.2.2⟩
 obtain ⟨gD,nD,_⟩:=I6.pin (D,oD) (by simp);subst eo;exact ⟨I7.retrack (o:= .lst ys) nD ⟨nD,B.fD.2⟩ ⟨Nat.le_of_lt hz,its,nn,v5,gD⟩,B.fC _ (by rw [ZI B.CD];exact I6.free),⟨m,hn6⟩,nD⟩
theorem Mo(I8:Inv X pins U H' s6)(fC:Vh X pins H' C)(hm:∃ m,s6.heap.Ns C m)(q:Q (.ref D) H'):compPost (model X.prog X.w) X.A X.xe none (EP X pins U Q) (.ref D) C (.ok .next) s6:=by
 obtain ⟨m,hn⟩:=hm;exact ⟨m,hn,fun h' hs'=>⟨.ref D,_,I8.turned (it:=C) (t':=s6.toks) (fun b o hb e=>(hs'.2 b hb).trans e) fC.1 fC.2.1 fC.2.2.2.1 fC.2.2.2.2.1 fC.2.2.2.2.2,rfl,q⟩⟩
theorem Mn{D0:Ends}(hN:X.N.Nodup)(hi0:X.N[i0]?=some x0)(hx0:Loc X.env.scope x0)(hf:X.fn x0=true \/ X.env.scope.names.lookup x0=some .local)(I8:Inv X pins U H' s6)(fC:Vh X pins H' C)(hm:∃ m,s6.heap.Ns C m)(q:Yi i0 (.ref D) U H' D0.nx):
  compPost (model X.prog X.w) X.A X.xe (some (assign (.Name x0 py) X.env)) (fun _ s'=> ∃ U' H',Inv X pins U' H' s'/\D0.nx U' H') (.ref D) C (.ok .next) s6:=by
 obtain ⟨m,hn6⟩:=hm;show wpAny _ X.A (assign (.Name x0 py) X.env (.ref D)) _ _ _;refine wpAny_assign_Name (Wj (v:= .ref D) I8 hN hi0 hx0 rfl (fun s7 I9 hs7=>?_) hf);obtain ⟨a,hs7,ha⟩:=hs7
 have hCa:C≠a:=by
  rcases ha with ha | ha
  .rw [ha];exact fC.2.1
  .exact fun z=>fC.2.2.2.2.1 x0 a ha z.symm
 exact ⟨m,hn6.sameBut hs7 hCa,fun h' hs'=>⟨_,_,I9.turned (it:=C) (t':=s7.toks) (fun b o hb e=>(hs'.2 b hb).trans e) fC.1 fC.2.1 fC.2.2.2.1 fC.2.2.2.2.1 fC.2.2.2.2.2,q⟩⟩
theorem Gy(hsw:swapsWith (.ListComp e gens scope pos) (some (.Name x0 py)) spos.line X.env=pure true)(h:wpAny (model X.prog X.w) X.A (comprehension (.ListComp e gens scope pos) scope X.env (firstIterPos gens pos) (newList []) (firstAsync gens) (firstIter gens X.env) (some (assign (.Name x0 py) X.env))) (fun _ s'=> ∃ U' H',Inv X pins U' H' s'/\D0.nx U' H') X.xe s):
  wpAny (model X.prog X.w) X.A (exec (.Assign [.Name x0 py] (.ListComp e gens scope pos) spos) X.env) (SP X pins D0) X.xe s:=by
 rw [exec_Assign_Name_used _ _ _ _ hsw];refine wpAny_bind (wpAny_standAt (wpAny_bind (?_:wpAny _ X.A (do let _ <-comprehension (.ListComp e gens scope pos) scope X.env _ (newList []) _ _ (some (assign (.Name x0 py) X.env))) _ _ s)));exact wpAny_bind (wpAny_mono h (fun _ s' hq=>wpAny_pure (wpAny_pure hq)) fun _ _ e=>e)
theorem CB.loop1(B:CB X own ix scope pins U tg cl D C fp it tn J H2 s3)(hc:X.calm=true)(hgk:GK own.length g)(hg:∀ cl C fp s H,PG (Zu X (YB X own ix) scope cl C fp s H) tg g)(he:∀ cl C fp s H,PE (Zu X (YB X own ix) scope cl C fp s H) elt te)(cw:RV J g te (YV own.length ix U) Q H2)(fin:∀ s6 H5 ys,Inv X pins U (upd H5 D (.lst ys)) s6->Vh X pins (upd H5 D (.lst ys)) C->(∃ m,s6.heap.Ns C m)->Q (.ref D) (upd H5 D (.lst ys))->Rs (.ok .next) s6)(I4:Inv (Zu X (YB X own ix) scope cl C (D::fp) s3 H2) [] (YV own.length ix U) H2 s5)(st4:tn 0 s5.heap)(lD:s5.heap.PlainList D (List.toArray [])):
  codeAny (model X.prog X.w) X.A (.compLoop (.ListComp elt [⟨tg,iter, [],0⟩] scope pos) 0 (.ref it) (.ref D) (compEnvC scope cl C X.env)) Rs s5:=by
 obtain ⟨W,⟨m0,w0⟩,turn⟩:=cw;have T:=B.T;have ok':=B.ok;have nfp:=B.nfp
 let X':Cx:=Zu X (YB X own ix) scope cl C (D::fp) s3 H2
 have fp':∀ {H':Hp}{pl:List (Addr × Obj)},(∀ p∈pl,p.1=D)->(∀ b∈fp,H' b=none)->∀ b∈fp,Vh X' pl H' b:=fun {H' pl} hp hn b hb=>
  ⟨hn b hb,(ok'.exf b (List.mem_cons_of_mem _ hb)).1,ok'.exfs b (List.mem_cons_of_mem _ hb), .inl (List.mem_cons_of_mem _ hb),(ok'.exf b (List.mem_cons_of_mem _ hb)).2,fun p hp' z=>nfp b hb (z ▸ hp p (by
   have q:p∈([]:List (Addr × Obj))++ pl:=hp';simpa using q))⟩
 have dX:D≠X'.env.locals:=(ok'.exf D List.mem_cons_self).1;have dF:D ∉ X'.fs:=ok'.exfs D List.mem_cons_self;refine RO (fun n s'=> ∃ i ys its H',Inv X' [] (YV own.length ix U) H' s'/\tn i s'.heap/\(∀ b∈fp,H' b=none)/\H' D=none/\s'.heap.PlainList D (List.toArray its)/\Vals ys its/\W i n ys H') ?_ m0
  ⟨0, [], [],H2,I4,st4,fun b hb=>(B.f2 b hb).1,B.fD.1,lD, .nil,w0⟩
 rintro n s5 ⟨i,ys,its,H5,I5,st5,fr5,d5,⟨nn,l5⟩,v5,w5⟩;obtain ⟨hz,hcase⟩:=turn i n ys H5 w5
 let oD:Obj:={cls:= .type "list",data:= .seq its.toArray nn}
 have onlyD:∀ p∈ [((D,oD):Addr × Obj)],p.1=D:=fun p hp=>by
  have e:p=(D,oD):=by simpa using hp
  rw [e]
 have I5':Inv X' [(D,oD)] (YV own.length ix U) H5 s5:=I5.pins_of fun p hp=>by
  have e:p=(D,oD):=by simpa using hp
  subst e;exact ⟨l5,d5,dX,dF,fun v z=>nomatch z⟩
 rcases hcase with ⟨stop,qn⟩ | ⟨go,step⟩
 .refine thn (T.done X' rfl rfl rfl hc i _ s5 _ H5 _ I5' (fp' onlyD fr5) st5 stop) fun r s6 ⟨hr,I6⟩=>?_
  subst hr;obtain ⟨z1,z2,z3,nD⟩:=B.stop I6 hz v5 rfl;exact fin s6 H5 ys z1 z2 z3 (qn D nD)
 .refine thn (T.item X' rfl rfl rfl hc i _ s5 _ H5 _ I5' (fp' onlyD fr5) st5 go) fun r s6 ⟨u,hr,h6⟩=>?_
  subst hr;refine thn h6 fun _ s7 ⟨x,H7,I7,r7,y7,st7,fr7⟩=>?_;have I7':=I7.pinned (fp' onlyD fr7) (T.obj _ _ st7);refine thn (hg cl C (D::fp) s3 H2 _ s7 _ H7 x u _ I7' r7 (hgk _ _ _ _ (step x H7 y7))) fun _ s8 ⟨σ8,H8,I8,q8,l8,k8⟩=>?_;refine thn (he cl C (D::fp) s3 H2 _ s8 σ8 H8 _ I8 q8) fun yv s9 ⟨y,H9,I9,r9,m',hm',w9⟩=>?_;obtain ⟨gD,nD,_⟩:=I9.pin (D,oD) (by simp);have hlen:its.length=ys.length:=v5.length.symm;refine wpAny_list_append_plain (l:=D) (items:=its.toArray) ⟨nn,gD⟩ (fun h' hl' hs'=>?_) (by rw [List.size_toArray,hlen];exact Nat.le_of_lt hz);have kp:∀ b o,b≠D->s9.heap.get? b=some o->h'.get? b=some o:=fun b o hb q=>(hs'.2 b hb).trans q
  have I9':Inv X' (Z1 fp s7.heap) σ8 H9 s9:=I9.pins_of fun p hp=>I9.pin p (by
   refine List.mem_append_right _ (List.mem_append_right _ hp))
  have pinNe:∀ p∈X'.pn++ Z1 fp s7.heap,p.1≠D:=fun p hp=>by
   have q:p∈([]:List (Addr × Obj))++ Z1 fp s7.heap:=hp;exact nfp _ (J0 (by simpa using q)).1
  have I10:Inv X' (Z1 fp s7.heap) σ8 H9 {s9 with heap:=h',toks:=s9.toks}:=I9'.turned (it:=D) kp nD dX (.inl List.mem_cons_self) (ok'.exf D List.mem_cons_self).2 pinNe;refine ⟨m',hm',i + 1,ys++ [y],its++ [yv],H9,?_,?_,?_,nD,?_,v5.append (.cons r9 .nil),w9⟩
  .refine Inv.weak (I10.pins_of (pins':= []) fun p hp=>nomatch hp) (by rw [l8]) fun j v hj=>?_
   by_cases hlt:j < own.length
   .unfold YV at hj
    rw [List.getElem?_append_left (by simpa using hlt),List.getElem?_replicate,if_pos hlt] at hj;cases hj
   .have e:σ8[j]?=(YV own.length ix U)[j]?:=by
     have q:=congrArg (fun l:List (Option V)=>l[j - own.length]?) k8;simp only [List.getElem?_drop] at q
     rwa [Nat.add_sub_cancel' (Nat.le_of_not_lt hlt)] at q
    rw [e];exact hj
  .exact T.keep _ _ _ st7 fun b hb o e=>(I10.pin (b,o) (List.mem_append_right _ (YU hb e))).1
  .intro b hb
   obtain ⟨o,e,d⟩:=T.obj _ _ st7 b hb;exact (I10.pin (b,o) (List.mem_append_right _ (YU hb e))).2.1
  .have e:(its++ [yv]).toArray=its.toArray.push yv:=by simp
   rw [e];exact hl'
end
theorem Tc(I:Nat->Shared->Prop)(turn:∀ n s,I n s->wpAny (model prog w) A (pyNext it) (fun r s1=>match r with
   | none=>R (.ok .next) s1
   | some v=>wpAny (model prog w) A (letOwnedTupleGo target it v) (fun _ s1'=>wpAny (model prog w) A (assign target env v) (fun _ s2=>wpAny (model prog w) A (isTrue ct env (eval ct env)) (fun b s2'=>if b=true then wpAny (model prog w) A (eval elt env) (fun x s3=>
     wpAny (model prog w) A (call (.builtin "list.append") [acc,x]) (fun _ s4=> ∃ m,m < n/\I m s4) (fun _ _=>False) s3)
     (fun _ _=>False) s2' else ∃ m,m < n/\I m s2') (fun _ _=>False) s2) (fun _ _=>False) s1') (fun _ _=>False) s1) (fun _ _=>False) s)(n:Nat)(h:I n s):codeAny (model prog w) A (.compLoop (.ListComp elt [⟨target,iter, [ct],0⟩] scope pos) 0 it acc env) R s:=by
 refine codeAny_loop rfl I (fun n s hI=>wpAny_noted (m:=compTurn (.ListComp elt [⟨target,iter, [ct],0⟩] scope pos) 0 it acc env) ?_) n h;rw [compTurn_list];refine wpAny_bind (wpAny_standAt (wpAny_bind (wpAny_mono (turn n s hI) (fun r s1 h1=>?_) fun _ _ h'=>h'.elim)))
 cases r with
 | none=>exact wpAny_pure h1
 | some v=>
  refine wpAny_bind (wpAny_mono h1 (fun _ s1' h1'=>wpAny_bind (wpAny_mono h1' (fun _ s2 h2=>?_) fun _ _ h'=>h'.elim)) fun _ _ h'=>h'.elim);dsimp only;refine wpAny_bind ?_;rw [List.forIn_cons];simp only [if_true];refine wpAny_bind (wpAny_bind (wpAny_mono h2 (fun b s2' h2'=>wpAny_pure ?_) fun _ _ h'=>h'.elim));dsimp only;rw [List.forIn_nil];refine wpAny_pure ?_
  cases b with
  | true=>
   rw [if_pos rfl] at h2';simp only [if_true];exact wpAny_bind (wpAny_bind (wpAny_mono h2' (fun x s3 h3=>wpAny_bind (wpAny_mono h3 (fun _ s4 h4=>wpAny_pure (wpAny_pure ⟨rfl,h4⟩)) fun _ _ h'=>h'.elim)) fun _ _ h'=>h'.elim))
  | false=>
   rw [if_neg (by simp)] at h2';simp only [if_neg Bool.false_ne_true];exact wpAny_pure ⟨rfl,h2'⟩
def Mx(J:It)(g:TG)(tc:TT)(te:TE)(s0:St)(Q:VK)(H1:Hp):Prop:= ∃ W:Nat->Nat->List V->Hp->Prop,(∃ m,W 0 m [] H1)/\∀ i m ys H,W i m ys H->
 ys.length < sizeLine/\((J.stop i H/\∀ p,H p=none->Q (.ref p) (upd H p (.lst ys))) \/
  (J.go i H/\∀ x H',J.yld i H x H'->g x s0 H' fun σ2 H2=>tc σ2 H2 fun b H3=>if b=true then te σ2 H3 fun y H4=> ∃ m',m' < m/\W (i + 1) m' (ys++ [y]) H4 else ∃ m',m' < m/\W (i + 1) m' ys H3))
def Bq(k:Nat)(ix:List Nat)(wi:TI)(g:TG)(tc:TT)(te:TE):TE:=fun U H Q=>wi U H fun J H1=>Mx J g tc te (YV k ix U) Q H1
theorem Vr(n:Nat)(hn:n < sizeLine)(Pv:Nat->List V->Hp->Prop)(h0:Pv 0 [] H)(hlen:∀ i vs H,Pv i vs H->vs.length<=i)(hgo:∀ i vs H,i < n->Pv i vs H->J.go i H)(hstop:∀ vs H,Pv n vs H->J.stop n H)(hs:∀ i vs H x H' (R:Bool->V->Hp->Prop),i < n->Pv i vs H->J.yld i H x H'->(∀ v H3,Pv (i + 1) (vs++ [v]) H3->R true v H3)->(∀ H3,Pv (i + 1) vs H3->R false .non H3)->g x s0 H' fun s2 H2=>tc s2 H2 fun b H3=>if b=true then te s2 H3 (R true) else R false .non H3)(hd:∀ vs H p,Pv n vs H->H p=none->Q (.ref p) (upd H p (.lst vs))):
  Mx J g tc te s0 Q H:=by
 refine ⟨fun i m vs H=>m=n - i/\i<=n/\Pv i vs H,⟨n,by simp,Nat.zero_le _,h0⟩,?_⟩;rintro i m vs H ⟨rfl,hi,p⟩;have hl:=hlen i vs H p;refine ⟨by omega,?_⟩
 by_cases hlt:i < n
 .exact .inr ⟨hgo i vs H hlt p,fun x H' y=>hs i vs H x H' (fun b v H3=>if b=true then ∃ m',m' < n - i/\m'=n - (i + 1)/\i + 1<=n/\Pv (i + 1) (vs++ [v]) H3 else ∃ m',m' < n - i/\m'=n - (i + 1)/\i + 1<=n/\Pv (i + 1) vs H3) hlt p y
   (fun v H3 p3=>by rw [if_pos rfl];exact ⟨n - (i + 1),by omega,rfl,hlt,p3⟩) fun H3 p3=>by rw [if_neg (by simp)];exact ⟨n - (i + 1),by omega,rfl,hlt,p3⟩⟩
 .have e:i=n:=by omega
  subst e;exact .inl ⟨hstop vs H p,fun a ha=>hd vs H a p ha⟩
section
theorem CB.loopI(B:CB X own ix scope pins U tg cl D C fp it tn J H2 s3)(hc:X.calm=true)(hgk:GK own.length g)(hg:∀ cl C fp s H,PG (Zu X (YB X own ix) scope cl C fp s H) tg g)(hct:∀ cl C fp s H,PT (Zu X (YB X own ix) scope cl C fp s H) ct tc)(he:∀ cl C fp s H,PE (Zu X (YB X own ix) scope cl C fp s H) elt te)(cw:Mx J g tc te (YV own.length ix U) Q H2)(fin:∀ s6 H5 ys,Inv X pins U (upd H5 D (.lst ys)) s6->Vh X pins (upd H5 D (.lst ys)) C->(∃ m,s6.heap.Ns C m)->Q (.ref D) (upd H5 D (.lst ys))->Rs (.ok .next) s6)(I4:Inv (Zu X (YB X own ix) scope cl C (D::fp) s3 H2) [] (YV own.length ix U) H2 s5)(st4:tn 0 s5.heap)(lD:s5.heap.PlainList D (List.toArray [])):
  codeAny (model X.prog X.w) X.A (.compLoop (.ListComp elt [⟨tg,iter, [ct],0⟩] scope pos) 0 (.ref it) (.ref D) (compEnvC scope cl C X.env)) Rs s5:=by
 obtain ⟨W,⟨m0,w0⟩,turn⟩:=cw;have T:=B.T;have ok':=B.ok;have nfp:=B.nfp
 let X':Cx:=Zu X (YB X own ix) scope cl C (D::fp) s3 H2
 have fp':∀ {H':Hp}{pl:List (Addr × Obj)},(∀ p∈pl,p.1=D)->(∀ b∈fp,H' b=none)->∀ b∈fp,Vh X' pl H' b:=fun {H' pl} hp hn b hb=>
  ⟨hn b hb,(ok'.exf b (List.mem_cons_of_mem _ hb)).1,ok'.exfs b (List.mem_cons_of_mem _ hb), .inl (List.mem_cons_of_mem _ hb),(ok'.exf b (List.mem_cons_of_mem _ hb)).2,fun p hp' z=>nfp b hb (z ▸ hp p (by
   have q:p∈([]:List (Addr × Obj))++ pl:=hp';simpa using q))⟩
 have dX:D≠X'.env.locals:=(ok'.exf D List.mem_cons_self).1;have dF:D ∉ X'.fs:=ok'.exfs D List.mem_cons_self;refine Tc (fun n s'=> ∃ i ys its H',Inv X' [] (YV own.length ix U) H' s'/\tn i s'.heap/\(∀ b∈fp,H' b=none)/\H' D=none/\s'.heap.PlainList D (List.toArray its)/\Vals ys its/\W i n ys H') ?_ m0
  ⟨0, [], [],H2,I4,st4,fun b hb=>(B.f2 b hb).1,B.fD.1,lD, .nil,w0⟩
 rintro n s5 ⟨i,ys,its,H5,I5,st5,fr5,d5,⟨nn,l5⟩,v5,w5⟩;obtain ⟨hz,hcase⟩:=turn i n ys H5 w5
 let oD:Obj:={cls:= .type "list",data:= .seq its.toArray nn}
 have onlyD:∀ p∈ [((D,oD):Addr × Obj)],p.1=D:=fun p hp=>by
  have e:p=(D,oD):=by simpa using hp
  rw [e]
 have I5':Inv X' [(D,oD)] (YV own.length ix U) H5 s5:=I5.pins_of fun p hp=>by
  have e:p=(D,oD):=by simpa using hp
  subst e;exact ⟨l5,d5,dX,dF,fun v z=>nomatch z⟩
 rcases hcase with ⟨stop,qn⟩ | ⟨go,step⟩
 .refine thn (T.done X' rfl rfl rfl hc i _ s5 _ H5 _ I5' (fp' onlyD fr5) st5 stop) fun r s6 ⟨hr,I6⟩=>?_
  subst hr;obtain ⟨z1,z2,z3,nD⟩:=B.stop I6 hz v5 rfl;exact fin s6 H5 ys z1 z2 z3 (qn D nD)
 .refine thn (T.item X' rfl rfl rfl hc i _ s5 _ H5 _ I5' (fp' onlyD fr5) st5 go) fun r s6 ⟨u,hr,h6⟩=>?_
  subst hr;refine thn h6 fun _ s7 ⟨x,H7,I7,r7,y7,st7,fr7⟩=>?_;have I7':=I7.pinned (fp' onlyD fr7) (T.obj _ _ st7);refine thn (hg cl C (D::fp) s3 H2 _ s7 _ H7 x u _ I7' r7 (hgk _ _ _ _ (step x H7 y7))) fun _ s8 ⟨σ8,H8,I8,q8,l8,k8⟩=>?_;refine thn (hct cl C (D::fp) s3 H2 _ s8 σ8 H8 _ I8 q8) fun cb s8' ⟨H8',I8',q8'⟩=>?_
  have pinNe:∀ p∈X'.pn++ Z1 fp s7.heap,p.1≠D:=fun p hp=>by
   have q:p∈([]:List (Addr × Obj))++ Z1 fp s7.heap:=hp;exact nfp _ (J0 (by simpa using q)).1
  have weak:∀ {H9:Hp}{s9:Shared},Inv X' (Z1 fp s7.heap) σ8 H9 s9->Inv X' [] (YV own.length ix U) H9 s9:=fun {H9 s9} I10=>by
   refine Inv.weak (I10.pins_of (pins':= []) fun p hp=>nomatch hp) (by rw [l8]) fun j v hj=>?_
   by_cases hlt:j < own.length
   .unfold YV at hj
    rw [List.getElem?_append_left (by simpa using hlt),List.getElem?_replicate,if_pos hlt] at hj;cases hj
   .have e:σ8[j]?=(YV own.length ix U)[j]?:=by
     have q:=congrArg (fun l:List (Option V)=>l[j - own.length]?) k8;simp only [List.getElem?_drop] at q
     rwa [Nat.add_sub_cancel' (Nat.le_of_not_lt hlt)] at q
    rw [e];exact hj
  have cut:∀ {H9:Hp}{s9:Shared},Inv X' ((D,oD)::Z1 fp s7.heap) σ8 H9 s9->Inv X' (Z1 fp s7.heap) σ8 H9 s9:=fun {H9 s9} I9=>I9.pins_of fun p hp=>I9.pin p (List.mem_append_right _ (List.mem_cons_of_mem _ hp))
  cases cb with
  | false=>
   rw [if_neg (by simp)] at q8';rw [if_neg (by simp)];obtain ⟨m',hm',w9⟩:=q8';obtain ⟨gD,nD,_⟩:=I8'.pin (D,oD) (by simp);have I10:=cut I8';refine ⟨m',hm',i + 1,ys,its,H8',weak I10,?_,?_,nD,⟨nn,gD⟩,v5,w9⟩
   .exact T.keep _ _ _ st7 fun b hb o e=>(I10.pin (b,o) (List.mem_append_right _ (YU hb e))).1
   .intro b hb
    obtain ⟨o,e,d⟩:=T.obj _ _ st7 b hb;exact (I10.pin (b,o) (List.mem_append_right _ (YU hb e))).2.1
  | true=>
   rw [if_pos rfl] at q8';rw [if_pos rfl];refine thn (he cl C (D::fp) s3 H2 _ s8' σ8 H8' _ I8' q8') fun yv s9 ⟨y,H9,I9,r9,m',hm',w9⟩=>?_;obtain ⟨gD,nD,_⟩:=I9.pin (D,oD) (by simp);have hlen:its.length=ys.length:=v5.length.symm;refine wpAny_list_append_plain (l:=D) (items:=its.toArray) ⟨nn,gD⟩ (fun h' hl' hs'=>?_) (by rw [List.size_toArray,hlen];exact Nat.le_of_lt hz);have kp:∀ b o,b≠D->s9.heap.get? b=some o->h'.get? b=some o:=fun b o hb q=>(hs'.2 b hb).trans q;have I10:Inv X' (Z1 fp s7.heap) σ8 H9 {s9 with heap:=h',toks:=s9.toks}:=(cut I9).turned (it:=D) kp nD dX (.inl List.mem_cons_self) (ok'.exf D List.mem_cons_self).2 pinNe;refine ⟨m',hm',i + 1,ys++ [y],its++ [yv],H9,weak I10,?_,?_,nD,?_,v5.append (.cons r9 .nil),w9⟩
   .exact T.keep _ _ _ st7 fun b hb o e=>(I10.pin (b,o) (List.mem_append_right _ (YU hb e))).1
   .intro b hb
    obtain ⟨o,e,d⟩:=T.obj _ _ st7 b hb;exact (I10.pin (b,o) (List.mem_append_right _ (YU hb e))).2.1
   .have e:(its++ [yv]).toArray=its.toArray.push yv:=by simp
    rw [e];exact hl'
end
abbrev two(elt tg iter tg2 iter2:Expr)(scope:Scope)(pos:Pos):Expr:= .ListComp elt [⟨tg,iter, [],0⟩,⟨tg2,iter2, [],0⟩] scope pos
section
theorem MS:compTurn (two elt tg iter tg2 iter2 scope pos) 0 it acc env=(standAt iter.pos >>=fun _=>pyNext it >>=fun r=>match r with
  | none=>pure (.done .next)
  | some v=>letOwnedTupleGo tg it v >>=fun _=>assign tg env v >>=fun _=>eval iter2 env >>=fun x=>standAt iter2.pos >>=fun _=>foldedSetIterable iter2 env x >>=fun x=>holding [x] (pyIter x) >>=fun j=>
    runOwn (.compStart (two elt tg iter tg2 iter2 scope pos) 1 j acc env) env >>=fun _=>again (.compLoop (two elt tg iter tg2 iter2 scope pos) 0 it acc env)):=by rfl
theorem Me:compTurn (two elt tg iter tg2 iter2 scope pos) 1 it acc env=(standAt iter2.pos >>=fun _=>pyNext it >>=fun r=>match r with
  | none=>pure (.done .next)
  | some v=>letOwnedTupleGo tg2 it v >>=fun _=>assign tg2 env v >>=fun _=>(eval elt env >>=fun x=>call (.builtin "list.append") [acc,x] >>=fun _=>pure ()) >>=fun _=>
    again (.compLoop (two elt tg iter tg2 iter2 scope pos) 1 it acc env)):=by rfl
theorem Ee(I:Nat->Shared->Prop)(turn:∀ n s,I n s->wpAny (model prog w) A (pyNext it) (fun r s1=>match r with
   | none=>R (.ok .next) s1
   | some v=>wpAny (model prog w) A (letOwnedTupleGo tg2 it v) (fun _ s2=>wpAny (model prog w) A (assign tg2 env v) (fun _ s3=>wpAny (model prog w) A (eval elt env) (fun x s4=>
     wpAny (model prog w) A (call (.builtin "list.append") [acc,x]) (fun _ s5=> ∃ m,m < n/\I m s5) (fun _ _=>False) s4) (fun _ _=>False) s3) (fun _ _=>False) s2) (fun _ _=>False) s1) (fun _ _=>False) s)(n:Nat)(h:I n s):codeAny (model prog w) A (.compLoop (two elt tg iter tg2 iter2 scope pos) 1 it acc env) R s:=by
 refine codeAny_loop rfl I (fun n s hI=>wpAny_noted (m:=compTurn (two elt tg iter tg2 iter2 scope pos) 1 it acc env) ?_) n h;rw [Me];refine wpAny_bind (wpAny_standAt (wpAny_bind (wpAny_mono (turn n s hI) (fun r s1 h1=>?_) fun _ _ z=>z.elim)))
 cases r with
 | none=>exact wpAny_pure h1
 | some v=>
  exact wpAny_bind (wpAny_mono h1 (fun _ s2 h2=>wpAny_bind (wpAny_mono h2 (fun _ s3 h3=>wpAny_bind (wpAny_bind (wpAny_mono h3 (fun x s4 h4=>wpAny_bind (wpAny_mono h4
   (fun _ s5 h5=>wpAny_pure (wpAny_pure ⟨rfl,h5⟩)) fun _ _ z=>z.elim)) fun _ _ z=>z.elim))) fun _ _ z=>z.elim)) fun _ _ z=>z.elim)
theorem RF(h0:codeAny (model prog w) A (.compLoop (two elt tg iter tg2 iter2 scope pos) 1 it acc env) R s)(h:wpAny (model prog w) A (pyIter it) (fun j s'=>codeAny (model prog w) A (.compLoop (two elt tg iter tg2 iter2 scope pos) 1 j acc env) R s') (fun _ _=>False) s):
  codeAny (model prog w) A (.compStart (two elt tg iter tg2 iter2 scope pos) 1 it acc env) R s:=by
 refine codeAny_of_tree (wpAny_notedAt (m:=compStart (two elt tg iter tg2 iter2 scope pos) 1 it acc env) (pos:=theWindowsPlace) ?_);simp only [compStart];refine wpAny_bind (m:=ask) (wpAny_askSetting ?_)
 split
 .exact wpAny_bind (wpAny_pure (wpAny_pure ⟨rfl,h0⟩))
 .exact wpAny_bind (wpAny_rule (wpAny_bind (wpAny_standAt (wpAny_bind (wpAny_mono h (fun j s' h'=>wpAny_pure ⟨rfl,h'⟩) fun _ _ z=>z.elim)))))
theorem Dr(I:Nat->Shared->Prop)(turn:∀ n s,I n s->wpAny (model prog w) A (pyNext it) (fun r s1=>match r with
   | none=>R (.ok .next) s1
   | some v=>wpAny (model prog w) A (letOwnedTupleGo tg it v) (fun _ s2=>wpAny (model prog w) A (assign tg env v) (fun _ s3=>wpAny (model prog w) A (eval iter2 env) (fun x s4=>
     wpAny (model prog w) A (pyIter x) (fun j s5=>codeAny (model prog w) (A.mark none) (.compStart (two elt tg iter tg2 iter2 scope pos) 1 j acc env) (fun r s6=>match r with | .ok _=> ∃ m,m < n/\I m s6 | .error _=>False) s5) (fun _ _=>False) s4) (fun _ _=>False) s3) (fun _ _=>False) s2) (fun _ _=>False) s1) (fun _ _=>False) s)(hs:∀ x,foldedSetIterable iter2 env x=pure x)(n:Nat)(h:I n s):codeAny (model prog w) A (.compLoop (two elt tg iter tg2 iter2 scope pos) 0 it acc env) R s:=by
 refine codeAny_loop rfl I (fun n s hI=>wpAny_noted (m:=compTurn (two elt tg iter tg2 iter2 scope pos) 0 it acc env) ?_) n h;rw [MS];refine wpAny_bind (wpAny_standAt (wpAny_bind (wpAny_mono (turn n s hI) (fun r s1 h1=>?_) fun _ _ z=>z.elim)))
 cases r with
 | none=>exact wpAny_pure h1
 | some v=>
  refine wpAny_bind (wpAny_mono h1 (fun _ s2 h2=>wpAny_bind (wpAny_mono h2 (fun _ s3 h3=>wpAny_bind (wpAny_mono h3 (fun x s4 h4=>wpAny_bind (wpAny_standAt ?_)) fun _ _ z=>z.elim)) fun _ _ z=>z.elim)) fun _ _ z=>z.elim);rw [hs x];refine wpAny_bind (wpAny_pure (wpAny_bind (wpAny_holding (wpAny_mono h4 (fun j s5 h5=>wpAny_bind (wpAny_runOwn (codeAny_mono h5 fun r s6 h6=>?_))) fun _ _ z=>z.elim))))
  cases r with
  | error e=>exact h6.elim
  | ok f=>exact wpAny_pure ⟨rfl,h6⟩
end
def In2(wi2:TI)(te:TE)(W:Nat->Nat->List V->Hp->Prop)(i m:Nat)(ys:List V):St->Hp->Prop:=fun U H=>wi2 U H fun J2 H3=> ∃ W2:Nat->Nat->List V->Hp->Prop,(∃ m2,W2 0 m2 ys H3)/\∀ j m2 zs H4,W2 j m2 zs H4->
 zs.length < sizeLine/\((J2.stop j H4/\∃ m',m' < m/\W (i + 1) m' zs H4) \/
  (J2.go j H4/\∀ y H5,J2.yld j H4 y H5->te (U.set 1 (some y)) H5 fun v H6=> ∃ m2',m2' < m2/\W2 (j + 1) m2' (zs++ [v]) H6))
def My(J:It)(wi2:TI)(te:TE)(s0:St)(Q:VK)(H1:Hp):Prop:= ∃ W:Nat->Nat->List V->Hp->Prop,(∃ m,W 0 m [] H1)/\∀ i m ys H,W i m ys H->
 ys.length < sizeLine/\((J.stop i H/\∀ p,H p=none->Q (.ref p) (upd H p (.lst ys))) \/
  (J.go i H/\∀ x H',J.yld i H x H'->In2 wi2 te W i m ys (s0.set 0 (some x)) H'))
def Br(ix:List Nat)(wi wi2:TI)(te:TE):TE:=fun U H Q=>wi U H fun J H1=>My J wi2 te (YV 2 ix U) Q H1
theorem Kw(h:Yi i x U H Q):Yi i x U H fun σ2 H2=>Q σ2 H2/\σ2=U.set i (some x):=⟨h,rfl⟩
section
theorem CB.loop2(B:CB X [x1,x2] ix scope pins U (.Name x1 p1) cl D C fp it tn J H2 s3)(hc:X.calm=true)(hg:∀ cl C fp s H,PG (Zu X (YB X [x1,x2] ix) scope cl C fp s H) (.Name x1 p1) (Yi 0))(hi2:∀ cl C fp s H,PI (Zu X (YB X [x1,x2] ix) scope cl C fp s H) (.Name x2 p2) iter2 wi2)(hg2:∀ cl C fp s H,PG (Zu X (YB X [x1,x2] ix) scope cl C fp s H) (.Name x2 p2) (Yi 1))(he:∀ cl C fp s H,PE (Zu X (YB X [x1,x2] ix) scope cl C fp s H) elt te)(hs2:∀ env x,foldedSetIterable iter2 env x=pure x)(cw:My J wi2 te (YV 2 ix U) Q H2)(fin:∀ s6 H5 ys,Inv X pins U (upd H5 D (.lst ys)) s6->Vh X pins (upd H5 D (.lst ys)) C->(∃ m,s6.heap.Ns C m)->Q (.ref D) (upd H5 D (.lst ys))->Rs (.ok .next) s6)(I4:Inv (Zu X (YB X [x1,x2] ix) scope cl C (D::fp) s3 H2) [] (YV ([x1,x2]:List Str).length ix U) H2 s5)(st4:tn 0 s5.heap)(lD:s5.heap.PlainList D (List.toArray [])):
  codeAny (model X.prog X.w) X.A (.compLoop (two elt (.Name x1 p1) iter (.Name x2 p2) iter2 scope pos) 0 (.ref it) (.ref D) (compEnvC scope cl C X.env)) Rs s5:=by
 have hgk:GK ([x1,x2]:List Str).length (Yi 0):=YI (i:=0) (by simp);obtain ⟨W,⟨m0,w0⟩,turn⟩:=cw;have T:=B.T;have ok':=B.ok;have nfp:=B.nfp
 let X':Cx:=Zu X (YB X [x1,x2] ix) scope cl C (D::fp) s3 H2
 have fp':∀ {H':Hp}{pl:List (Addr × Obj)},(∀ p∈pl,p.1=D)->(∀ b∈fp,H' b=none)->∀ b∈fp,Vh X' pl H' b:=fun {H' pl} hp hn b hb=>
  ⟨hn b hb,(ok'.exf b (List.mem_cons_of_mem _ hb)).1,ok'.exfs b (List.mem_cons_of_mem _ hb), .inl (List.mem_cons_of_mem _ hb),(ok'.exf b (List.mem_cons_of_mem _ hb)).2,fun p hp' z=>nfp b hb (z ▸ hp p (by
   have q:p∈([]:List (Addr × Obj))++ pl:=hp';simpa using q))⟩
 have dX:D≠X'.env.locals:=(ok'.exf D List.mem_cons_self).1;have dF:D ∉ X'.fs:=ok'.exfs D List.mem_cons_self;refine Dr (fun n s'=> ∃ i ys its H',Inv X' [] (YV ([x1,x2]:List Str).length ix U) H' s'/\tn i s'.heap/\(∀ b∈fp,H' b=none)/\H' D=none/\s'.heap.PlainList D (List.toArray its)/\Vals ys its/\W i n ys H') ?_ (hs2 _) m0
  ⟨0, [], [],H2,I4,st4,fun b hb=>(B.f2 b hb).1,B.fD.1,lD, .nil,w0⟩
 rintro n s5 ⟨i,ys,its,H5,I5,st5,fr5,d5,⟨nn,l5⟩,v5,w5⟩;obtain ⟨hz,hcase⟩:=turn i n ys H5 w5
 let oD:Obj:={cls:= .type "list",data:= .seq its.toArray nn}
 have onlyD:∀ p∈ [((D,oD):Addr × Obj)],p.1=D:=fun p hp=>by
  have e:p=(D,oD):=by simpa using hp
  rw [e]
 have I5':Inv X' [(D,oD)] (YV ([x1,x2]:List Str).length ix U) H5 s5:=I5.pins_of fun p hp=>by
  have e:p=(D,oD):=by simpa using hp
  subst e;exact ⟨l5,d5,dX,dF,fun v z=>nomatch z⟩
 rcases hcase with ⟨stop,qn⟩ | ⟨go,step⟩
 .refine thn (T.done X' rfl rfl rfl hc i _ s5 _ H5 _ I5' (fp' onlyD fr5) st5 stop) fun r s6 ⟨hr,I6⟩=>?_
  subst hr;obtain ⟨z1,z2,z3,nD⟩:=B.stop I6 hz v5 rfl;exact fin s6 H5 ys z1 z2 z3 (qn D nD)
 .refine thn (T.item X' rfl rfl rfl hc i _ s5 _ H5 _ I5' (fp' onlyD fr5) st5 go) fun r s6 ⟨u,hr,h6⟩=>?_
  subst hr;refine thn h6 fun _ s7 ⟨x,H7,I7,r7,y7,st7,fr7⟩=>?_;have I7':=I7.pinned (fp' onlyD fr7) (T.obj _ _ st7);refine thn (hg cl C (D::fp) s3 H2 _ s7 _ H7 x u _ I7' r7 (hgk _ _ _ _ (Kw (Q:=In2 wi2 te W i n ys) (step x H7 y7)))) fun _ s8 ⟨σ8,H8,I8,q8,l8,k8⟩=>?_;have e8:σ8=(YV ([x1,x2]:List Str).length ix U).set 0 (some x):=by exact q8.2
  replace q8:=q8.1;refine thn (hi2 cl C (D::fp) s3 H2 _ s8 σ8 H8 _ I8 q8) fun v9 s9 h9=>thn h9 fun jv s10 h10=>?_;obtain ⟨it2,fp2,tn2,J2,H10,ej,I10,T2,st10,f10,W2,⟨m20,w20⟩,turn2⟩:=h10;subst ej;rw [Around.mark_none];obtain ⟨gD0,nD0,_⟩:=I10.pin (D,oD) (by simp);have n2D:∀ b∈fp2,b≠D:=fun b hb z=>(f10 b hb).2.2.2.2.2 (D,oD) (by simp) z.symm
  have cut:∀ {H9:Hp}{σ9:St}{s9:Shared}{more:List (Addr × Obj)},Inv X' (([(D,oD)]++ Z1 fp s7.heap)++ more) σ9 H9 s9->Inv X' (Z1 fp s7.heap) σ9 H9 s9:=fun {H9 σ9 s9 more} I9=>
   I9.pins_of fun p hp=>I9.pin p (List.mem_append_right _ (List.mem_append_left _ (List.mem_append_right _ hp)))
  have pinNe:∀ p∈X'.pn++ Z1 fp s7.heap,p.1≠D:=fun p hp=>by
   have q:p∈([]:List (Addr × Obj))++ Z1 fp s7.heap:=hp;exact nfp _ (J0 (by simpa using q)).1
  have fpP:∀ {H9:Hp}{o9:Obj},(∀ b∈fp2,H9 b=none)->∀ b∈fp2,Vh X' ([(D,o9)]++ Z1 fp s7.heap) H9 b:=fun {H9 o9} hn b hb=>by
   obtain ⟨_,k1,k2,k3,k4,k5⟩:=f10 b hb;refine ⟨hn b hb,k1,k2,k3,k4,fun p hp=>?_⟩
   have hp':p=(D,o9) \/ p∈Z1 fp s7.heap:=by
    have q:p∈([]:List (Addr × Obj))++ ([(D,o9)]++ Z1 fp s7.heap):=hp;simpa using q
   rcases hp' with rfl | hp'
   .exact (n2D b hb).symm
   .exact k5 p (by
     show p∈([]:List (Addr × Obj))++ ([(D,oD)]++ Z1 fp s7.heap);simp [hp'])
  let R2:Result->Shared->Prop:=fun r s6=>match r with
   | .ok _=> ∃ m,m < n/\∃ i ys its H',Inv X' [] (YV ([x1,x2]:List Str).length ix U) H' s6/\tn i s6.heap/\(∀ b∈fp,H' b=none)/\H' D=none/\s6.heap.PlainList D (List.toArray its)/\Vals ys its/\W i m ys H'
   | .error _=>False
  have inner:∀ (sA:Shared),(Inv X' (Z1 fp s7.heap) σ8 H10 sA/\tn2 0 sA.heap/\sA.heap.PlainList D (List.toArray its))->codeAny (model X.prog X.w) X.A (.compLoop (two elt (.Name x1 p1) iter (.Name x2 p2) iter2 scope pos) 1 (.ref it2) (.ref D) (compEnvC scope cl C X.env)) R2 sA:=fun sA hA=>by
   refine Ee (fun k s'=> ∃ j zs us H',Inv X' (Z1 fp s7.heap) σ8 H' s'/\tn2 j s'.heap/\(∀ b∈fp2,H' b=none)/\H' D=none/\s'.heap.PlainList D (List.toArray us)/\Vals zs us/\W2 j k zs H') ?_ m20
    ⟨0,ys,its,H10,hA.1,hA.2.1,fun b hb=>(f10 b hb).1,nD0,hA.2.2,v5,w20⟩
   rintro k sB ⟨j,zs,us,HB,IB,stB,frB,dB,⟨nB,lB⟩,vB,wB⟩;obtain ⟨hzB,hcB⟩:=turn2 j k zs HB wB
   let oB:Obj:={cls:= .type "list",data:= .seq us.toArray nB}
   have IB':Inv X' ([(D,oB)]++ Z1 fp s7.heap) σ8 HB sB:=IB.pins_of fun p hp=>by
    rcases List.mem_append.mp hp with here | there
    .have e:p=(D,oB):=by simpa using here
     subst e;exact ⟨lB,dB,dX,dF,fun v z=>nomatch z⟩
    .exact IB.pin p (List.mem_append_right _ there)
   rcases hcB with ⟨stop2,m',hm',wO⟩ | ⟨go2,step2⟩
   .refine thn (T2.done X' rfl rfl rfl hc j _ sB _ HB _ IB' (fpP frB) stB stop2) fun r sC ⟨hr,IC⟩=>?_
    subst hr
    obtain ⟨gC,nC,_⟩:=IC.pin (D,oB) (by
     show (D,oB)∈([]:List (Addr × Obj))++ ([(D,oB)]++ Z1 fp s7.heap);simp)
    have IC':Inv X' (Z1 fp s7.heap) σ8 HB sC:=IC.pins_of fun p hp=>IC.pin p (List.mem_append_right _ (List.mem_append_right _ hp));refine ⟨m',hm',i + 1,zs,us,HB,?_,?_,?_,nC,⟨nB,gC⟩,vB,wO⟩
    .refine Inv.weak (IC'.pins_of (pins':= []) fun p hp=>nomatch hp) (by rw [l8]) fun j v hj=>?_
     by_cases hlt:j < ([x1,x2]:List Str).length
     .unfold YV at hj
      rw [List.getElem?_append_left (by simpa using hlt),List.getElem?_replicate,if_pos hlt] at hj;cases hj
     .have e:σ8[j]?=(YV ([x1,x2]:List Str).length ix U)[j]?:=by
       have q:=congrArg (fun l:List (Option V)=>l[j - ([x1,x2]:List Str).length]?) k8;simp only [List.getElem?_drop] at q
       rwa [Nat.add_sub_cancel' (Nat.le_of_not_lt hlt)] at q
      rw [e];exact hj
    .exact T.keep _ _ _ st7 fun b hb o e=>(IC'.pin (b,o) (List.mem_append_right _ (YU hb e))).1
    .intro b hb
     obtain ⟨o,e,d⟩:=T.obj _ _ st7 b hb;exact (IC'.pin (b,o) (List.mem_append_right _ (YU hb e))).2.1
   .refine thn (T2.item X' rfl rfl rfl hc j _ sB _ HB _ IB' (fpP frB) stB go2) fun r sC ⟨u2,hr,hC6⟩=>?_
    subst hr;refine thn hC6 fun _ sD ⟨y2,HD,ID,rD,yD,stD,frD⟩=>?_;have ID':=ID.pinned (fpP frD) (T2.obj _ _ stD);refine thn (hg2 cl C (D::fp) s3 H2 _ sD _ HD y2 u2 _ ID' rD (Kw (Q:=fun U H=>te U H fun v H6=> ∃ m2',m2' < k/\W2 (j + 1) m2' (zs++ [v]) H6) (step2 y2 HD yD))) fun _ sE ⟨σE,HE,IE,qE⟩=>?_;have eE:σE=σ8.set 1 (some y2):=by exact qE.2
    replace qE:=qE.1;refine thn (he cl C (D::fp) s3 H2 _ sE σE HE _ IE qE) fun yv sF ⟨yy,HF,IF,rF,m2',hm2',wF⟩=>?_
    obtain ⟨gD,nD,_⟩:=IF.pin (D,oB) (by
     show (D,oB)∈([]:List (Addr × Obj))++ (([(D,oB)]++ Z1 fp s7.heap)++ Z1 fp2 sD.heap);simp)
    have hlen:us.length=zs.length:=vB.length.symm;refine wpAny_list_append_plain (l:=D) (items:=us.toArray) ⟨nB,gD⟩ (fun h' hl' hs'=>?_) (by rw [List.size_toArray,hlen];exact Nat.le_of_lt hzB);have kp:∀ b o,b≠D->sF.heap.get? b=some o->h'.get? b=some o:=fun b o hb q=>(hs'.2 b hb).trans q;have IF':Inv X' (Z1 fp s7.heap) σE HF sF:=IF.pins_of fun p hp=>IF.pin p (List.mem_append_right _ (List.mem_append_left _ (List.mem_append_right _ hp)));have IG:Inv X' (Z1 fp s7.heap) σE HF {sF with heap:=h',toks:=sF.toks}:=IF'.turned (it:=D) kp nD dX (.inl List.mem_cons_self) (ok'.exf D List.mem_cons_self).2 pinNe
    have at2:∀ b∈fp2,∀ o,sD.heap.get? b=some o->sF.heap.get? b=some o/\HF b=none:=fun b hb o q=>by
     have z:=IF.pin (b,o) (List.mem_append_right _ (List.mem_append_right _ (YU hb q)));exact ⟨z.1,z.2.1⟩
    refine ⟨m2',hm2',j + 1,zs++ [yy],us++ [yv],HF,?_,?_,?_,nD,?_,vB.append (.cons rF .nil),wF⟩
    .refine Inv.weak IG (by rw [eE,List.length_set]) fun q v hq=>?_
     rw [eE]
     have ne1:q≠1:=fun z=>by
      subst z;rw [e8] at hq;simp [YV,List.getElem?_append] at hq
     rw [List.getElem?_set_ne (Ne.symm ne1)];exact hq
    .exact T2.keep _ _ _ stD fun b hb o q=>kp b o (n2D b hb) (at2 b hb o q).1
    .intro b hb
     obtain ⟨o,q,_⟩:=T2.obj _ _ stD b hb;exact (at2 b hb o q).2
    .have e:(us++ [yv]).toArray=us.toArray.push yv:=by simp
     rw [e];exact hl'
  have st0:Inv X' (Z1 fp s7.heap) σ8 H10 s10/\tn2 0 s10.heap/\s10.heap.PlainList D (List.toArray its):=⟨I10.pins_of fun p hp=>I10.pin p (List.mem_append_right _ (List.mem_append_right _ hp)),st10,⟨nn,gD0⟩⟩;exact RF (inner s10 st0) (T2.self _ 0 _ _ _ st10 (inner s10 st0))
theorem Yd(own:List Str)(ix:List Nat)(hi:PI X tg iter wi)(hgk:GK own.length g)(hg:∀ cl C fp s H,PG (Zu X (YB X own ix) scope cl C fp s H) tg g)(he:∀ cl C fp s H,PE (Zu X (YB X own ix) scope cl C fp s H) elt te)(hc:X.calm=true:=by rfl)(hkind:scope.kind= .function:=by rfl)(hok:Vs scope X.env.scope.names X.N ix=true:=by rfl)(hs:∀ x,foldedSetIterable iter X.env x=pure x:=by intro _;rfl):
  PE X (.ListComp elt [⟨tg,iter, [],0⟩] scope pos) (Kj own.length ix wi g te):=by
 intro pins s U H Q I h;rw [eval_ListComp];exact JF own ix hi hkind hok hs I h fun cl D C fp it tn J H2 s3 s5 B cw I4 st4 lD=>B.loop1 hc hgk hg he cw (fun s6 H5 ys z1 z2 z3 q=>Mo z1 z2 z3 q) I4 st4 lD
theorem Fw(own:List Str)(ix:List Nat)(hN:X.N.Nodup)(hi0:X.N[i0]?=some x0)(hx0:Loc X.env.scope x0)(hi:PI X tg iter wi)(hgk:GK own.length g)(hg:∀ cl C fp s H,PG (Zu X (YB X own ix) scope cl C fp s H) tg g)(he:∀ cl C fp s H,PE (Zu X (YB X own ix) scope cl C fp s H) elt te)(hc:X.calm=true:=by rfl)(hkind:scope.kind= .function:=by rfl)(hok:Vs scope X.env.scope.names X.N ix=true:=by rfl)(hsw:swapsWith (.ListComp elt [⟨tg,iter, [],0⟩] scope pos) (some (.Name x0 py)) spos.line X.env=pure true:=by rfl)(hf:X.fn x0=true \/ X.env.scope.names.lookup x0=some .local:=by first | exact .inl rfl | exact .inr rfl | assumption)(hs:∀ x,foldedSetIterable iter X.env x=pure x:=by intro _;rfl):
  PS X (.Assign [.Name x0 py] (.ListComp elt [⟨tg,iter, [],0⟩] scope pos) spos) (Re (Kj own.length ix wi g te) (Yi i0)):=by
 intro pins s U H D0 I h;exact Gy hsw (JF own ix hi hkind hok hs I h fun cl D C fp it tn J H2 s3 s5 B cw I4 st4 lD=>B.loop1 hc hgk hg he cw (fun s6 H5 ys z1 z2 z3 q=>Mn hN hi0 hx0 hf z1 z2 z3 q) I4 st4 lD)
theorem IK(own:List Str)(ix:List Nat)(hi:PI X tg iter wi)(hgk:GK own.length g)(hg:∀ cl C fp s H,PG (Zu X (YB X own ix) scope cl C fp s H) tg g)(hct:∀ cl C fp s H,PT (Zu X (YB X own ix) scope cl C fp s H) ct tc)(he:∀ cl C fp s H,PE (Zu X (YB X own ix) scope cl C fp s H) elt te)(hc:X.calm=true:=by rfl)(hkind:scope.kind= .function:=by rfl)(hok:Vs scope X.env.scope.names X.N ix=true:=by rfl)(hs:∀ x,foldedSetIterable iter X.env x=pure x:=by intro _;rfl):
  PE X (.ListComp elt [⟨tg,iter, [ct],0⟩] scope pos) (Bq own.length ix wi g tc te):=by
 intro pins s U H Q I h;rw [eval_ListComp];exact JF own ix hi hkind hok hs I h fun cl D C fp it tn J H2 s3 s5 B cw I4 st4 lD=>B.loopI hc hgk hg hct he cw (fun s6 H5 ys z1 z2 z3 q=>Mo z1 z2 z3 q) I4 st4 lD
theorem Xh(own:List Str)(ix:List Nat)(hN:X.N.Nodup)(hi0:X.N[i0]?=some x0)(hx0:Loc X.env.scope x0)(hi:PI X tg iter wi)(hgk:GK own.length g)(hg:∀ cl C fp s H,PG (Zu X (YB X own ix) scope cl C fp s H) tg g)(hct:∀ cl C fp s H,PT (Zu X (YB X own ix) scope cl C fp s H) ct tc)(he:∀ cl C fp s H,PE (Zu X (YB X own ix) scope cl C fp s H) elt te)(hc:X.calm=true:=by rfl)(hkind:scope.kind= .function:=by rfl)(hok:Vs scope X.env.scope.names X.N ix=true:=by rfl)(hsw:swapsWith (.ListComp elt [⟨tg,iter, [ct],0⟩] scope pos) (some (.Name x0 py)) spos.line X.env=pure true:=by rfl)(hf:X.fn x0=true \/ X.env.scope.names.lookup x0=some .local:=by first | exact .inl rfl | exact .inr rfl | assumption)(hs:∀ x,foldedSetIterable iter X.env x=pure x:=by intro _;rfl):
  PS X (.Assign [.Name x0 py] (.ListComp elt [⟨tg,iter, [ct],0⟩] scope pos) spos) (Re (Bq own.length ix wi g tc te) (Yi i0)):=by
 intro pins s U H D0 I h;exact Gy hsw (JF own ix hi hkind hok hs I h fun cl D C fp it tn J H2 s3 s5 B cw I4 st4 lD=>B.loopI hc hgk hg hct he cw (fun s6 H5 ys z1 z2 z3 q=>Mn hN hi0 hx0 hf z1 z2 z3 q) I4 st4 lD)
theorem IL(ix:List Nat)(hi:PI X (.Name x1 p1) iter wi)(hg:∀ cl C fp s H,PG (Zu X (YB X [x1,x2] ix) scope cl C fp s H) (.Name x1 p1) (Yi 0))(hi2:∀ cl C fp s H,PI (Zu X (YB X [x1,x2] ix) scope cl C fp s H) (.Name x2 p2) iter2 wi2)(hg2:∀ cl C fp s H,PG (Zu X (YB X [x1,x2] ix) scope cl C fp s H) (.Name x2 p2) (Yi 1))(he:∀ cl C fp s H,PE (Zu X (YB X [x1,x2] ix) scope cl C fp s H) elt te)(hc:X.calm=true:=by rfl)(hkind:scope.kind= .function:=by rfl)(hok:Vs scope X.env.scope.names X.N ix=true:=by rfl)(hs:∀ x,foldedSetIterable iter X.env x=pure x:=by intro _;rfl)(hs2:∀ env x,foldedSetIterable iter2 env x=pure x:=by intro _ _;rfl):
  PE X (.ListComp elt [⟨.Name x1 p1,iter, [],0⟩,⟨.Name x2 p2,iter2, [],0⟩] scope pos) (Br ix wi wi2 te):=by
 intro pins s U H Q I h;rw [eval_ListComp];exact JF [x1,x2] ix hi hkind hok hs I h fun cl D C fp it tn J H2 s3 s5 B cw I4 st4 lD=>B.loop2 hc hg hi2 hg2 he hs2 cw (fun s6 H5 ys z1 z2 z3 q=>Mo z1 z2 z3 q) I4 st4 lD
theorem Fx(ix:List Nat)(hN:X.N.Nodup)(hi0:X.N[i0]?=some x0)(hx0:Loc X.env.scope x0)(hi:PI X (.Name x1 p1) iter wi)(hg:∀ cl C fp s H,PG (Zu X (YB X [x1,x2] ix) scope cl C fp s H) (.Name x1 p1) (Yi 0))(hi2:∀ cl C fp s H,PI (Zu X (YB X [x1,x2] ix) scope cl C fp s H) (.Name x2 p2) iter2 wi2)(hg2:∀ cl C fp s H,PG (Zu X (YB X [x1,x2] ix) scope cl C fp s H) (.Name x2 p2) (Yi 1))(he:∀ cl C fp s H,PE (Zu X (YB X [x1,x2] ix) scope cl C fp s H) elt te)(hc:X.calm=true:=by rfl)(hkind:scope.kind= .function:=by rfl)(hok:Vs scope X.env.scope.names X.N ix=true:=by rfl)(hsw:swapsWith (.ListComp elt [⟨.Name x1 p1,iter, [],0⟩,⟨.Name x2 p2,iter2, [],0⟩] scope pos) (some (.Name x0 py)) spos.line X.env=pure true:=by rfl)(hf:X.fn x0=true \/ X.env.scope.names.lookup x0=some .local:=by first | exact .inl rfl | exact .inr rfl | assumption)(hs:∀ x,foldedSetIterable iter X.env x=pure x:=by intro _;rfl)(hs2:∀ env x,foldedSetIterable iter2 env x=pure x:=by intro _ _;rfl):
  PS X (.Assign [.Name x0 py] (.ListComp elt [⟨.Name x1 p1,iter, [],0⟩,⟨.Name x2 p2,iter2, [],0⟩] scope pos) spos) (Re (Br ix wi wi2 te) (Yi i0)):=by
 intro pins s U H D0 I h;exact Gy hsw (JF [x1,x2] ix hi hkind hok hs I h fun cl D C fp it tn J H2 s3 s5 B cw I4 st4 lD=>B.loop2 hc hg hi2 hg2 he hs2 cw (fun s6 H5 ys z1 z2 z3 q=>Mn hN hi0 hx0 hf z1 z2 z3 q) I4 st4 lD)
end
theorem WP(n:Nat)(Pv:Nat->List V->Hp->Prop)(h0:Pv 0 [] H)(hlen:∀ i vs H,Pv i vs H->vs.length < sizeLine)(hgo:∀ i vs H,i < n->Pv i vs H->J.go i H)(hstop:∀ vs H,Pv n vs H->J.stop n H)(hs:∀ i vs H x H' (R:List V->Hp->Prop),i < n->Pv i vs H->J.yld i H x H'->(∀ zs H3,Pv (i + 1) zs H3->R zs H3)->wi2 (s0.set 0 (some x)) H' fun J2 H3=> ∃ W2:Nat->Nat->List V->Hp->Prop,(∃ m2,W2 0 m2 vs H3)/\∀ j m2 zs H4,W2 j m2 zs H4->
   zs.length < sizeLine/\((J2.stop j H4/\R zs H4) \/ (J2.go j H4/\∀ y H5,J2.yld j H4 y H5->te ((s0.set 0 (some x)).set 1 (some y)) H5 fun v H6=> ∃ m2',m2' < m2/\W2 (j + 1) m2' (zs++ [v]) H6)))(hd:∀ vs H p,Pv n vs H->H p=none->Q (.ref p) (upd H p (.lst vs))):My J wi2 te s0 Q H:=by
 refine ⟨fun i m vs H=>m=n - i/\i<=n/\Pv i vs H,⟨n,by simp,Nat.zero_le _,h0⟩,fun i m vs H z=>?_⟩;obtain ⟨rfl,hi,p⟩:=z;refine ⟨hlen i vs H p,?_⟩;rcases Nat.lt_or_ge i n with hlt | hge
 .exact .inr ⟨hgo i vs H hlt p,fun x H' y=>hs i vs H x H' _ hlt p y fun zs H3 p3=>⟨n - (i + 1),by omega,rfl,hlt,p3⟩⟩
 .have e:i=n:=by omega
  subst e;exact .inl ⟨hstop vs H p,fun b hb=>hd vs H b p hb⟩
theorem RG{J2:It}{te:TE}{s1:St}{R:List V->Hp->Prop}(n:Nat)(Pv:Nat->List V->Hp->Prop)(h0:Pv 0 ys H3)(hlen:∀ j zs H,Pv j zs H->zs.length < sizeLine)(hgo:∀ j zs H,j < n->Pv j zs H->J2.go j H)(hstop:∀ zs H,Pv n zs H->J2.stop n H)(hs:∀ j zs H y H' (T:V->Hp->Prop),j < n->Pv j zs H->J2.yld j H y H'->(∀ v H6,Pv (j + 1) (zs++ [v]) H6->T v H6)->te (s1.set 1 (some y)) H' T)(hd:∀ zs H,Pv n zs H->R zs H):
  ∃ W2:Nat->Nat->List V->Hp->Prop,(∃ m2,W2 0 m2 ys H3)/\∀ j m2 zs H4,W2 j m2 zs H4->
   zs.length < sizeLine/\((J2.stop j H4/\R zs H4) \/ (J2.go j H4/\∀ y H5,J2.yld j H4 y H5->te (s1.set 1 (some y)) H5 fun v H6=> ∃ m2',m2' < m2/\W2 (j + 1) m2' (zs++ [v]) H6)):=by
 refine ⟨fun j m zs H=>m=n - j/\j<=n/\Pv j zs H,⟨n,by simp,Nat.zero_le _,h0⟩,fun j m zs H z=>?_⟩;obtain ⟨rfl,hi,p⟩:=z;refine ⟨hlen j zs H p,?_⟩;rcases Nat.lt_or_ge j n with hlt | hge
 .exact .inr ⟨hgo j zs H hlt p,fun y H5 yl=>hs j zs H y H5 _ hlt p yl fun v H6 p6=>⟨n - (j + 1),by omega,rfl,hlt,p6⟩⟩
 .have e:j=n:=by omega
  subst e;exact .inl ⟨hstop zs H p,hd zs H p⟩
end L2
namespace L2
open PySem PySem.Spec PyProof.Rows
section
def LQ(K:W.Frag):List V->Hp->VK->Prop:=fun xs H Q=> ∃ x T t b,xs= [x, .ty T]/\UR K H x t/\W.kitOne K t (.type T)=some b/\Q (.bl b) H
theorem E9:Y9 X (.builtin "isinstance") (LQ X.K):=by
 intro pins s U H xs us Q I r h;obtain ⟨x,T,t,b,rfl,ty,e,q⟩:=h;obtain ⟨u,w',rfl,ru,rw'⟩:=vals2 r;cases rw';exact BP I ru ty e fun tk=>⟨.bl b,H,I.tok _,rfl,q⟩
theorem Wc:∀ {ys:List Str}{us:List Value},Vals (ys.map V.str) us->StrsAre us ys
 | [],_,r=>by cases r;exact .nil
 | y::ys,_,r=>by
  cases r with
  | cons h t=>
   obtain ⟨tk,e⟩:=h;subst e;exact .cons _ _ (Wc t)
def rJoin(K:W.Frag):V->List V->Hp->VK->Prop:=fun x vs H Q=> ∃ z p ys,x= .str z/\vs= [.ref p]/\SqL K H p (ys.map V.str)/\(ys.map (·.length)).sum + ys.length * z.length<=16777216/\Q (.str (Txt.join z ys)) H
theorem Ii:MtR X "str.join" (rJoin X.K):=by
 intro pins s U H x vs v us Q I rx rv h;obtain ⟨z,p,ys,rfl,rfl,hq,hz,q⟩:=h;obtain ⟨t,rfl⟩:=rx;obtain ⟨u,rfl,ru⟩:=vals1 rv;cases ru;obtain ⟨its,r,pl,hl⟩:=I.list hq;exact join_list pl.isList (by simpa using Wc r) hz fun t' k=>⟨.str _,H,I.tok _,⟨_,rfl⟩,q⟩
def LR:V->List V->Hp->VK->Prop:=fun x vs H Q=> ∃ z y i rest,x= .str z/\vs= [.str y]/\Builtin.Str.occurrences z y 0 z.length 1=i::rest/\Q (.int (i:Nat)) H
theorem EW:MtR X "str.index" LR:=by
 intro pins s U H x vs v us Q I rx rv h;obtain ⟨z,y,i,rest,rfl,rfl,ho,q⟩:=h;obtain ⟨t,rfl⟩:=rx;obtain ⟨u,rfl,t',rfl⟩:=vals1 rv;exact SC.index ho ⟨.int _,H,I.tok _,⟨_,rfl⟩,q⟩
def O3:V->Option Int->Option Int->Hp->VK->Prop:=fun x lo hi H Q=> ∃ z,x= .str z/\z.length<=sizeLine/\Q (.str (Txt.slice z lo hi)) H
theorem Xz:SlR X O3:=by
 intro pins s U H x v vl vu lo hi sl Q I rx hs pl pu h;obtain ⟨z,rfl,hz,q⟩:=h;obtain ⟨t,rfl⟩:=rx;refine ⟨"str",_,F.slot_str_getitem.lookup,typeIs_str _ _ _,?_⟩
 have fin:∀ (l u:Option (Int × Tok)),l.map (·.1)=lo->u.map (·.1)=hi->s.heap.IsSlice sl l u none->wpAny (model X.prog X.w) X.A (getItem (.str z t) (.ref sl)) (EP X pins U Q) X.xe s:=fun l u el eu hsl=>by
  subst el;subst eu;exact wpAny_getItem_str_slice hsl rfl (post_val_or_str ⟨Nat.le_trans (Txt.slice_le z (l.map (·.1)) (u.map (·.1))) hz,fun t' k=>⟨.str _,H,I.tok _,⟨_,rfl⟩,q⟩⟩)
 obtain ⟨o,h1,h2,h3⟩:=hs
 cases pl with
 | none=>
  cases pu with
  | none=>exact fin none none rfl rfl ⟨o,h1,h2,h3⟩
  | int j tj=>exact fin none (some (j,tj)) rfl rfl ⟨o,h1,h2,h3⟩
 | int i ti=>
  cases pu with
  | none=>exact fin (some (i,ti)) none rfl rfl ⟨o,h1,h2,h3⟩
  | int j tj=>exact fin (some (i,ti)) (some (j,tj)) rfl rfl ⟨o,h1,h2,h3⟩
theorem XA:∀ {bs:List Bool}{us:List Value},Vals (bs.map V.bl) us->∀ (i:Nat) (v:Value),us[i]?=some v->∃ b,bs[i]?=some b/\v= .bool b
 | [],_,r,i,v,e=>by cases r;simp at e
 | b::bs,_,r,i,v,e=>by
  cases r with
  | cons h t=>
   cases i with
   | zero=>
    have e':some _=some v:=e;cases e';exact ⟨b,rfl,h⟩
   | succ j=>exact XA t j v e
theorem all_range:∀ (bs:List Bool),((List.range bs.length).all fun i=>(bs[i]?).getD true)=bs.all id:=fun bs=>by
 have e:((List.range bs.length).map fun i=>(bs[i]?).getD true)=bs:=List.ext_getElem (by simp) fun i h1 h2=>by simp [h2]
 have z:=List.all_map (l:=List.range bs.length) (f:=fun i=>(bs[i]?).getD true) (p:=id);rw [e] at z;exact z.symm
theorem RS(hc:X.calm=true):Y9 X (.builtin "all") (fun xs H Q=> ∃ (p:Addr) (bs:List Bool),xs= [.ref p]/\SqL X.K H p (bs.map V.bl)/\Q (.bl (bs.all id)) H):=by
 intro pins s U H xs us Q I r h;obtain ⟨p,bs,rfl,hq,q⟩:=h;obtain ⟨u,rfl,ru⟩:=vals1 r;cases ru;obtain ⟨its,r',pl,hz⟩:=I.list hq
 have hp:p < s.heap.objs.size:=by
  obtain ⟨o,n,e,_⟩:=pl;exact Heap.lt_size e
 have hlen:its.length=bs.length:=by
  have:=r'.length;rw [List.length_map] at this;exact this.symm
 refine call_all_walk (wpAny_pyIter_list pl.isList ?_);refine ⟨s.heap.objs.size,_,_,its.toArray.size,_,_,fun i=>(bs[i]?).getD true,rfl,Walks.list (A:=X.A.in1) (I.ok.hd hc) _ p (Nat.ne_of_lt hp) its.toArray,?_,?_,?_⟩
 .exact ⟨⟨_,Heap.get?_push_size _ rfl,rfl,rfl⟩,pl.isList.push _⟩
 .intro i v s' Q' E' hP hQ
  obtain ⟨b,e,rfl⟩:=XA r' i v (by simpa using hP);have hb:(bs[i]?).getD true=b:=by rw [e];rfl
  exact wpAny_truthy_bool (hb ▸ hQ)
 .intro h' tk hk
  rw [List.size_toArray,hlen,all_range];refine ⟨.bl (bs.all id),H,I.kept fun b o e=>hk b o (fun hm=>?_) (Heap.get?_push_of_some _ e),rfl,q⟩;have e':b=s.heap.objs.size:=by simpa using hm
  rw [e'] at e;exact Nat.lt_irrefl _ (Heap.lt_size e)
theorem JZ:∀ {xs:List V}{us:List Value},xs.length=us.length->(∀ (j:Nat) (x:V) (u:Value),xs[j]?=some x->us[j]?=some u->RelV x u)->Vals xs us
 | [], [],_,_=> .nil
 | [],_::_,h,_=>absurd h (by simp)
 | _::_, [],h,_=>absurd h (by simp)
 | x::xs,u::us,h,hr=> .cons (hr 0 x u rfl rfl) (JZ (by simpa using h) fun j a b e1 e2=>hr (j + 1) a b e1 e2)
theorem Js(hc:X.calm=true):Y9 X (.type "list") (fun xs H Q=> ∃ a kvs,xs= [.ref a]/\H a=some (.dK kvs)/\∀ l,H l=none->Q (.ref l) (upd H l (.lst (kvs.map fun kv=>kV kv.1)))):=by
 intro pins s U H xs us Q I r h;obtain ⟨a,kvs,rfl,ha,q⟩:=h;obtain ⟨u,rfl,ru⟩:=vals1 r;cases ru;obtain ⟨hz,lo,vs,rv,hd⟩:=E4 I.hok ha;obtain ⟨ep,hat⟩:=hd.dictAt;have hlen:=rv.length;refine W.kdl_call (W.kdl_dict (knd:=Zq X.prog X.w) (kvs:=vs) (ep:=ep) lo) (I.ok.hd hc) hat (by rw [<-hlen];exact hz) fun h' tk acc c hk hl hacc=>?_;refine ⟨.ref s.heap.objs.size,_,I.laid (o:= .lst (kvs.map fun kv=>kV kv.1)) hk (Nat.le_refl _) ⟨by rw [List.length_map];exact hz,acc.toList,c,?_,by rw [Array.toArray_toList];exact hl⟩,rfl,q _ (I.hok.fresh (Nat.le_refl _))⟩;obtain ⟨hn,hp⟩:=hacc;refine JZ (by simp [hn,hlen]) fun j x u e1 e2=>?_;obtain ⟨k,y,hy,hk'⟩:=hp j u (by rw [<-Array.getElem?_toList];exact e2);rw [List.getElem?_map] at e1
 cases hkv:kvs[j]? with
 | none=>rw [hkv] at e1;cases e1
 | some kv=>
  rw [hkv] at e1;cases e1;have hkeys:=rv.keys;have e3:(kvs.map (·.1))[j]?=(vs.map (·.1))[j]?:=by rw [hkeys]
  rw [List.getElem?_map,List.getElem?_map,hkv,hy] at e3;have e4:kv.1=k:=Option.some.inj e3;have hk2:Y0 kv.1 u=true:=by rw [e4];exact hk'
  rcases Z4 hk2 with ⟨i,t,e5,e6⟩ | ⟨z,t,e5,e6⟩
  .show RelV (kV kv.1) u
   rw [e5,e6];exact ⟨t,rfl⟩
  .show RelV (kV kv.1) u
   rw [e5,e6];exact ⟨t,rfl⟩
end
end L2
namespace L2
open PySem PySem.Spec PyProof.Rows
section
structure Tg(H:Hp)(ea C:Addr)(dx:Option Addr):Prop where
 at_:H ea=some (Uh ea C dx)
 dict:∀ d,dx=some d->∃ o,H d=some o
theorem Inv.inst(I:Inv X pins U H s)(c:Tg H ea C dx):∃ ox odo,W.InstAt s.heap ea ox C odo:=by
 obtain ⟨⟨ox,e1,e2,e3,e4⟩,_⟩:=(show Z5 X.prog X.w H s.heap ea (Uh ea C dx) from I.hok ea _ c.at_)
 cases hd:dx with
 | none=>exact ⟨ox,none,e1,e2,e3,by rw [e4,hd];trivial⟩
 | some d=>
  obtain ⟨o,ho⟩:=c.dict d hd;obtain ⟨u,hu⟩:=(I.hok d o ho).ex;exact ⟨ox,some u,e1,e2,e3,by rw [e4,hd];exact hu⟩
theorem Wd:∀ {Cs:List Addr}{us:List Value},Vals (Cs.map V.ref) us->us=Cs.map Value.ref
 | [],_,r=>by cases r;rfl
 | _::_,_,r=>by
  cases r with
  | cons h t=>
   have e:_=Value.ref _:=h;rw [e,Wd t];rfl
def NI(K:W.Frag):List V->Hp->VK->Prop:=fun xs H Q=> ∃ (ea C:Addr) (dx:Option Addr) (c:V) (b:Bool),xs= [.ref ea,c]/\Tg H ea C dx/\W.ExcC K C/\
 ((∃ (tp:Addr) (Cs:List Addr),c= .ref tp/\H tp=some (.tup (Cs.map V.ref))/\W.kitAny K (.ref C) (Cs.map Value.ref)=some b) \/ (∃ N,c= .ref N/\W.kitOne K (.ref C) (.ref N)=some b) \/ (∃ T,c= .ty T/\W.kitOne K (.ref C) (.type T)=some b))/\Q (.bl b) H
theorem U8:Y9 X (.builtin "isinstance") (NI X.K):=by
 intro pins s U H xs us Q I r h;obtain ⟨ea,C,dx,c,b,rfl,hc,hC,hk,q⟩:=h;obtain ⟨u,w',rfl,ru,rw'⟩:=vals2 r;cases ru;obtain ⟨ox,odo,IA⟩:=I.inst hc;have fin:∀ tk,EP X pins U Q (.bool b) {s with toks:=tk}:=fun tk=>⟨.bl b,H,I.tok _,rfl,q⟩;rcases hk with ⟨tp,Cs,rfl,ht,e⟩ | ⟨N,rfl,e⟩ | ⟨T,rfl,e⟩
 .cases rw'
  obtain ⟨_,its,rv,o,h1,h2,h3,n,h4⟩:=(show Z5 X.prog X.w H s.heap tp (.tup (Cs.map V.ref)) from I.hok tp _ ht);rw [Wd rv] at h4;obtain ⟨oc,od,oda,osl⟩:=o;cases h3;cases h4;exact W.kia_tup (W.kitx_exc hC) I.kIn ⟨ox,odo,IA⟩ h1 e (fun z=>nomatch z) fin
 .cases rw'
  exact W.kia_one (W.kitx_exc hC) I.kIn ⟨ox,odo,IA⟩ e (fun z=>nomatch z) fin
 .cases rw'
  exact W.kia_one (W.kitx_exc hC) I.kIn ⟨ox,odo,IA⟩ e (fun z=>nomatch z) fin
end
section
variable{K:W.Frag}
theorem Fun.okX{st:Stmt}(F:Fun K x qual st f fd)(S:ZX N ps (ZL st))(len:∀ vs H Q E,sp vs H Q E->vs.length=ps.length)(hbody:∀ (cdv:Value) (A:Around) (outer:List Env) (s:Shared) (H:Hp) (vs:List V) (Q:VK) (E:XK),Ya k (A.deeper (envOfC qual (ZL st) s.heap.objs.size f cdv))->sp vs H Q E->
   ∃ t,PSs (Ys (CX1 P w) P w K mg base N qual (ZL st) f cdv A outer s H E) (VI st) t/\t {nx:=fun _ H'=>Q .non H',rt:=Q} (start N vs) H):ZN P w K mg base (CX1 P w) (k + 1) f fd ps sp:=by
 obtain ⟨oc,od,kV,doc,pm,an,cdv,ct,osl,rfl,lk,hcd⟩:=F.ex;exact Kx lk hcd S len fun A outer s H vs Q E hr hsp=>hbody cdv A outer s H vs Q E hr hsp
end
end L2
namespace L2
open PySem PySem.Spec PyProof.Rows
def SI(tp:Bool)(h:Heap)(i l:Addr)(k:Nat)(xs:Array Value):Prop:=match tp with
 | false=>h.IsListIter i l k/\h.IsList l xs
 | true=>h.IsTupleIter i l k/\h.IsTuple l xs
theorem SI.to(z:SI tp h i l k xs)(kp:∀ b o,(b=i \/ b=l)->h.get? b=some o->h'.get? b=some o):SI tp h' i l k xs:=by
 cases tp with
 | false=>exact ⟨let ⟨o,e,r⟩:=z.1;⟨o,kp _ _ (.inl rfl) e,r⟩,let ⟨o,e,r⟩:=z.2;⟨o,kp _ _ (.inr rfl) e,r⟩⟩
 | true=>exact ⟨let ⟨o,e,r⟩:=z.1;⟨o,kp _ _ (.inl rfl) e,r⟩,let ⟨o,e,r⟩:=z.2;⟨o,kp _ _ (.inr rfl) e,r⟩⟩
theorem SI.but(z:SI tp h i l k xs)(e:Heap.ExtBut b h h')(h1:i≠b)(h2:l≠b):SI tp h' i l k xs:=
 z.to fun c o hc q=>e c o (by rcases hc with hc | hc <;> rw [hc] <;> assumption) q
theorem M0{a b:Sem α}{Q:α->Shared->Prop}(hc:c=false)(h:wpAny M A b Q E s):wpAny M A (if c=true then a else b) Q E s:=by
 subst hc
 rwa [if_neg (by decide)]
section
theorem Xc(z:SI tp s.heap i l k xs)(ne:l≠i)(hx:xs[k]?=some x)(hQ:∀ g,SI tp g i l (k + 1) xs->Heap.SameBut i s.heap g->Q x {s with heap:=g}):wpAny (model prog w) A (Builtin.SmallTypes.nextOf (.ref i)) Q E s:=by
 cases tp with
 | false=>exact wpAny_nextOf_list_item z.1 z.2 hx fun g a sb=>hQ g ⟨a,z.2.extBut sb.extBut ne⟩ sb
 | true=>
  obtain ⟨z1,z2⟩:=z;obtain ⟨ob,hob,cob,dob⟩:=id z1;obtain ⟨ot,hot,_,nt,dt⟩:=id z2;have sn:=F.slot_tuple_iterator_next;simp only [Builtin.SmallTypes.nextOf];refine wpAny_bind (wpAny_callSpecial?_slot (name:=Str.ofString "__next__") z1.typeIs sn (wpAny_call_entry sn z1.typeIs F.entry_tuple_iterator_next ?_ (F.args_tuple_iterator_next_1 _)));refine wpAny_bind (m:=field (.ref i) 0) (wpAny_field hob dob (x:= .ref l) rfl (M0 (c:=Value.ref l== .none) rfl ?_));refine wpAny_bind (m:=field (.ref i) 1) (wpAny_field hob dob (x:= .int k 0) rfl (wpAny_bind (m:=seqItems? (.ref l)) (wpAny_seqItems hot dt ?_)));simp only [hx,Int.toNat_natCast];refine wpAny_bind (wpAny_setField hob dob (by simp) (wpAny_pure ⟨x,rfl,wpAny_pure (hQ _ ⟨?_,?_⟩ (Heap.SameBut.update ..))⟩))
  .refine ⟨_,Heap.get?_update_self _ hob (Obj.isFreed_of_fields (Obj.data_mapFields dob _)),(Obj.cls_mapFields ..).trans cob,?_⟩
   rw [Obj.data_mapFields dob];simp [rawInt]
  .exact z2.extBut (Heap.SameBut.update ..).extBut ne
theorem Rl(hh:A.handled=none)(z:SI tp s.heap i l k xs)(hx:xs[k]?=none)(hE:∀ g e,Heap.ExtBut i s.heap g->(∃ o,g.get? e=some o/\o.cls= .type "StopIteration")->E (.ref e) {s with heap:=g}):wpAny (model prog w) A (Builtin.SmallTypes.nextOf (.ref i)) Q E s:=by
 cases tp with
 | false=>exact wpAny_nextOf_list_end hh z.1 z.2 hx hE
 | true=>
  obtain ⟨z1,z2⟩:=z;obtain ⟨ob,hob,cob,dob⟩:=id z1;obtain ⟨ot,hot,_,nt,dt⟩:=id z2;have sn:=F.slot_tuple_iterator_next;simp only [Builtin.SmallTypes.nextOf];refine wpAny_bind (wpAny_callSpecial?_slot (name:=Str.ofString "__next__") z1.typeIs sn (wpAny_call_entry sn z1.typeIs F.entry_tuple_iterator_next ?_ (F.args_tuple_iterator_next_1 _)));refine wpAny_bind (m:=field (.ref i) 0) (wpAny_field hob dob (x:= .ref l) rfl (M0 (c:=Value.ref l== .none) rfl ?_));refine wpAny_bind (m:=field (.ref i) 1) (wpAny_field hob dob (x:= .int k 0) rfl (wpAny_bind (m:=seqItems? (.ref l)) (wpAny_seqItems hot dt ?_)));simp only [hx,Int.toNat_natCast];refine wpAny_bind (wpAny_rule (wpAny_bind (wpAny_setField hob dob (by simp) ?_)));refine wpAny_bind (m:=newExc (.type "StopIteration") []) ?_;simp only [newExc,newTuple];refine wpAny_bind (wpAny_newObj_type (wpAny_bind (m:=firstArgMember _ _) (wpAny_of_eq (a:= .none) (by simp only [firstArgMember];rfl) (wpAny_newObj_type ?_ (by size_fits)))) (by size_fits));have nh:A.in1.handled=none:=hh;simp only [raiseNew];refine wpAny_bind (wpAny_handled (?_));rw [nh];exact wpAny_bind (wpAny_pure (wpAny_throw (hE _ _ (((Heap.SameBut.update ..).extBut.push _).push _) ⟨_,Heap.get?_push_size _ rfl,rfl⟩)))
structure ZS(h:Heap)(z TI TO:Addr)(f0:Value)(t1:Bool)(i1 l1:Addr)(xs:Array Value)(t2:Bool)(i2 l2:Addr)(ys:Array Value)(k:Nat):Prop where
 zip:IsZip h z TI TO f0
 its:IsPair h TI (.ref i1) (.ref i2)
 out:∃ a b,IsPair h TO a b
 one:SI t1 h i1 l1 k xs
 two:SI t2 h i2 l2 k ys
theorem FM{z TI TO i1 i2 l1 l2:Addr}(D:ZipApart z TI TO i1 i2 l1 l2)(S:ZS s.heap z TI TO .none t1 i1 l1 xs t2 i2 l2 ys k)(hx:xs[k]?=some x)(hy:ys[k]?=some y)(hQ:∀ g,ZS g z TI TO (rawInt s.heap.objs.size) t1 i1 l1 xs t2 i2 l2 ys (k + 1)->IsPair g s.heap.objs.size x y->g.objs.size=s.heap.objs.size + 1->
   (∀ c o,c≠z->c≠TO->c≠i1->c≠i2->s.heap.get? c=some o->g.get? c=some o)->Q (some (.ref s.heap.objs.size)) {s with heap:=g}):wpAny (model prog w) A (pyNext (.ref z)) Q E s:=by
 have hT:s.TypeIs (.ref z) "zip" :=⟨_,S.zip,rfl⟩;obtain ⟨a,b,So⟩:=S.out;simp only [pyNext];refine wpAny_bind (wpAny_attempt (wpAny_callSpecial?_slot (name:=Str.ofString "__next__") hT F.slot_zip_next (wpAny_call_entry F.slot_zip_next hT F.entry_zip_next ?_ (F.args_zip_next_1 _))));refine wpAny_bind (m:=field (.ref z) 2) (wpAny_field S.zip rfl (x:= .bool false) rfl (wpAny_bind (m:=field (.ref z) 3) (wpAny_field S.zip rfl (x:= .ref TI) rfl (wpAny_bind (wpAny_seqItems S.its rfl ?_)))));refine wpAny_bind (m:=Builtin.SmallTypes.ownedTupleIsFree (.ref z)) (wpAny_bind (m:=field (.ref z) 0) (wpAny_field S.zip rfl (x:= .none) rfl (wpAny_pure ?_)));simp only [if_true];refine wpAny_bind (wpAny_rule (wpAny_bind (wpAny_field S.zip rfl (x:= .ref TO) rfl (wpAny_bind (wpAny_setField_rec S.zip (by simp) fun g1 z1 s1=>wpAny_bind ?_)))));replace z1:IsZip g1 z TI TO .ellipsis:=z1;simp only [List.forIn_cons,List.forIn_nil,List.zipIdx_cons,List.zipIdx_nil];refine wpAny_bind (wpAny_bind (wpAny_onRaise (?_:wpAny _ _ (Builtin.SmallTypes.nextOf (.ref i1) >>=_) _ _ _)));refine wpAny_bind (Xc (S.one.but s1.extBut D.i1z D.l1z) D.l1i1 hx fun g2 a2 s2=>wpAny_pure ?_);have o2:IsPair g2 TO a b:=s2.extBut _ _ D.TOi1 (s1.extBut _ _ D.TOz So);refine wpAny_bind (wpAny_seqItems o2 rfl ?_);refine wpAny_bind (wpAny_updateSeq_pair o2 fun g3 o3 s3=>?_);replace o3:IsPair g3 TO x b:=o3;refine wpAny_bind (wpAny_letGo (wpAny_pure (wpAny_bind (wpAny_bind (wpAny_onRaise (?_:wpAny _ _ (Builtin.SmallTypes.nextOf (.ref i2) >>=_) _ _ _))))));have b3:SI t2 g3 i2 l2 k ys:=((S.two.but s1.extBut D.i2z D.l2z).but s2.extBut D.i12.symm D.l2i1).but s3.extBut D.TOi2.symm D.l2TO;refine wpAny_bind (Xc b3 D.l2i2 hy fun g4 b4 s4=>wpAny_pure ?_);have o4:IsPair g4 TO x b:=s4.extBut _ _ D.TOi2 o3;refine wpAny_bind (wpAny_seqItems o4 rfl ?_);refine wpAny_bind (wpAny_updateSeq_pair o4 fun g5 o5 s5=>?_);replace o5:IsPair g5 TO x y:=o5;refine wpAny_bind (wpAny_letGo (wpAny_pure (wpAny_pure (wpAny_bind (wpAny_seqItems o5 rfl (wpAny_bind (wpAny_newTuple ?_)))))));have sz:g5.objs.size=s.heap.objs.size:=by rw [s5.1,s4.1,s3.1,s2.1,s1.1]
 have z5:IsZip g5 z TI TO .ellipsis:=s5.extBut _ _ D.TOz.symm (s4.extBut _ _ D.i2z.symm (s3.extBut _ _ D.TOz.symm (s2.extBut _ _ D.i1z.symm z1)))
 have k5:∀ c o,c≠z->c≠TO->c≠i1->c≠i2->s.heap.get? c=some o->g5.get? c=some o:=fun c o c1 c2 c3 c4 e=>
  s5.extBut _ _ c2 (s4.extBut _ _ c4 (s3.extBut _ _ c2 (s2.extBut _ _ c3 (s1.extBut _ _ c1 e))))
 have a5:SI t1 g5 i1 l1 (k + 1) xs:=((a2.but s3.extBut D.TOi1.symm D.l1TO).but s4.extBut D.i12 D.l1i2).but s5.extBut D.TOi1.symm D.l1TO;have b5:SI t2 g5 i2 l2 (k + 1) ys:=b4.but s5.extBut D.TOi2.symm D.l2TO;have zlt:z < g5.objs.size:=Heap.lt_size z5;show wpAny _ _ (Builtin.SmallTypes.ownedTupleHandOut (.ref z) (.ref g5.objs.size) >>=_) _ _ _;refine wpAny_bind ?_;simp only [Builtin.SmallTypes.ownedTupleHandOut];have z6:IsZip (g5.push {cls:= .type "tuple",data:= .seq #[x,y]}) z TI TO .ellipsis:=Heap.get?_push_of_some _ z5;refine wpAny_bind (wpAny_setField_rec z6 (by simp) fun g7 z7 s7=>?_);replace z7:IsZip g7 z TI TO (rawInt g5.objs.size):=z7;refine wpAny_setField_rec z7 (by simp) fun g8 z8 s8=>?_;replace z8:IsZip g8 z TI TO (rawInt g5.objs.size):=z8;have up:∀ c o,c≠z->g5.get? c=some o->g8.get? c=some o:=fun c o c1 e=>s8.extBut _ _ c1 (s7.extBut _ _ c1 (Heap.get?_push_of_some _ e));have t8:IsPair g8 g5.objs.size x y:=s8.extBut _ _ (Nat.ne_of_gt zlt) (s7.extBut _ _ (Nat.ne_of_gt zlt) (Heap.get?_push_size _ rfl));have sz8:g8.objs.size=g5.objs.size + 1:=by rw [s8.1,s7.1,Heap.size_push]
 rw [sz] at z8 t8 sz8;refine wpAny_pure ⟨_,rfl,wpAny_pure ?_⟩;show Q (some (.ref g5.objs.size)) _;rw [sz];refine hQ g8 ⟨z8,up _ _ D.TIz (k5 _ _ D.TIz D.TITO D.TIi1 D.TIi2 S.its),⟨_,_,up _ _ D.TOz o5⟩,?_,?_⟩ t8 sz8 fun c o c1 c2 c3 c4 e=>up c o c1 (k5 c o c1 c2 c3 c4 e)
 .exact a5.to fun c o hc e=>up c o (hc.elim (fun q=>q ▸ D.i1z) fun q=>q ▸ D.l1z) e
 .exact b5.to fun c o hc e=>up c o (hc.elim (fun q=>q ▸ D.i2z) fun q=>q ▸ D.l2z) e
theorem Kz{z TI TO i1 i2 l1 l2:Addr}(hh:A.handled=none)(D:ZipApart z TI TO i1 i2 l1 l2)(S:ZS s.heap z TI TO .none t1 i1 l1 xs t2 i2 l2 ys k)(hend:xs[k]?=none \/ ys[k]?=none)(hQ:∀ g,(∀ c o,c≠z->c≠TO->c≠i1->c≠i2->s.heap.get? c=some o->g.get? c=some o)->Q none {s with heap:=g}):wpAny (model prog w) A (pyNext (.ref z)) Q E s:=by
 have hT:s.TypeIs (.ref z) "zip" :=⟨_,S.zip,rfl⟩;obtain ⟨a,b,So⟩:=S.out;have stop:∀ (g:Heap) (e:Addr),(∀ c o,c≠z->c≠TO->c≠i1->c≠i2->s.heap.get? c=some o->g.get? c=some o)->(∃ o,g.get? e=some o/\o.cls= .type "StopIteration")->
   wpAny (model prog w) A (do if (<-isInstance (.ref e) (.type "StopIteration")) then pure none else throw (.ref e):Sem (Option Value)) Q E {s with heap:=g}:=fun g e kp ⟨o,ho,hc⟩=>
  wpAny_bind (wpAny_isInstance (T:="StopIteration") (b:=true) ⟨o,ho,hc⟩ isSubtype_stop (wpAny_pure (hQ g kp)))
 simp only [pyNext];refine wpAny_bind (wpAny_attempt (wpAny_callSpecial?_slot (name:=Str.ofString "__next__") hT F.slot_zip_next (wpAny_call_entry F.slot_zip_next hT F.entry_zip_next ?_ (F.args_zip_next_1 _))));refine wpAny_bind (m:=field (.ref z) 2) (wpAny_field S.zip rfl (x:= .bool false) rfl (wpAny_bind (m:=field (.ref z) 3) (wpAny_field S.zip rfl (x:= .ref TI) rfl (wpAny_bind (wpAny_seqItems S.its rfl ?_)))));refine wpAny_bind (m:=Builtin.SmallTypes.ownedTupleIsFree (.ref z)) (wpAny_bind (m:=field (.ref z) 0) (wpAny_field S.zip rfl (x:= .none) rfl (wpAny_pure ?_)));simp only [if_true];refine wpAny_bind (wpAny_rule (wpAny_bind (wpAny_field S.zip rfl (x:= .ref TO) rfl (wpAny_bind (wpAny_setField_rec S.zip (by simp) fun g1 z1 s1=>wpAny_bind ?_)))));replace z1:IsZip g1 z TI TO .ellipsis:=z1;simp only [List.forIn_cons,List.forIn_nil,List.zipIdx_cons,List.zipIdx_nil];refine wpAny_bind (wpAny_bind (wpAny_onRaise (?_:wpAny _ _ (Builtin.SmallTypes.nextOf (.ref i1) >>=_) _ _ _)))
 cases hx:xs[k]? with
 | none=>
  refine wpAny_bind (Rl hh (S.one.but s1.extBut D.i1z D.l1z) hx fun g2 e e2 he=>?_);obtain ⟨oe,hoe,hce⟩:=he;have z2:IsZip g2 z TI TO .ellipsis:=e2 _ _ D.i1z.symm z1;have hez:e≠z:=fun q=>by subst q;rw [z2] at hoe;cases hoe;simp at hce
  refine wpAny_setField_rec z2 (by simp) fun g3 _ s3=>?_;exact stop g3 e (fun c o c1 _ c3 _ q=>s3.extBut _ _ c1 (e2 _ _ c3 (s1.extBut _ _ c1 q))) ⟨oe,s3.extBut _ _ hez hoe,hce⟩
 | some x=>
  have hy:ys[k]?=none:=by rcases hend with q | q;rw [hx] at q;cases q;exact q
  refine wpAny_bind (Xc (S.one.but s1.extBut D.i1z D.l1z) D.l1i1 hx fun g2 a2 s2=>wpAny_pure ?_);have o2:IsPair g2 TO a b:=s2.extBut _ _ D.TOi1 (s1.extBut _ _ D.TOz So);refine wpAny_bind (wpAny_seqItems o2 rfl ?_);refine wpAny_bind (wpAny_updateSeq_pair o2 fun g3 o3 s3=>?_);refine wpAny_bind (wpAny_letGo (wpAny_pure (wpAny_bind (wpAny_bind (wpAny_onRaise (?_:wpAny _ _ (Builtin.SmallTypes.nextOf (.ref i2) >>=_) _ _ _))))));have b3:SI t2 g3 i2 l2 k ys:=((S.two.but s1.extBut D.i2z D.l2z).but s2.extBut D.i12.symm D.l2i1).but s3.extBut D.TOi2.symm D.l2TO;refine wpAny_bind (Rl hh b3 hy fun g4 e e4 he=>?_);obtain ⟨oe,hoe,hce⟩:=he;have z4:IsZip g4 z TI TO .ellipsis:=e4 _ _ D.i2z.symm (s3.extBut _ _ D.TOz.symm (s2.extBut _ _ D.i1z.symm z1));have hez:e≠z:=fun q=>by subst q;rw [z4] at hoe;cases hoe;simp at hce
  refine wpAny_setField_rec z4 (by simp) fun g5 _ s5=>?_;exact stop g5 e (fun c o c1 c2 c3 c4 q=>s5.extBut _ _ c1 (e4 _ _ c4 (s3.extBut _ _ c2 (s2.extBut _ _ c3 (s1.extBut _ _ c1 q))))) ⟨oe,s5.extBut _ _ hez hoe,hce⟩
def Wk(tp:Bool)(h:Heap)(l:Addr)(xs:Array Value):Prop:=match tp with
 | false=>h.IsList l xs
 | true=>h.IsTuple l xs
def VG(tp:Bool)(l:Addr):Obj:={cls:= .type (if tp then "tuple_iterator" else "list_iterator"),data:= .fields #[.ref l, .int 0 0]}
theorem XU(h:Wk tp s.heap l xs)(q:Q (.ref s.heap.objs.size) {s with heap:=s.heap.push (VG tp l)}):wpAny (model prog w) A (pyIter (.ref l)) Q E s:=by
 cases tp with
 | false=>exact wpAny_pyIter_list h q
 | true=>exact wpAny_pyIter_tuple h q
theorem Wk.push(z:Wk tp h l xs)(o:Obj):Wk tp (h.push o) l xs:=by
 cases tp with
 | false=>exact Heap.IsList.push z o
 | true=>exact Heap.IsTuple.push z o
end
abbrev zg1(h:Heap)(t1:Bool)(l1:Addr):Heap:=h.push (VG t1 l1)
abbrev zg2(h:Heap)(t1:Bool)(l1:Addr)(t2:Bool)(l2:Addr):Heap:=(zg1 h t1 l1).push (VG t2 l2)
abbrev zg3(h:Heap)(t1:Bool)(l1:Addr)(t2:Bool)(l2:Addr):Heap:=(zg2 h t1 l1 t2 l2).push {cls:= .type "tuple",data:= .seq #[.ref h.objs.size, .ref (zg1 h t1 l1).objs.size]}
abbrev zg4(h:Heap)(t1:Bool)(l1:Addr)(t2:Bool)(l2:Addr):Heap:=(zg3 h t1 l1 t2 l2).push {cls:= .type "tuple",data:= .seq #[.none, .none]}
abbrev zg5(h:Heap)(t1:Bool)(l1:Addr)(t2:Bool)(l2:Addr):Heap:=(zg4 h t1 l1 t2 l2).push {cls:= .type "zip",data:= .fields #[.none, .bool false, .bool false, .ref (zg2 h t1 l1 t2 l2).objs.size, .ref (zg3 h t1 l1 t2 l2).objs.size]}
theorem RW(t1 t2:Bool)(l1 l2:Addr)(xs ys:Array Value):
  Meets (Builtin.«zip.__new__» ⟨[.type "zip", .ref l1, .ref l2], []⟩) (fun _ R s=>Wk t1 s.heap l1 xs/\Wk t2 s.heap l2 ys/\
   R (.ok (.ret (.ref (zg4 s.heap t1 l1 t2 l2).objs.size))) {s with heap:=zg5 s.heap t1 l1 t2 l2}):=
 .of_wp fun prog w A R s h=>by
  obtain ⟨hp,g,d,tk,os⟩:=s;obtain ⟨h1,h2,h⟩:=h;have hsub:=sub_zip;have k1:Wk t1 (Shared.heap ⟨hp,g,d,tk,os⟩) l1 xs:=h1;have k2:Wk t2 (Shared.heap ⟨hp.push (VG t1 l1),g,d,tk,os⟩) l2 ys:=Wk.push h2 _
  wp_walk using XU k1,XU k2
  exact ⟨_,rfl,h⟩
end L2
namespace L2
open PySem PySem.Spec PyProof.Rows
def SJ(tp:Bool)(h:Heap)(i l:Addr)(k:Nat):Prop:=match tp with
 | false=>h.IsListIter i l k
 | true=>h.IsTupleIter i l k
theorem SJ.si(z:SJ tp h i l k)(c:Wk tp h l xs):SI tp h i l k xs:=by
 cases tp <;> exact ⟨z,c⟩
theorem SI.sj(z:SI tp h i l k xs):SJ tp h i l k:=by
 cases tp <;> exact z.1
theorem SJ.to(z:SJ tp h i l k)(kp:∀ o,h.get? i=some o->h'.get? i=some o):SJ tp h' i l k:=by
 cases tp with
 | false=>exact let ⟨o,e,r⟩:=z;⟨o,kp _ e,r⟩
 | true=>exact let ⟨o,e,r⟩:=z;⟨o,kp _ e,r⟩
theorem SJ.obj(z:SJ tp h i l k):∃ o,h.get? i=some o/\∀ v,o.data≠ .cell v:=by
 cases tp with
 | false=>obtain ⟨o,e,_,d⟩:=z;exact ⟨o,e,fun v q=>by rw [d] at q;cases q⟩
 | true=>obtain ⟨o,e,_,d⟩:=z;exact ⟨o,e,fun v q=>by rw [d] at q;cases q⟩
theorem SJ.new(tp:Bool)(h:Heap)(l:Addr):SJ tp (h.push (VG tp l)) h.objs.size l 0:=by
 cases tp <;> exact ⟨_,Heap.get?_push_size _ rfl,rfl,rfl⟩
structure ZR(h:Heap)(z TI TO:Addr)(t1:Bool)(i1 l1:Addr)(t2:Bool)(i2 l2:Addr)(k:Nat):Prop where
 zip:IsZip h z TI TO .none
 its:IsPair h TI (.ref i1) (.ref i2)
 out:∃ a b,IsPair h TO a b
 one:SJ t1 h i1 l1 k
 two:SJ t2 h i2 l2 k
section
theorem E8(h1:Wk t1 s.heap l1 xs)(h2:Wk t2 s.heap l2 ys)(h:∀ g,ZR g (s.heap.objs.size + 4) (s.heap.objs.size + 2) (s.heap.objs.size + 3) t1 s.heap.objs.size l1 t2 (s.heap.objs.size + 1) l2 0->
   (∀ c o,s.heap.get? c=some o->g.get? c=some o)->Q (.ref (s.heap.objs.size + 4)) {s with heap:=g}):wpAny (model prog w) A (call (.type "zip") [.ref l1, .ref l2]) Q E s:=by
 refine callType_new F.called_zip (by decide) (F.typeCall_zip_2 _ _) (F.newCall_zip_2 _ _) (fun obj=>F.args_object_init_3 obj _ _) F.entry_zip_new (RW t1 t2 l1 l2 xs ys) ⟨h1,h2,?_⟩;have e1:(zg1 s.heap t1 l1).objs.size=s.heap.objs.size + 1:=Heap.size_push ..;have e2:(zg2 s.heap t1 l1 t2 l2).objs.size=s.heap.objs.size + 2:=by rw [Heap.size_push,e1]
 have e3:(zg3 s.heap t1 l1 t2 l2).objs.size=s.heap.objs.size + 3:=by rw [Heap.size_push,e2]
 have e4:(zg4 s.heap t1 l1 t2 l2).objs.size=s.heap.objs.size + 4:=by rw [Heap.size_push,e3]
 have p5:(zg5 s.heap t1 l1 t2 l2).get? (zg4 s.heap t1 l1 t2 l2).objs.size=some _:=Heap.get?_push_size _ rfl;have p4:(zg5 s.heap t1 l1 t2 l2).get? (zg3 s.heap t1 l1 t2 l2).objs.size=some _:=Heap.get?_push_of_some _ (Heap.get?_push_size _ rfl);have p3:(zg5 s.heap t1 l1 t2 l2).get? (zg2 s.heap t1 l1 t2 l2).objs.size=some _:=Heap.get?_push_of_some _ (Heap.get?_push_of_some _ (Heap.get?_push_size _ rfl));have p2:SJ t2 (zg5 s.heap t1 l1 t2 l2) (zg1 s.heap t1 l1).objs.size l2 0:=(SJ.new t2 (zg1 s.heap t1 l1) l2).to fun o q=>Heap.get?_push_of_some _ (Heap.get?_push_of_some _ (Heap.get?_push_of_some _ q));have p1:SJ t1 (zg5 s.heap t1 l1 t2 l2) s.heap.objs.size l1 0:=(SJ.new t1 s.heap l1).to fun o q=>Heap.get?_push_of_some _ (Heap.get?_push_of_some _ (Heap.get?_push_of_some _ (Heap.get?_push_of_some _ q)));show _/\_;rw [e2,e3,e4] at p5;rw [e1,e2] at p3;rw [e3] at p4;rw [e1] at p2;rw [e4]
 exact ⟨⟨_,p5,rfl⟩,h _ ⟨p5,p3,⟨_,_,p4⟩,p1,p2⟩ fun c o q=>
  Heap.get?_push_of_some _ (Heap.get?_push_of_some _ (Heap.get?_push_of_some _ (Heap.get?_push_of_some _ (Heap.get?_push_of_some _ q))))⟩
end
def Sq(K:W.Frag)(tp:Bool)(H:Hp)(l:Addr)(xs:List V):Prop:=match tp with
 | false=>SqL K H l xs
 | true=>SqT K H l xs
theorem Inv.sq(I:Inv X pins U H s)(h:Sq X.K tp H l xs):∃ its:List Value,Vals xs its/\Wk tp s.heap l its.toArray:=by
 cases tp with
 | false=>
  obtain ⟨its,r,p,_⟩:=I.list h;exact ⟨its,r,p.isList⟩
 | true=>
  obtain ⟨its,r,p,_⟩:=I.tuple h;exact ⟨its,r,p⟩
theorem Inv.sq_inj(I:Inv X pins U H s)(h:Sq X.K tp H l xs)(h':Sq X.K tp H l ys):xs=ys:=by
 cases tp with
 | false=>exact I.list_inj h h'
 | true=>exact I.tuple_inj h h'
theorem Wk.lt(z:Wk tp h l xs):l < h.objs.size:=by
 cases tp with
 | false=>obtain ⟨_,e,_⟩:=z;exact Heap.lt_size e
 | true=>obtain ⟨_,e,_⟩:=z;exact Heap.lt_size e
def Itz(K:W.Frag)(t1:Bool)(l1:Addr)(t2:Bool)(l2:Addr):It:=
  ⟨fun i H=> ∃ xs ys x y,Sq K t1 H l1 xs/\Sq K t2 H l2 ys/\xs[i]?=some x/\ys[i]?=some y,
   fun i H v H'=> ∃ p x y,v= .ref p/\H p=none/\H'=upd H p (.tup [x,y])/\(∀ xs,Sq K t1 H l1 xs->xs[i]?=some x)/\∀ ys,Sq K t2 H l2 ys->ys[i]?=some y,
   fun i H=> ∃ xs ys,Sq K t1 H l1 xs/\Sq K t2 H l2 ys/\(xs.length<=i \/ ys.length<=i)⟩
end L2
namespace L2
open PySem PySem.Spec PyProof.Rows
theorem Bi:bootBuiltins "zip" =some (.type "zip"):=by decide +kernel
theorem Inv.turnedL{ch:List Addr}(I:Inv X pins U H s)(k:∀ b o,b ∉ ch->s.heap.get? b=some o->h'.get? b=some o)(f:∀ b∈ch,Vh X pins H b):
  Inv X pins U H {s with heap:=h',toks:=t'}:=by
 have ne:∀ b u,H b=some u->b ∉ ch:=fun b u e z=>by rw [(f b z).1] at e;cases e
 have nl:X.env.locals ∉ ch:=fun z=>(f _ z).2.1 rfl;refine I.step (g':=s.gens) (d':=s.drawn) (ch:=ch) (fun b hb=>⟨(f b hb).2.2.2.1,(f b hb).2.1,(f b hb).2.2.2.2.1,(f b hb).2.2.2.2.2⟩) (fun b o _ _ hc e _=>k b o hc e) (fun b o _ _ hc e _=>⟨o.slots,k b o hc e⟩) (fun _ _ _ _ n=>n)
  (fun b o hc e=>⟨o,k b o hc e⟩) (fun _ _ e=>e) (fun _ _ _ e=>e) (fun b ps e=>⟨#[],by rw [e];simp⟩) (fun m hm=>?_) (fun b u e=>?_) I.bare
 .obtain ⟨o,es,ep,ho,r⟩:=hm
  exact ⟨o,es,ep,k _ o nl ho,r⟩
 .refine (I.hok b u e).stay (fun c v hc q=>k c v ?_ q) (fun _ q=>q) fun _ _ q=>q
  rcases hc with z | z
  .rw [z];exact ne b u e
  .exact ne c _ z
theorem Oc{a b c d x:Addr}(h:x∈ [a,b,c,d]):x=a \/ x=b \/ x=c \/ x=d:=by simpa using h
theorem Bo{P:Program}{w:World}{K:W.Frag}{elts:List Expr}{x1}{pos:Pos}{z TI TO i1 i2 l1 l2:Addr}{t1 t2:Bool}(D:ZipApart z TI TO i1 i2 l1 l2):
  Turn P w K (.Tuple elts x1 pos) (Itz K t1 l1 t2 l2) [z,TO,i1,i2,TI] z (fun i h=>ZR h z TI TO t1 i1 l1 t2 i2 l2 i) where
 mem:=by simp
 obj:=fun i h st b hb=>by
  have q:b=z \/ b=TO \/ b=i1 \/ b=i2 \/ b=TI:=by simpa using hb
  rcases q with q | q | q | q | q <;> rw [q]
  .exact ⟨_,st.zip,fun v e=>nomatch e⟩
  .obtain ⟨a,b,e⟩:=st.out
   exact ⟨_,e,fun v e=>nomatch e⟩
  .exact st.one.obj
  .exact st.two.obj
  .exact ⟨_,st.its,fun v e=>nomatch e⟩
 keep:=fun i h h' st k=>⟨k z (by simp) _ st.zip,k TI (by simp) _ st.its,let ⟨a,b,e⟩:=st.out;⟨a,b,k TO (by simp) _ e⟩,st.one.to fun o e=>k i1 (by simp) o e,st.two.to fun o e=>k i2 (by simp) o e⟩
 item:=by
  intro X hP hw hK hc i pins s U H E I hf st hg;subst hP hw hK;obtain ⟨xs,ys,x,y,q1,q2,hx,hy⟩:=hg;obtain ⟨its1,r1,w1⟩:=I.sq q1;obtain ⟨its2,r2,w2⟩:=I.sq q2;obtain ⟨u1,hu1,ru1⟩:=r1.get hx;obtain ⟨u2,hu2,ru2⟩:=r2.get hy;refine FM D ⟨st.zip,st.its,st.out,st.one.si w1,st.two.si w2⟩ (x:=u1) (y:=u2) (by simpa using hu1) (by simpa using hu2) fun g S' hp sz kp=>?_
  have f:∀ b∈ [z,TO,i1,i2],Vh X pins H b:=fun b hb=>hf b (by
   rcases Oc hb with q | q | q | q <;> rw [q] <;> simp)
  have kp':∀ b o,b ∉ [z,TO,i1,i2]->s.heap.get? b=some o->g.get? b=some o:=fun b o hb e=>kp b o (fun q=>hb (by simp [q])) (fun q=>hb (by simp [q])) (fun q=>hb (by simp [q])) (fun q=>hb (by simp [q])) e;have I1:Inv X pins U H {s with heap:=g}:=I.turnedL (t':=s.toks) kp' f;have hn:H s.heap.objs.size=none:=I.hok.fresh (Nat.le_refl _);have zlt:z < s.heap.objs.size:=Heap.lt_size st.zip;refine ⟨_,rfl,?_⟩;refine wpAny_letOwnedTupleGo_zip (s:={s with heap:=g}) S'.zip fun g2 z2 s2=>?_
  have I2:Inv X pins U H {s with heap:=g2}:=I1.turnedL (s:={s with heap:=g}) (t':=s.toks) (ch:= [z]) (fun b o hb e=>s2.extBut b o (fun q=>hb (by simp [q])) e) fun b hb=>by
   have q:b=z:=by simpa using hb
   rw [q];exact f z (by simp)
  have pg2:IsPair g2 s.heap.objs.size u1 u2:=s2.extBut _ _ (Nat.ne_of_gt zlt) hp;have I3:Inv X pins U (upd H s.heap.objs.size (.tup [x,y])) {s with heap:=g2}:=I2.retrack hn (I.fpOk (Nat.le_refl _) hn) ⟨sl 2, [u1,u2], .cons ru1 (.cons ru2 .nil),⟨_,pg2,rfl,rfl,_,rfl⟩⟩
  have ltf:∀ b∈ [z,TO,i1,i2,TI],b < s.heap.objs.size:=fun b hb=>by
   have q:b=z \/ b=TO \/ b=i1 \/ b=i2 \/ b=TI:=by simpa using hb
   rcases q with q | q | q | q | q <;> rw [q]
   .exact zlt
   .obtain ⟨a,b,e⟩:=st.out
    exact Heap.lt_size e
   .obtain ⟨o,e,_⟩:=st.one.obj
    exact Heap.lt_size e
   .obtain ⟨o,e,_⟩:=st.two.obj
    exact Heap.lt_size e
   .exact Heap.lt_size st.its
  refine ⟨.ref s.heap.objs.size,_,I3,rfl,⟨_,x,y,rfl,hn,rfl,fun zs h=>by rw [I.sq_inj h q1];exact hx,fun zs h=>by rw [I.sq_inj h q2];exact hy⟩,?_,fun b hb=>?_⟩
  .refine ⟨z2,s2.extBut _ _ D.TIz S'.its,let ⟨a,b,e⟩:=S'.out;⟨a,b,s2.extBut _ _ D.TOz e⟩,S'.one.sj.to fun o e=>s2.extBut _ _ D.i1z e,S'.two.sj.to fun o e=>s2.extBut _ _ D.i2z e⟩
  .rw [ZI (Nat.ne_of_lt (ltf b hb))]
   exact (hf b hb).1
 done:=by
  intro X hP hw hK hc i pins s U H E I hf st hg;subst hP hw hK;obtain ⟨xs,ys,q1,q2,hend⟩:=hg;obtain ⟨its1,r1,w1⟩:=I.sq q1;obtain ⟨its2,r2,w2⟩:=I.sq q2;have e1:=r1.length;have e2:=r2.length;refine Kz (I.ok.hd hc) D ⟨st.zip,st.its,st.out,st.one.si w1,st.two.si w2⟩ ?_ fun g kp=>⟨rfl,?_⟩
  .rcases hend with q | q
   .exact .inl (by simp;omega)
   .exact .inr (by simp;omega)
  .refine I.turnedL (t':=s.toks) (ch:= [z,TO,i1,i2]) (fun b o hb e=>kp b o (fun q=>hb (by simp [q])) (fun q=>hb (by simp [q])) (fun q=>hb (by simp [q])) (fun q=>hb (by simp [q])) e) fun b hb=>hf b (by
    rcases Oc hb with q | q | q | q <;> rw [q] <;> simp)
 self:=fun _ _ _ _ _ st h=>wpAny_pyIter_zip st.zip h
theorem zap(n l1 l2:Nat)(h1:l1 < n)(h2:l2 < n):ZipApart (n + 4) (n + 2) (n + 3) n (n + 1) l1 l2:=by
 constructor <;> (intro q;have q':(_:Nat)=_:=q;omega)
def PF(K:W.Frag)(ta:TA):TI:=fun U H R=>ta U H fun vs H1=> ∃ a b t1 t2 xs ys,vs= [.ref a, .ref b]/\Sq K t1 H1 a xs/\Sq K t2 H1 b ys/\R (Itz K t1 a t2 b) H1
theorem LV(hg:Gl X "zip")(hm:X.mg "zip" =none)(ha:PA X [a,b] ta)(hs:starEach [a,b] X.env= [(false,eval a X.env),(false,eval b X.env)]:=by rfl)(hs2:starEach [b] X.env= [(false,eval b X.env)]:=by rfl):PI X (.Tuple elts x1 tpos) (.Call (.Name "zip" p) [a,b] [] pos) (PF X.K ta):=by
 intro pins s U H R I h;refine Call_ (U1 I hg hm Bi (PyProof.Rows.callWith_type1 (thn (ha pos pins s U H _ I h) fun us s1 ⟨vs,H1,I1,r1,q1⟩=>?_) (by rw [hs,hs2]) (by rw [hs2];rfl)));obtain ⟨l1,l2,t1,t2,xs,ys,e,q1,q2,q⟩:=q1;subst e;obtain ⟨u,w',rfl,ru,rw'⟩:=vals2 r1;cases ru;cases rw';obtain ⟨its1,rr1,w1⟩:=I1.sq q1;obtain ⟨its2,rr2,w2⟩:=I1.sq q2;have n1:=w1.lt;have n2:=w2.lt;refine E8 w1 w2 fun g S kp=>?_;refine wpAny_pyIter_zip (s:={s1 with heap:=g}) S.zip ?_;have D:=zap _ _ _ n1 n2;have I2:Inv X pins U H1 {s1 with heap:=g}:=I1.kept (t':=s1.toks) kp;refine ⟨_, [s1.heap.objs.size + 4,s1.heap.objs.size + 3,s1.heap.objs.size,s1.heap.objs.size + 1,s1.heap.objs.size + 2],_,_,H1,rfl,I2,Bo D,S,fun b hb=>?_,q⟩
 have hb':s1.heap.objs.size<=b:=by
  have z:b=s1.heap.objs.size + 4 \/ b=s1.heap.objs.size + 3 \/ b=s1.heap.objs.size \/ b=s1.heap.objs.size + 1 \/ b=s1.heap.objs.size + 2:=by simpa using hb
  rcases z with z | z | z | z | z <;> rw [z] <;> first | exact Nat.le_refl _ | exact Nat.le_add_right _ _
 exact I1.fpOk hb' (I1.hok.fresh hb')
end L2
namespace L2
open PySem PySem.Spec PyProof.Rows
inductive Dat where
 | non | bl (b:Bool) | int (i:Int) | str (x:Str) | tup (ds:List Dat) | lst (ds:List Dat)
mutual
def Dat.beq:Dat->Dat->Bool
 | .non, .non=>true
 | .bl a, .bl b=>a==b
 | .int a, .int b=>a==b
 | .str a, .str b=>a==b
 | .tup a, .tup b=>Dat.beqs a b
 | .lst a, .lst b=>Dat.beqs a b
 | _,_=>false
def Dat.beqs:List Dat->List Dat->Bool
 | [], []=>true
 | a::as,b::bs=>Dat.beq a b && Dat.beqs as bs
 | _,_=>false
end
mutual
theorem Dat.beq_self:∀ a:Dat,a.beq a=true
 | .non=>by unfold Dat.beq;rfl
 | .bl b=>by unfold Dat.beq;exact beq_self_eq_true b
 | .int i=>by unfold Dat.beq;exact beq_self_eq_true i
 | .str x=>by unfold Dat.beq;exact beq_self_eq_true x
 | .tup ds=>by unfold Dat.beq;exact Dat.beqs_self ds
 | .lst ds=>by unfold Dat.beq;exact Dat.beqs_self ds
theorem Dat.beqs_self:∀ a:List Dat,Dat.beqs a a=true
 | []=>by unfold Dat.beqs;rfl
 | a::as=>by unfold Dat.beqs;rw [Dat.beq_self a,Dat.beqs_self as];rfl
end
mutual
def Has(H:Hp):V->Dat->Prop
 | v, .non=>v= .non
 | v, .bl b=>v= .bl b
 | v, .int i=>v= .int i
 | v, .str x=>v= .str x
 | v, .tup ds=> ∃ a xs,v= .ref a/\H a=some (.tup xs)/\HasL H xs ds
 | v, .lst ds=> ∃ a xs,v= .ref a/\H a=some (.lst xs)/\HasL H xs ds
def HasL(H:Hp):List V->List Dat->Prop
 | [], []=>True
 | x::xs,d::ds=>Has H x d/\HasL H xs ds
 | _::_, []=>False
 | [],_::_=>False
end
mutual
theorem Has.mono{H H':Hp}(e:Same H H'):∀ (d:Dat) {v:V},Has H v d->Has H' v d
 | .non,_,h=>by unfold Has at h |-;exact h
 | .bl _,_,h=>by unfold Has at h |-;exact h
 | .int _,_,h=>by unfold Has at h |-;exact h
 | .str _,_,h=>by unfold Has at h |-;exact h
 | .tup ds,_,h=>by
  unfold Has at h |-;obtain ⟨a,xs,h1,h2,h3⟩:=h;exact ⟨a,xs,h1,e _ _ h2,HasL.mono e ds h3⟩
 | .lst ds,_,h=>by
  unfold Has at h |-;obtain ⟨a,xs,h1,h2,h3⟩:=h;exact ⟨a,xs,h1,e _ _ h2,HasL.mono e ds h3⟩
theorem HasL.mono{H H':Hp}(e:Same H H'):∀ (ds:List Dat) {xs:List V},HasL H xs ds->HasL H' xs ds
 | [], [],h=>by unfold HasL;trivial
 | [],_::_,h=>by unfold HasL at h;exact h.elim
 | _::_, [],h=>by unfold HasL at h;exact h.elim
 | d::ds,x::xs,h=>by
  unfold HasL at h |-;exact ⟨Has.mono e d h.1,HasL.mono e ds h.2⟩
end
theorem HasL.length:∀ {ds:List Dat}{xs:List V},HasL H xs ds->xs.length=ds.length
 | [], [],h=>rfl
 | [],_::_,h=>by unfold HasL at h;exact h.elim
 | _::_, [],h=>by unfold HasL at h;exact h.elim
 | d::ds,x::xs,h=>by
  unfold HasL at h;rw [List.length_cons,List.length_cons,HasL.length h.2]
theorem HasL.get:∀ {ds:List Dat}{xs:List V}{i:Nat}{x:V},HasL H xs ds->xs[i]?=some x->∃ d,ds[i]?=some d/\Has H x d
 | [], [],i,x,h,e=>by simp at e
 | [],_::_,_,_,h,_=>by unfold HasL at h;exact h.elim
 | _::_, [],_,_,h,_=>by unfold HasL at h;exact h.elim
 | d::ds,y::xs,0,x,h,e=>by
  unfold HasL at h;have e':some y=some x:=e;cases e';exact ⟨d,rfl,h.1⟩
 | d::ds,y::xs,i + 1,x,h,e=>by
  unfold HasL at h;exact HasL.get (i:=i) h.2 e
theorem HasL.append:∀ {ds es:List Dat}{xs ys:List V},HasL H xs ds->HasL H ys es->HasL H (xs++ ys) (ds++ es)
 | [],_, [],_,_,h=>h
 | [],_,_::_,_,h,_=>by unfold HasL at h;exact h.elim
 | _::_,_, [],_,h,_=>by unfold HasL at h;exact h.elim
 | d::ds,es,x::xs,ys,h,h'=>by
  unfold HasL at h;show HasL H (x::(xs++ ys)) (d::(ds++ es));unfold HasL;exact ⟨h.1,HasL.append h.2 h'⟩
theorem HasL.one(h:Has H x d):HasL H [x] [d]:=by
 unfold HasL;exact ⟨h,by unfold HasL;trivial⟩
theorem HasL.nil:HasL H [] []:=by unfold HasL;trivial
theorem HasL.cons(h:Has H x d)(t:HasL H xs ds):HasL H (x::xs) (d::ds):=by
 unfold HasL;exact ⟨h,t⟩
mutual
theorem Has.inj{H:Hp}:∀ (d d':Dat) {v:V},Has H v d->Has H v d'->d=d'
 | .non,d',_,h,h'=>by
  unfold Has at h;subst h;cases d' <;> unfold Has at h' <;> first | (obtain ⟨_,_,q,_⟩:=h';cases q;done) | rfl | (cases h';done)
 | .bl _,d',_,h,h'=>by
  unfold Has at h;subst h;cases d' <;> unfold Has at h' <;> first | (obtain ⟨_,_,q,_⟩:=h';cases q;done) | (cases h';done) | (cases h';rfl)
 | .int _,d',_,h,h'=>by
  unfold Has at h;subst h;cases d' <;> unfold Has at h' <;> first | (obtain ⟨_,_,q,_⟩:=h';cases q;done) | (cases h';done) | (cases h';rfl)
 | .str _,d',_,h,h'=>by
  unfold Has at h;subst h;cases d' <;> unfold Has at h' <;> first | (obtain ⟨_,_,q,_⟩:=h';cases q;done) | (cases h';done) | (cases h';rfl)
 | .tup ds,d',_,h,h'=>by
  unfold Has at h;obtain ⟨a,xs,h1,h2,h3⟩:=h;subst h1
  cases d' with
  | tup es=>
   unfold Has at h';obtain ⟨b,ys,e1,e2,e3⟩:=h';cases e1;rw [h2] at e2;cases e2;rw [HasL.inj ds es h3 e3]
  | lst es=>
   unfold Has at h';obtain ⟨b,ys,e1,e2,e3⟩:=h';cases e1;rw [h2] at e2;cases e2
  | _=>unfold Has at h';cases h'
 | .lst ds,d',_,h,h'=>by
  unfold Has at h;obtain ⟨a,xs,h1,h2,h3⟩:=h;subst h1
  cases d' with
  | lst es=>
   unfold Has at h';obtain ⟨b,ys,e1,e2,e3⟩:=h';cases e1;rw [h2] at e2;cases e2;rw [HasL.inj ds es h3 e3]
  | tup es=>
   unfold Has at h';obtain ⟨b,ys,e1,e2,e3⟩:=h';cases e1;rw [h2] at e2;cases e2
  | _=>unfold Has at h';cases h'
theorem HasL.inj{H:Hp}:∀ (ds es:List Dat) {xs:List V},HasL H xs ds->HasL H xs es->ds=es
 | [], [],_,_,_=>rfl
 | [],_::_,xs,h,h'=>by
  cases xs <;> unfold HasL at h h'
  .exact h'.elim
  .exact h.elim
 | _::_, [],xs,h,h'=>by
  cases xs <;> unfold HasL at h h'
  .exact h.elim
  .exact h'.elim
 | d::ds,e::es,xs,h,h'=>by
  cases xs with
  | nil=>unfold HasL at h;exact h.elim
  | cons x xs=>
   unfold HasL at h h';rw [Has.inj d e h.1 h'.1,HasL.inj ds es h.2 h'.2]
end
theorem Ei{K:W.Frag}:∀ {d:Dat},Has H v d->UR K H v (.type (match d with | .non=>"NoneType" | .bl _=>"bool" | .int _=>"int" | .str _=>"str" | .tup _=>"tuple" | .lst _=>"list"))
 | .non,h=>by unfold Has at h;subst h;exact .non
 | .bl _,h=>by unfold Has at h;subst h;exact .bl _
 | .int _,h=>by unfold Has at h;subst h;exact .int _
 | .str _,h=>by unfold Has at h;subst h;exact .str _
 | .tup _,h=>by unfold Has at h;obtain ⟨a,xs,rfl,e,_⟩:=h;exact .tup e
 | .lst _,h=>by unfold Has at h;obtain ⟨a,xs,rfl,e,_⟩:=h;exact .lst e
theorem Vg{K:PySem.W.Frag}{a:Addr}{xs:List V}{g:TG}{tb:TS}{D:Ends}{U:St}{H:Hp}(Pv:Nat->St->Hp->Prop)(h0:Pv 0 U H)(hl:∀ i U H,i<=xs.length->Pv i U H->SqL K H a xs)(hs:∀ (B:St->Hp->Prop) (R:VK) i x U H,xs[i]?=some x->Pv i U H->g x U H fun σ2 H2=>tb {nx:=Pv (i + 1),rt:=R,bk:=B,ct:=Pv (i + 1)} σ2 H2)(hd:∀ U H,Pv xs.length U H->D.nx U H):
  ∃ W:Nat->Nat->St->Hp->Prop,(∃ m,W 0 m U H)/\∀ i m U H,W i m U H->
   ((Itl K a).stop i H/\D.nx U H) \/ ((Itl K a).go i H/\∃ N:St->Hp->Prop,(∀ U' H',N U' H'->∃ m',m' < m/\W (i + 1) m' U' H')/\∀ x H',(Itl K a).yld i H x H'->g x U H' fun σ2 H2=>tb {D with nx:=N,ct:=N,bk:=D.nx} σ2 H2):=
 Ew Pv h0 hl (fun i x U H hx p=>hs _ _ i x U H hx p) hd
theorem UO{K:PySem.W.Frag}{a:Addr}{xs:List V}{g:TG}{tb:TS}{D:Ends}{U:St}{H:Hp}(Pv:Nat->St->Hp->Prop)(h0:Pv 0 U H)(hl:∀ i U H,i<=xs.length->Pv i U H->SqT K H a xs)(hs:∀ (B:St->Hp->Prop) (R:VK) i x U H,xs[i]?=some x->Pv i U H->g x U H fun σ2 H2=>tb {nx:=Pv (i + 1),rt:=R,bk:=B,ct:=Pv (i + 1)} σ2 H2)(hd:∀ U H,Pv xs.length U H->D.nx U H):
  ∃ W:Nat->Nat->St->Hp->Prop,(∃ m,W 0 m U H)/\∀ i m U H,W i m U H->
   ((Itt K a).stop i H/\D.nx U H) \/ ((Itt K a).go i H/\∃ N:St->Hp->Prop,(∀ U' H',N U' H'->∃ m',m' < m/\W (i + 1) m' U' H')/\∀ x H',(Itt K a).yld i H x H'->g x U H' fun σ2 H2=>tb {D with nx:=N,ct:=N,bk:=D.nx} σ2 H2):=
 KE Pv h0 hl (fun i x U H hx p=>hs _ _ i x U H hx p) hd
theorem Ug{lo:Int}{n:Nat}{g:TG}{tb:TS}{D:Ends}{U:St}{H:Hp}(Pv:Nat->St->Hp->Prop)(h0:Pv 0 U H)(hs:∀ (B:St->Hp->Prop) (R:VK) i U H,i < n->Pv i U H->g (.int (lo + i)) U H fun σ2 H2=>tb {nx:=Pv (i + 1),rt:=R,bk:=B,ct:=Pv (i + 1)} σ2 H2)(hd:∀ U H,Pv n U H->D.nx U H):
  ∃ W:Nat->Nat->St->Hp->Prop,(∃ m,W 0 m U H)/\∀ i m U H,W i m U H->
   ((Itr lo n).stop i H/\D.nx U H) \/ ((Itr lo n).go i H/\∃ N:St->Hp->Prop,(∀ U' H',N U' H'->∃ m',m' < m/\W (i + 1) m' U' H')/\∀ x H',(Itr lo n).yld i H x H'->g x U H' fun σ2 H2=>tb {D with nx:=N,ct:=N,bk:=D.nx} σ2 H2):=
 BV Pv h0 (fun i U H hi p=>hs _ _ i U H hi p) hd
theorem ZN.none{P:Program}{w:World}{K:W.Frag}{mg:Str->Option Value}{base:Heap}{CX:CXT}{k:Nat}{f:Addr}{fd:FuncData}{ps:List Str}{sp:Sp}(h:∀ vs H Q E,sp vs H Q E->False):ZN P w K mg base CX k f fd ps sp:=
 ⟨fun vs H Q E q=>(h _ _ _ _ q).elim,fun A outer s H args us vs Q E _ _ _ _ q=>(h _ _ _ _ q).elim⟩
theorem Zl{N P:List Str}{sc:Scope}(h:sc.kind= .function/\sc.isCoroutine=false/\sc.isGenerator=false/\N.Nodup/\N.take P.length=P/\(∀ x∈P,sc.names.lookup x=some .local \/ sc.names.lookup x=some .cell)/\∀ y∈sc.names,y.2≠ .free:=by decide +kernel):ZX N P sc:=
 ⟨h.1,h.2.1,h.2.2.1,h.2.2.2.1,h.2.2.2.2.1,h.2.2.2.2.2.1,h.2.2.2.2.2.2⟩
end L2
namespace K4
open PySem L2
def top(i:Nat):Stmt:=PySem.Challenge.pw_wantway_k06_books_told.main.body.getD i (.Pass ⟨0,0,0,0⟩)
abbrev Ru:Stmt:=top 2
abbrev sKP:Stmt:=top 4
abbrev DJ:Stmt:=top 5
abbrev MB:Stmt:=top 6
abbrev MA:Stmt:=top 7
abbrev DQ:Stmt:=top 8
abbrev Gn:Stmt:=top 9
abbrev R9:Stmt:=top 10
abbrev X8:Stmt:=top 11
abbrev DV:Stmt:=top 12
abbrev DU:Stmt:=top 13
abbrev Gq:Stmt:=top 30
abbrev MC:Stmt:=top 31
abbrev Rq:Stmt:=top 32
abbrev JV:Stmt:=top 38
abbrev DX:Stmt:=inClass JV 0
abbrev R0:Stmt:=inClass JV 1
abbrev DE:Stmt:=inClass JV 2
abbrev Rv:Stmt:=inClass JV 3
abbrev Rw:Stmt:=inClass JV 4
abbrev Uu:Stmt:=inClass JV 5
abbrev X4:Stmt:=inClass JV 7
abbrev Gp:Stmt:=inClass JV 9
abbrev X7:Stmt:=inClass JV 10
abbrev Jt:Stmt:=top 44
abbrev MJ:Stmt:=inClass Jt 0
abbrev MF:Stmt:=inClass Jt 1
abbrev MK:Stmt:=inClass Jt 2
abbrev Gu:Stmt:=inClass Jt 3
abbrev Gs:Stmt:=inClass Jt 4
abbrev Gr:Stmt:=inClass Jt 5
abbrev MH:Stmt:=inClass Jt 6
abbrev MI:Stmt:=inClass Jt 7
abbrev ML:Stmt:=inClass Jt 8
abbrev MG:Stmt:=inClass Jt 9
abbrev ME:Stmt:=inClass Jt 10
abbrev MM:Stmt:=top 45
abbrev Uw:Stmt:=top 46
abbrev Uv:Stmt:=top 47
abbrev DY:Stmt:=top 49
abbrev Rx:Stmt:=top 50
abbrev Gi:Stmt:=top 51
abbrev DD:Stmt:=top 52
abbrev Rp:Stmt:=top 53
abbrev Rr:Stmt:=top 54
abbrev DI:Stmt:=top 55
abbrev Rz:Stmt:=top 56
abbrev MD:Stmt:=top 57
abbrev X6:Stmt:=top 58
abbrev NF:Stmt:=top 59
abbrev Xg:Stmt:=top 60
abbrev Fp:Stmt:=top 61
abbrev Gk:Stmt:=top 62
abbrev Fo:Stmt:=top 63
abbrev Tw:Stmt:=top 64
abbrev Gj:Stmt:=top 65
abbrev NG:Stmt:=top 66
abbrev Da:Stmt:=top 67
abbrev NH:Stmt:=top 68
abbrev Xf:Stmt:=top 69
abbrev DG:Stmt:=top 70
abbrev Gv:Stmt:=top 71
abbrev X5:Stmt:=top 72
abbrev Gm:Stmt:=top 73
abbrev Rt:Stmt:=top 74
abbrev Ry:Stmt:=top 75
theorem LH:ZX ["found","due"] ["found","due"] (ZL NH):=Zl
theorem B0:ZX ["stream","many","number"] ["stream","many"] (ZL DD):=Zl
end K4
namespace L2
open PySem PySem.Spec PyProof.Rows
theorem RD(K:W.Frag)(T:String):W.kitOne K (.type T) (.type T)=some true:=by
 unfold W.kitOne;rw [if_pos (by simp)]
theorem PB{K:W.Frag}:∀ {a b:String},(a,b)∈ [("NoneType","bool"),("NoneType","str"),("NoneType","int"),("NoneType","tuple"),("NoneType","list"),("int","bool"),("int","str"),("int","tuple"),("int","list"),("str","bool"),("str","int"),("str","tuple"),("str","list"),("bool","str"),("bool","tuple"),("bool","list"),("tuple","bool"),("tuple","str"),("tuple","int"),("tuple","list"),("list","bool"),("list","str"),("list","int"),("list","tuple")]->W.kitOne K (.type a) (.type b)=some false:=by
 intro a b h;simp only [List.mem_cons,Prod.mk.injEq,List.not_mem_nil,or_false] at h;rcases h with ⟨rfl,rfl⟩ | ⟨rfl,rfl⟩ | ⟨rfl,rfl⟩ | ⟨rfl,rfl⟩ | ⟨rfl,rfl⟩ | ⟨rfl,rfl⟩ | ⟨rfl,rfl⟩ | ⟨rfl,rfl⟩ | ⟨rfl,rfl⟩ | ⟨rfl,rfl⟩ | ⟨rfl,rfl⟩ | ⟨rfl,rfl⟩ | ⟨rfl,rfl⟩ | ⟨rfl,rfl⟩ | ⟨rfl,rfl⟩ | ⟨rfl,rfl⟩ | ⟨rfl,rfl⟩ | ⟨rfl,rfl⟩ | ⟨rfl,rfl⟩ | ⟨rfl,rfl⟩ | ⟨rfl,rfl⟩ | ⟨rfl,rfl⟩ | ⟨rfl,rfl⟩ | ⟨rfl,rfl⟩ <;> kernel_rfl
theorem YZ:bootBuiltins "tuple" =some (.type "tuple"):=by decide +kernel
theorem YF:bootBuiltins "list" =some (.type "list"):=by decide +kernel
theorem J9:bootBuiltins "str" =some (.type "str"):=by decide +kernel
theorem Wz:bootBuiltins "int" =some (.type "int"):=by decide +kernel
theorem UQ:bootBuiltins "bool" =some (.type "bool"):=by decide +kernel
theorem Y6:bootBuiltins "dict" =some (.type "dict"):=by decide +kernel
theorem UA:bootBuiltins "isinstance" =some (.builtin "isinstance"):=by decide +kernel
theorem W0:bootBuiltins "all" =some (.builtin "all"):=by decide +kernel
theorem U9:bootBuiltins "max" =some (.builtin "max"):=by decide +kernel
theorem VD(hg:Gl X "isinstance")(hm:X.mg "isinstance" =none)(hg':Gl X x)(hm':X.mg x=none)(hv:bootBuiltins x=some (.type T))(he:PE X e te)(hn:x≠"__name__" :=by decide)(hdb:(x==("__debug__" :Str))=false:=by decide)(hs:starEach [e, .Name x p'] X.env=(false,eval e X.env)::starEach [.Name x p'] X.env:=by rfl):
  PE X (.Call (.Name "isinstance" p) [e, .Name x p'] [] pos) (tCB (LQ X.K) (Ve te (Ve (tC (.ty T)) W9))):=
 Zj E9 hg hm UA (ZA he (ZA (NM hg' hm' hv rfl hn hdb) ZE) hs) (he:=hs)
def tyD:Dat->String
 | .non=>"NoneType" | .bl _=>"bool" | .int _=>"int" | .str _=>"str" | .tup _=>"tuple" | .lst _=>"list"
theorem Mf{K:W.Frag}(h:Has H v d):UR K H v (.type (tyD d)):=by
 have q:=Ei (K:=K) h;cases d <;> exact q
def isD(T:String)(d:Dat):Bool:=decide (tyD d=T) || (T=="int" && decide (tyD d="bool"))
theorem VF(K:W.Frag)(d:Dat)(hT:T∈ ["bool","str","int","tuple","list"]):W.kitOne K (.type (tyD d)) (.type T)=some (isD T d):=by
 simp only [List.mem_cons,List.not_mem_nil,or_false] at hT;rcases hT with rfl | rfl | rfl | rfl | rfl <;> cases d <;> kernel_rfl
mutual
def Dat.dep:Dat->Nat
 | .tup ds=>1 + Dat.deps ds
 | .lst ds=>1 + Dat.deps ds
 | _=>0
def Dat.deps:List Dat->Nat
 | []=>0
 | d::ds=>max d.dep (Dat.deps ds)
end
theorem Dat.deps_get:∀ {ds:List Dat}{i:Nat}{d:Dat},ds[i]?=some d->d.dep<=Dat.deps ds
 | [],i,d,e=>by simp at e
 | a::ds,0,d,e=>by
  have e':some a=some d:=e;cases e';unfold Dat.deps;exact Nat.le_max_left _ _
 | a::ds,i + 1,d,e=>by
  have q:=Dat.deps_get (ds:=ds) (i:=i) e;unfold Dat.deps;exact Nat.le_trans q (Nat.le_max_right _ _)
mutual
def Dat.wid:Dat->Nat
 | .tup ds=>max ds.length (Dat.wids ds)
 | .lst ds=>max ds.length (Dat.wids ds)
 | _=>0
def Dat.wids:List Dat->Nat
 | []=>0
 | d::ds=>max d.wid (Dat.wids ds)
end
theorem Dat.wids_get:∀ {ds:List Dat}{i:Nat}{d:Dat},ds[i]?=some d->d.wid<=Dat.wids ds
 | [],i,d,e=>by simp at e
 | a::ds,0,d,e=>by
  have e':some a=some d:=e;cases e';unfold Dat.wids;exact Nat.le_max_left _ _
 | a::ds,i + 1,d,e=>by
  have q:=Dat.wids_get (ds:=ds) (i:=i) e;unfold Dat.wids;exact Nat.le_trans q (Nat.le_max_right _ _)
theorem WT:∀ {as bs:List Dat},as.length=bs.length->((List.range as.length).map fun i=>((as[i]?).getD .non).beq ((bs[i]?).getD .non)).all id=Dat.beqs as bs
 | [], [],_=>by unfold Dat.beqs;rfl
 | [],_::_,h=>by simp at h
 | _::_, [],h=>by simp at h
 | a::as,b::bs,h=>by
  have ih:=WT (as:=as) (bs:=bs) (by simpa using h);rw [List.length_cons,List.range_succ_eq_map,List.map_cons,List.all_cons,List.map_map];unfold Dat.beqs;rw [<-ih]
  rfl
theorem KZ(a b:List Dat):(Dat.tup a).beq (Dat.tup b)=Dat.beqs a b:=by
 conv=>lhs;unfold Dat.beq
theorem Ka(a b:List Dat):(Dat.lst a).beq (Dat.lst b)=Dat.beqs a b:=by
 conv=>lhs;unfold Dat.beq
theorem WS:∀ {as bs:List Dat},as.length≠bs.length->Dat.beqs as bs=false
 | [], [],h=>absurd rfl h
 | [],_::_,_=>by unfold Dat.beqs;rfl
 | _::_, [],_=>by unfold Dat.beqs;rfl
 | a::as,b::bs,h=>by
  unfold Dat.beqs;rw [WS (as:=as) (bs:=bs) fun z=>h (by rw [List.length_cons,List.length_cons,z]),Bool.and_false]
theorem Yb{c A B:Prop}[Decidable c](hc:c)(h:A):if c then A else B:=by
 rw [if_pos hc];exact h
theorem Zk{c A B:Prop}[Decidable c](hc: ¬ c)(h:B):if c then A else B:=by
 rw [if_neg hc];exact h
theorem YE(n:Nat)(hn:n < sizeLine)(Pv:Nat->List V->Hp->Prop)(h0:Pv 0 [] H)(hlen:∀ i vs H,Pv i vs H->vs.length=i)(hgo:∀ i vs H,i < n->Pv i vs H->J.go i H)(hstop:∀ vs H,Pv n vs H->J.stop n H)(hs:∀ i vs H x H' (R:V->Hp->Prop),i < n->Pv i vs H->J.yld i H x H'->(∀ v H3,Pv (i + 1) (vs++ [v]) H3->R v H3)->g x s0 H' fun s2 H2=>te s2 H2 R)(hd:∀ vs H p,Pv n vs H->H p=none->Q (.ref p) (upd H p (.lst vs))):
  RV J g te s0 Q H:=by
 refine ⟨fun i m vs H=>m=n - i/\i<=n/\Pv i vs H,⟨n,by simp,Nat.zero_le _,h0⟩,?_⟩;rintro i m vs H ⟨rfl,hi,p⟩;have hl:=hlen i vs H p;refine ⟨by omega,?_⟩
 by_cases hlt:i < n
 .exact .inr ⟨hgo i vs H hlt p,fun x H' y=>hs i vs H x H' _ hlt p y fun v H3 p3=>⟨n - (i + 1),by omega,rfl,hlt,p3⟩⟩
 .have e:i=n:=by omega
  subst e;exact .inl ⟨hstop vs H p,fun a ha=>hd vs H a p ha⟩
theorem ZF(h:H p=none)(o:HO):Same H (upd H p o):=fun b u q=>by rw [ZI (ZJ q h)];exact q
theorem Vl{α:Type}(f:Nat->α)(i:Nat):(List.range i).map f++ [f i]=(List.range (i + 1)).map f:=by
 rw [List.range_succ,List.map_append];rfl
structure Blt(mg:Str->Option Value):Prop where
 len:mg "len" =none
 isi:mg "isinstance" =none
 bool:mg "bool" =none
 str:mg "str" =none
 int:mg "int" =none
 tuple:mg "tuple" =none
 list:mg "list" =none
 dict:mg "dict" =none
 all:mg "all" =none
 zip:mg "zip" =none
 max:mg "max" =none
 range:mg "range" =none
 sorted:mg "sorted" =none
end L2
namespace K4
open PySem L2
section
theorem ES:List.Nodup [("one" :Str),"other"]:=by decide +kernel
theorem TR:GK 2 (KB K 2 (Jp (Yi 0) (Jp (Yi 1) Ml))):=
 Ls (NY (YI (i:=0) (by decide)) (NY (YI (i:=1) (by decide)) Lu (fun _ _ _ _ _ h z=>h _ _ z) (fun x _ _ _ _ h z=>by
  match x,z with
  | [],z=>exact h _ _ z)) (fun _ _ _ _ _ h z=>h _ _ z) (fun x _ _ _ _ h z=>by
  match x,z with
  | [v],z=>exact h _ _ z))
def Je(n:Nat):Sp:=fun vs H Q _=> ∃ x y dx dy,vs= [x,y]/\Has H x dx/\Has H y dy/\dy.dep < n/\dy.wid<=1000/\∀ H',Same H H'->Q (.bl (dx.beq dy)) H'
set_option tactic.hygienic true in
theorem IR(B:Blt mg)(F:Fun K "_law_same" "_law_same" NH f fd)(G:ZN P w K mg base CX0 n f fd ["found","due"] (Je n))(bG:Binds K fd ["found","due"] [])(mG:mg "_law_same" =some (.ref f)):
  ZN P w K mg base CX0 (n + 1) f fd ["found","due"] (Je (n + 1)):=by
 refine F.ok LH (fun vs H Q E h=>?_) (fun cdv A outer s H vs Q E hr h=>?_)
 .obtain ⟨x,y,dx,dy,rfl,_⟩:=h
  rfl
 obtain ⟨x,y,dx,dy,rfl,hx,hy,hd,hw,q⟩:=h;refine ⟨_,ZC (Zh (ZV Uy (pv 1) VP (Zb _)) (ZH (ZW (Y4 Uy (pv 0) VP (Zb _)))) ZU)
  (ZC (Zh (YN (VD rfl B.isi rfl B.bool UQ (pv 1))) (ZH (ZW (UL (VD rfl B.isi rfl B.bool UQ (pv 0)) (UK (Y4 YL (pv 0) (pv 1) (Zb _)))))) ZU)
  (ZC (Zh (YN (VD rfl B.isi rfl B.str J9 (pv 1))) (ZH (ZW (UL (VD rfl B.isi rfl B.str J9 (pv 0)) (UK (Y4 YL (pv 0) (pv 1) (Zb _)))))) ZU)
  (ZC (Zh (YN (VD rfl B.isi rfl B.int Wz (pv 1))) (ZH (ZW (UL (VD rfl B.isi rfl B.int Wz (pv 0)) (UL (LY (VD rfl B.isi rfl B.bool UQ (pv 0))) (UK (Y4 YL (pv 0) (pv 1) (Zb _))))))) ZU)
  (ZC (Zh (PW.pt (Vm (PW.pt (Vn (YN (VD rfl B.isi rfl B.tuple YZ (pv 1))) (VT (Yk (YN (VD rfl B.isi rfl B.tuple YZ (pv 0)))))))
    (VO (PW.pt (Vn (YN (VD rfl B.isi rfl B.list YF (pv 1))) (VT (Yk (YN (VD rfl B.isi rfl B.list YF (pv 0)))))))))) (ZH (ZW UB)) ZU)
  (ZC (Zh (ZV XF (Zj Zg rfl B.len PySem.boot_len (ZA (pv 0) ZE)) (Zj Zg rfl B.len PySem.boot_len (ZA (pv 1) ZE)) (Zb _)) (ZH (ZW UB)) ZU)
  (ZH (ZW (Zj (RS rfl) rfl B.all W0 (ZA (Yd ["one","other"] [] (LV rfl B.zip (ZA (pv 0) (ZA (pv 1) ZE))) TR
    (fun cl C fp s H=>YR (n:=2) rfl (Zc (ZO 0 ES rfl (Or.inl rfl) (Or.inr rfl)) (Zc (ZO 1 ES rfl (Or.inl rfl) (Or.inr rfl)) Z9)))
    (fun cl C fp s H=>ZM G hr rfl mG F.kp bG .nil ZT (ZA (pv 0) (ZA (pv 1) ZE)))) ZE))))))))),?_⟩
 show let a:=_;let b:=_;let c:=ZQ (Zw _ b _) a;let d:=_;let e:=ZQ (Zw _ d _) c;let f:=_;let g:=ZQ (Zw _ f _) e;let h:=_;let i:=ZQ (Zw _ h _) g;let j:=_;let k:=ZQ (Zw _ j _) i;let l:=_;ZQ (Zw _ l _) k _ _ _
 intros
 have tY:=Mf (K:=K) hy;have tX:=Mf (K:=K) hx;have fin:∀ k,k=dx.beq dy->Q (.bl k) H:=fun k e=>by rw [e];exact q H (Same.refl _)
 refine ⟨rfl,_,rfl,?_⟩;refine Yr (fun c=>?_) (fun c=>?_)
 .have ey:y= .non:=of_decide_eq_true c
  have ed:dy= .non:=Has.inj dy .non hy (by unfold Has;exact ey);subst ed;refine ⟨rfl,fin _ ?_⟩;cases dx <;> unfold Has at hx
  .rw [hx];rfl
  .rw [hx];rfl
  .rw [hx];rfl
  .rw [hx];rfl
  .obtain ⟨a,xs,rfl,_⟩:=hx;rfl
  .obtain ⟨a,xs,rfl,_⟩:=hx;rfl
 have ny:dy≠ .non:=fun z=>by
  subst z;unfold Has at hy;exact c (decide_eq_true hy)
 refine ⟨_,_,_,_,rfl,tY,VF K dy (by simp),_,rfl,?_⟩;refine Yr (fun c1=>?_) (fun c1=>?_)
 .cases dy <;> simp [isD,tyD] at c1
  rename_i b
  have ey:y= .bl b:=by unfold Has at hy;exact hy
  subst ey;refine ⟨_,_,_,_,rfl,tX,VF K dx (by simp),_,rfl,?_⟩;refine Yr (fun c2=>?_) (fun c2=>?_)
  .cases dx <;> simp [isD,tyD] at c2
   rename_i a
   have ex:x= .bl a:=by unfold Has at hx;exact hx
   subst ex;refine ⟨rfl,fin _ ?_⟩;rw [Mq];unfold Dat.beq;rfl
  .refine fin _ ?_
   cases dx <;> first | (simp [isD,tyD] at c2;done) | (unfold Dat.beq;rfl)
 refine ⟨_,_,_,_,rfl,tY,VF K dy (by simp),_,rfl,?_⟩;refine Yr (fun c2=>?_) (fun c2=>?_)
 .cases dy <;> simp [isD,tyD] at c2
  rename_i b
  have ey:y= .str b:=by unfold Has at hy;exact hy
  subst ey;refine ⟨_,_,_,_,rfl,tX,VF K dx (by simp),_,rfl,?_⟩;refine Yr (fun c3=>?_) (fun c3=>?_)
  .cases dx <;> simp [isD,tyD] at c3
   rename_i a
   have ex:x= .str a:=by unfold Has at hx;exact hx
   subst ex;refine ⟨rfl,fin _ ?_⟩;rw [TY];unfold Dat.beq;rfl
  .refine fin _ ?_
   cases dx <;> first | (simp [isD,tyD] at c3;done) | (unfold Dat.beq;rfl)
 refine ⟨_,_,_,_,rfl,tY,VF K dy (by simp),_,rfl,?_⟩;refine Yr (fun c3=>?_) (fun c3=>?_)
 .cases dy <;> simp [isD,tyD] at c3 c1
  rename_i b
  have ey:y= .int b:=by unfold Has at hy;exact hy
  subst ey;refine ⟨_,_,_,_,rfl,tX,VF K dx (by simp),_,rfl,?_⟩;refine Yr (fun c4=>?_) (fun c4=>?_)
  .refine ⟨_,_,_,_,rfl,tX,VF K dx (by simp),_,rfl,_,rfl,?_⟩
   refine Yr (fun c5=>?_) (fun c5=>?_)
   .cases dx <;> simp [isD,tyD] at c4 c5
    rename_i a
    have ex:x= .int a:=by unfold Has at hx;exact hx
    subst ex;refine ⟨rfl,fin _ ?_⟩;rw [TZ];unfold Dat.beq;rfl
   .refine fin _ ?_
    cases dx <;> first | (simp [isD,tyD] at c4 c5;done) | (unfold Dat.beq;rfl)
  .refine fin _ ?_
   cases dx <;> first | (simp [isD,tyD] at c4;done) | (unfold Dat.beq;rfl)
 cases dy with
 | non=>exact absurd rfl ny
 | bl b=>simp [isD,tyD] at c1
 | int b=>simp [isD,tyD] at c3
 | str b=>simp [isD,tyD] at c2
 | tup es=>
  have hlt:Dat.deps es < n:=by unfold Dat.dep at hd;omega
  have hw1:es.length<=1000:=by unfold Dat.wid at hw;exact Nat.le_trans (Nat.le_max_left _ _) hw
  have hw2:Dat.wids es<=1000:=by unfold Dat.wid at hw;exact Nat.le_trans (Nat.le_max_right _ _) hw
  refine ⟨_,_,_,_,rfl,tY,VF K _ (by simp),_,rfl,?_⟩;refine Yb rfl ?_;refine ⟨_,_,_,_,rfl,tX,VF K dx (by simp),_,rfl,?_⟩;refine Yr (fun c4=>?_) (fun c4=>?_)
  .refine Yb rfl (fin _ ?_)
   cases dx <;> first | (simp [isD,tyD] at c4;done) | (unfold Dat.beq;rfl)
  refine ⟨_,_,_,_,rfl,tY,VF K _ (by simp),_,rfl,?_⟩;refine Zk (by simp [isD,tyD]) (Zk (by simp) ?_);cases dx <;> simp [isD,tyD] at c4
  rename_i ds
  unfold Has at hx hy;obtain ⟨a,xs,rfl,ha,hxs⟩:=hx;obtain ⟨b,ys,rfl,hb,hys⟩:=hy;have l1:=hxs.length;have l2:=hys.length;refine ⟨a,xs,rfl, .inr (SqT.of ha),b,ys,rfl, .inr (SqT.of hb),rfl,_,rfl,?_⟩;refine Yr (fun c5=>?_) (fun c5=>?_)
  .refine fin _ ?_
   have ne:xs.length≠ys.length:=fun z=>by rw [z] at c5;simp at c5
   unfold Dat.beq;rw [WS (by rw [<-l1,<-l2];exact ne)]
  have el:xs.length=ys.length:=by
   apply Classical.byContradiction;intro z;refine c5 ?_;have z': ¬ V.int (xs.length:Nat)=V.int (ys.length:Nat):=fun w=>by injection w with w;exact z (by omega)
   rw [decide_eq_false z'];rfl
  have hsz:xs.length < sizeLine:=ZK (by omega);refine ⟨a,b,true,true,xs,ys,rfl,SqT.of ha,SqT.of hb,?_⟩;refine YE xs.length hsz (fun i vs H'=>Same H H'/\vs=(List.range i).map fun j=>V.bl (((ds[j]?).getD .non).beq ((es[j]?).getD .non))) ⟨Same.refl _,rfl⟩ (fun i vs H' z=>by rw [z.2];simp) ?_ ?_ ?_ ?_
  .intro i vs H' hi z
   exact ⟨xs,ys,xs[i],ys[i],SqT.of (z.1 _ _ ha),SqT.of (z.1 _ _ hb),by simp [hi],by simp [<-el,hi]⟩
  .intro vs H' z
   exact ⟨xs,ys,SqT.of (z.1 _ _ ha),SqT.of (z.1 _ _ hb), .inl (Nat.le_refl _)⟩
  .intro i vs H' x H'' R hi z yl hR
   obtain ⟨p,x1,y1,rfl,hp,rfl,g1,g2⟩:=yl;have e1:=g1 xs (SqT.of (z.1 _ _ ha));have e2:=g2 ys (SqT.of (z.1 _ _ hb));obtain ⟨d1,hd1,hh1⟩:=hxs.get e1;obtain ⟨d2,hd2,hh2⟩:=hys.get e2;have s1:=z.1.trans (ZF hp (.tup [x1,y1]));refine ⟨[x1,y1],SqT.of ZD,rfl,?_⟩;refine ⟨x1,y1,d1,d2,rfl,hh1.mono s1,hh2.mono s1,Nat.lt_of_le_of_lt (Dat.deps_get hd2) hlt,Nat.le_trans (Dat.wids_get hd2) hw2,fun H3 s3=>hR _ _ ⟨s1.trans s3,?_⟩⟩;rw [z.2,<-Vl,hd1,hd2]
   rfl
  .intro vs H' p z hp
   refine ⟨p,(List.range xs.length).map fun j=>((ds[j]?).getD .non).beq ((es[j]?).getD .non),rfl,SqL.of (by rw [ZD,z.2,List.map_map];rfl),?_⟩
   have e:((List.range xs.length).map fun j=>((ds[j]?).getD .non).beq ((es[j]?).getD .non)).all id=(Dat.tup ds).beq (Dat.tup es):=by
    rw [KZ,<-WT (by rw [<-l1,<-l2];exact el),l1]
   rw [e];exact q _ (z.1.trans (ZF hp _))
 | lst es=>
  have hlt:Dat.deps es < n:=by unfold Dat.dep at hd;omega
  have hw1:es.length<=1000:=by unfold Dat.wid at hw;exact Nat.le_trans (Nat.le_max_left _ _) hw
  have hw2:Dat.wids es<=1000:=by unfold Dat.wid at hw;exact Nat.le_trans (Nat.le_max_right _ _) hw
  refine ⟨_,_,_,_,rfl,tY,VF K _ (by simp),_,rfl,?_⟩;refine Zk (by simp [isD,tyD]) (Zk (by simp) ?_);refine ⟨_,_,_,_,rfl,tY,VF K _ (by simp),_,rfl,?_⟩;refine Yb rfl ?_;refine ⟨_,_,_,_,rfl,tX,VF K dx (by simp),_,rfl,?_⟩;refine Yr (fun c4=>?_) (fun c4=>?_)
  .refine fin _ ?_
   cases dx <;> first | (simp [isD,tyD] at c4;done) | (unfold Dat.beq;rfl)
  cases dx <;> simp [isD,tyD] at c4
  rename_i ds
  unfold Has at hx hy;obtain ⟨a,xs,rfl,ha,hxs⟩:=hx;obtain ⟨b,ys,rfl,hb,hys⟩:=hy;have l1:=hxs.length;have l2:=hys.length;refine ⟨a,xs,rfl, .inl (SqL.of ha),b,ys,rfl, .inl (SqL.of hb),rfl,_,rfl,?_⟩;refine Yr (fun c5=>?_) (fun c5=>?_)
  .refine fin _ ?_
   have ne:xs.length≠ys.length:=fun z=>by rw [z] at c5;simp at c5
   unfold Dat.beq;rw [WS (by rw [<-l1,<-l2];exact ne)]
  have el:xs.length=ys.length:=by
   apply Classical.byContradiction;intro z;refine c5 ?_;have z': ¬ V.int (xs.length:Nat)=V.int (ys.length:Nat):=fun w=>by injection w with w;exact z (by omega)
   rw [decide_eq_false z'];rfl
  have hsz:xs.length < sizeLine:=ZK (by omega);refine ⟨a,b,false,false,xs,ys,rfl,SqL.of ha,SqL.of hb,?_⟩;refine YE xs.length hsz (fun i vs H'=>Same H H'/\vs=(List.range i).map fun j=>V.bl (((ds[j]?).getD .non).beq ((es[j]?).getD .non))) ⟨Same.refl _,rfl⟩ (fun i vs H' z=>by rw [z.2];simp) ?_ ?_ ?_ ?_
  .intro i vs H' hi z
   exact ⟨xs,ys,xs[i],ys[i],SqL.of (z.1 _ _ ha),SqL.of (z.1 _ _ hb),by simp [hi],by simp [<-el,hi]⟩
  .intro vs H' z
   exact ⟨xs,ys,SqL.of (z.1 _ _ ha),SqL.of (z.1 _ _ hb), .inl (Nat.le_refl _)⟩
  .intro i vs H' x H'' R hi z yl hR
   obtain ⟨p,x1,y1,rfl,hp,rfl,g1,g2⟩:=yl;have e1:=g1 xs (SqL.of (z.1 _ _ ha));have e2:=g2 ys (SqL.of (z.1 _ _ hb));obtain ⟨d1,hd1,hh1⟩:=hxs.get e1;obtain ⟨d2,hd2,hh2⟩:=hys.get e2;have s1:=z.1.trans (ZF hp (.tup [x1,y1]));refine ⟨[x1,y1],SqT.of ZD,rfl,?_⟩;refine ⟨x1,y1,d1,d2,rfl,hh1.mono s1,hh2.mono s1,Nat.lt_of_le_of_lt (Dat.deps_get hd2) hlt,Nat.le_trans (Dat.wids_get hd2) hw2,fun H3 s3=>hR _ _ ⟨s1.trans s3,?_⟩⟩;rw [z.2,<-Vl,hd1,hd2]
   rfl
  .intro vs H' p z hp
   refine ⟨p,(List.range xs.length).map fun j=>((ds[j]?).getD .non).beq ((es[j]?).getD .non),rfl,SqL.of (by rw [ZD,z.2,List.map_map];rfl),?_⟩
   have e:((List.range xs.length).map fun j=>((ds[j]?).getD .non).beq ((es[j]?).getD .non)).all id=(Dat.lst ds).beq (Dat.lst es):=by
    rw [Ka,<-WT (by rw [<-l1,<-l2];exact el),l1]
   rw [e];exact q _ (z.1.trans (ZF hp _))
theorem Ny:ZN P w K mg base CX0 0 f fd ["found","due"] (Je 0):=by
 have no:∀ vs H Q E,¬ Je 0 vs H Q E:=fun vs H Q E h=>by
  obtain ⟨x,y,dx,dy,_,_,_,h1,_⟩:=h;omega
 exact ⟨fun vs H Q E h=>absurd h (no vs H Q E),fun A outer s H args us vs Q E _ _ _ _ h=>absurd h (no vs H Q E)⟩
theorem NE(B:Blt mg)(F:Fun K "_law_same" "_law_same" NH f fd)(bG:Binds K fd ["found","due"] [])(mG:mg "_law_same" =some (.ref f)):∀ n:Nat,ZN P w K mg base CX0 n f fd ["found","due"] (Je n)
 | 0=>Ny
 | n + 1=>IR B F (NE B F bG mG n) bG mG
end
end K4
namespace L2
open PySem PySem.Spec PyProof.Rows SeqAt
mutual
def Dat.pq:Dat->Dat->Bool
 | .non, .non=>true
 | .bl a, .bl b=>a==b
 | .bl a, .int b=>(if a then 1 else 0)==b
 | .int a, .bl b=>a==(if b then 1 else 0)
 | .int a, .int b=>a==b
 | .str a, .str b=>a==b
 | .tup a, .tup b=>Dat.pqs a b
 | .lst a, .lst b=>Dat.pqs a b
 | _,_=>false
def Dat.pqs:List Dat->List Dat->Bool
 | [], []=>true
 | a::as,b::bs=>Dat.pq a b && Dat.pqs as bs
 | _,_=>false
end
mutual
theorem Dat.pq_self:∀ a:Dat,a.pq a=true
 | .non=>by unfold Dat.pq;rfl
 | .bl b=>by unfold Dat.pq;exact beq_self_eq_true b
 | .int i=>by unfold Dat.pq;exact beq_self_eq_true i
 | .str x=>by unfold Dat.pq;exact beq_self_eq_true x
 | .tup ds=>by unfold Dat.pq;exact Dat.pqs_self ds
 | .lst ds=>by unfold Dat.pq;exact Dat.pqs_self ds
theorem Dat.pqs_self:∀ a:List Dat,Dat.pqs a a=true
 | []=>by unfold Dat.pqs;rfl
 | a::as=>by unfold Dat.pqs;rw [Dat.pq_self a,Dat.pqs_self as];rfl
end
theorem Xj:∀ (as bs:List Dat),((List.range (min as.length bs.length)).all (fun i=>((as[i]?).getD .non).pq ((bs[i]?).getD .non)) && as.length==bs.length)=Dat.pqs as bs
 | [], []=>by unfold Dat.pqs;rfl
 | [],_::_=>by unfold Dat.pqs;simp
 | _::_, []=>by unfold Dat.pqs;simp
 | a::as,b::bs=>by
  have ih:=Xj as bs;have e:min (a::as).length (b::bs).length=min as.length bs.length + 1:=by simp only [List.length_cons];omega
  rw [e,List.range_succ_eq_map,List.all_cons,List.all_map];unfold Dat.pqs;rw [<-ih];have e2:((a::as).length==(b::bs).length)=(as.length==bs.length):=by simp
  rw [e2,Bool.and_assoc]
  rfl
theorem Fy(h:as.length=bs.length):(List.range as.length).all (fun i=>((as[i]?).getD .non).pq ((bs[i]?).getD .non))=Dat.pqs as bs:=by
 rw [<-Xj as bs,h];simp
theorem LU(h:as.length≠bs.length):Dat.pqs as bs=false:=by
 rw [<-Xj as bs];simp [h]
theorem JH{s:Shared}(ok:HOk P w H s.heap)(h:H a=some (.tup xs)):∃ its:List Value,Vals xs its/\s.heap.IsTuple a its.toArray:=by
 obtain ⟨_,its,r,p⟩:=(show Z5 P w H s.heap a (.tup xs) from ok a _ h);exact ⟨its,r,p.is⟩
theorem JP{s:Shared}(ok:HOk P w H s.heap)(h:H a=some (.lst xs)):∃ its:List Value,Vals xs its/\s.heap.IsList a its.toArray:=by
 obtain ⟨_,its,n,r,p⟩:=(show Z5 P w H s.heap a (.lst xs) from ok a _ h);exact ⟨its,r,_,p,rfl,n,rfl⟩
structure Cmp(A:Around)(s:Shared)(u v:Value)(b:Bool):Prop where
 eq:EqAt A s u v b
 rc:RcAt A s u v b
 ne:RcNeAt A s u v (!b)
theorem Uj(ok:HOk P w H s.heap):∀ (n:Nat) (d1 d2:Dat) (A:Around) {x y:V}{u v:Value},d1.dep<=n->Has H x d1->Has H y d2->RelV x u->RelV y v->Ya (n + 1) A->Cmp A s u v (d1.pq d2)
 | n,d1,d2,A,x,y,u,v,hn,hx,hy,ru,rv,hr=>by
  have hu:=hr.units0
  cases d1 with
  | non=>
   unfold Has at hx;subst hx;cases ru
   cases d2 with
   | non=>unfold Has at hy;subst hy;cases rv;unfold Dat.pq;exact ⟨.same _, .none_none, .none_none⟩
   | bl b=>unfold Has at hy;subst hy;cases rv;unfold Dat.pq;exact ⟨.none_bool _, .none_bool _, .none_bool _⟩
   | int b=>unfold Has at hy;subst hy;obtain ⟨t',rfl⟩:=rv;unfold Dat.pq;exact ⟨.none_int _ _, .none_int _ _, .none_int _ _⟩
   | str b=>unfold Has at hy;subst hy;obtain ⟨t',rfl⟩:=rv;unfold Dat.pq;exact ⟨.none_str _ _, .none_str _ _, .none_str _ _⟩
   | tup es=>unfold Has at hy;obtain ⟨p,ys,rfl,hp,_⟩:=hy;cases rv;obtain ⟨its,r,pt⟩:=JH ok hp;unfold Dat.pq;exact ⟨.none_tuple pt hu, .none_tuple pt hu, .none_tuple pt hu⟩
   | lst es=>unfold Has at hy;obtain ⟨p,ys,rfl,hp,_⟩:=hy;cases rv;obtain ⟨its,r,pt⟩:=JP ok hp;unfold Dat.pq;exact ⟨.none_list pt hu, .none_list pt hu, .none_list pt hu⟩
  | bl a=>
   unfold Has at hx;subst hx;cases ru
   cases d2 with
   | non=>unfold Has at hy;subst hy;cases rv;unfold Dat.pq;exact ⟨.bool_none _, .bool_none _, .bool_none _⟩
   | bl b=>unfold Has at hy;subst hy;cases rv;unfold Dat.pq;exact ⟨.bool_bool _ _, .bool_bool _ _, .bool_bool _ _⟩
   | int b=>unfold Has at hy;subst hy;obtain ⟨t',rfl⟩:=rv;unfold Dat.pq;exact ⟨.bool_int _ _ _, .bool_int _ _ _, .bool_int _ _ _⟩
   | str b=>unfold Has at hy;subst hy;obtain ⟨t',rfl⟩:=rv;unfold Dat.pq;exact ⟨.bool_str _ _ _, .bool_str _ _ _, .bool_str _ _ _⟩
   | tup es=>unfold Has at hy;obtain ⟨p,ys,rfl,hp,_⟩:=hy;cases rv;obtain ⟨its,r,pt⟩:=JH ok hp;unfold Dat.pq;exact ⟨.bool_tuple _ pt hu, .bool_tuple _ pt hu, .bool_tuple _ pt hu⟩
   | lst es=>unfold Has at hy;obtain ⟨p,ys,rfl,hp,_⟩:=hy;cases rv;obtain ⟨its,r,pt⟩:=JP ok hp;unfold Dat.pq;exact ⟨.bool_list _ pt hu, .bool_list _ pt hu, .bool_list _ pt hu⟩
  | int a=>
   unfold Has at hx;subst hx;obtain ⟨t,rfl⟩:=ru
   cases d2 with
   | non=>unfold Has at hy;subst hy;cases rv;unfold Dat.pq;exact ⟨.int_none _ _, .int_none _ _, .int_none _ _⟩
   | bl b=>unfold Has at hy;subst hy;cases rv;unfold Dat.pq;exact ⟨.int_bool _ _ _, .int_bool _ _ _, .int_bool _ _ _⟩
   | int b=>unfold Has at hy;subst hy;obtain ⟨t',rfl⟩:=rv;unfold Dat.pq;exact ⟨.int_int _ _ _ _, .int_int _ _ _ _, .int_int _ _ _ _⟩
   | str b=>unfold Has at hy;subst hy;obtain ⟨t',rfl⟩:=rv;unfold Dat.pq;exact ⟨.int_str _ _ _ _, .int_str _ _ _ _, .int_str _ _ _ _⟩
   | tup es=>unfold Has at hy;obtain ⟨p,ys,rfl,hp,_⟩:=hy;cases rv;obtain ⟨its,r,pt⟩:=JH ok hp;unfold Dat.pq;exact ⟨.int_tuple _ _ pt hu, .int_tuple _ _ pt hu, .int_tuple _ _ pt hu⟩
   | lst es=>unfold Has at hy;obtain ⟨p,ys,rfl,hp,_⟩:=hy;cases rv;obtain ⟨its,r,pt⟩:=JP ok hp;unfold Dat.pq;exact ⟨.int_list _ _ pt hu, .int_list _ _ pt hu, .int_list _ _ pt hu⟩
  | str a=>
   unfold Has at hx;subst hx;obtain ⟨t,rfl⟩:=ru
   cases d2 with
   | non=>unfold Has at hy;subst hy;cases rv;unfold Dat.pq;exact ⟨.str_none _ _, .str_none _ _, .str_none _ _⟩
   | bl b=>unfold Has at hy;subst hy;cases rv;unfold Dat.pq;exact ⟨.str_bool _ _ _, .str_bool _ _ _, .str_bool _ _ _⟩
   | int b=>unfold Has at hy;subst hy;obtain ⟨t',rfl⟩:=rv;unfold Dat.pq;exact ⟨.str_int _ _ _ _, .str_int _ _ _ _, .str_int _ _ _ _⟩
   | str b=>unfold Has at hy;subst hy;obtain ⟨t',rfl⟩:=rv;unfold Dat.pq;exact ⟨.str_str _ _ _ _, .str_str _ _ _ _, .str_str _ _ _ _⟩
   | tup es=>unfold Has at hy;obtain ⟨p,ys,rfl,hp,_⟩:=hy;cases rv;obtain ⟨its,r,pt⟩:=JH ok hp;unfold Dat.pq;exact ⟨.str_tuple _ _ pt hu, .str_tuple _ _ pt hu, .str_tuple _ _ pt hu⟩
   | lst es=>unfold Has at hy;obtain ⟨p,ys,rfl,hp,_⟩:=hy;cases rv;obtain ⟨its,r,pt⟩:=JP ok hp;unfold Dat.pq;exact ⟨.str_list _ _ pt hu, .str_list _ _ pt hu, .str_list _ _ pt hu⟩
  | tup ds=>
   unfold Has at hx;obtain ⟨p,xs,rfl,hp,hxs⟩:=hx;cases ru;obtain ⟨its,r,pt⟩:=JH ok hp
   cases d2 with
   | non=>unfold Has at hy;subst hy;cases rv;unfold Dat.pq;exact ⟨.tuple_none pt hu, .tuple_none pt hu, .tuple_none pt hu⟩
   | bl b=>unfold Has at hy;subst hy;cases rv;unfold Dat.pq;exact ⟨.tuple_bool _ pt hu, .tuple_bool _ pt hu, .tuple_bool _ pt hu⟩
   | int b=>unfold Has at hy;subst hy;obtain ⟨t',rfl⟩:=rv;unfold Dat.pq;exact ⟨.tuple_int _ _ pt hu, .tuple_int _ _ pt hu, .tuple_int _ _ pt hu⟩
   | str b=>unfold Has at hy;subst hy;obtain ⟨t',rfl⟩:=rv;unfold Dat.pq;exact ⟨.tuple_str _ _ pt hu, .tuple_str _ _ pt hu, .tuple_str _ _ pt hu⟩
   | lst es=>unfold Has at hy;obtain ⟨q,ys,rfl,hq,_⟩:=hy;cases rv;obtain ⟨its2,r2,pt2⟩:=JP ok hq;unfold Dat.pq;exact ⟨.tuple_list pt pt2 hu, .tuple_list pt pt2 hu, .tuple_list pt pt2 hu⟩
   | tup es=>
    unfold Has at hy;obtain ⟨p2,ys,rfl,hp2,hys⟩:=hy;cases rv;obtain ⟨its2,r2,pt2⟩:=JH ok hp2;have l1:=hxs.length;have l2:=hys.length;have l3:=r.length;have l4:=r2.length;have dd:Dat.deps ds + 1<=n:=by unfold Dat.dep at hn;omega
    obtain ⟨m,rfl⟩:∃ m,n=m + 1:=⟨n - 1,by omega⟩
    have it:∀ j (h1:j < its.toArray.size) (h2:j < its2.toArray.size),EqAt A.in1 s its.toArray[j] its2.toArray[j] ((fun i=>((ds[i]?).getD .non).pq ((es[i]?).getD .non)) j):=by
     intro j h1 h2;rw [List.size_toArray] at h1 h2;have j1:j < xs.length:=by omega
     have j2:j < ys.length:=by omega
     obtain ⟨d,hd,hh⟩:=hxs.get (List.getElem?_eq_getElem j1);obtain ⟨d',hd',hh'⟩:=hys.get (List.getElem?_eq_getElem j2);obtain ⟨u1,hu1,ru1⟩:=r.get (List.getElem?_eq_getElem j1);obtain ⟨u2,hu2,ru2⟩:=r2.get (List.getElem?_eq_getElem j2);have i1:its.toArray[j]=u1:=by have z:=(List.getElem?_eq_some_iff.mp hu1).2;simpa using z
     have i2:its2.toArray[j]=u2:=by have z:=(List.getElem?_eq_some_iff.mp hu2).2;simpa using z
     dsimp only;rw [i1,i2,hd,hd'];have c1:=Dat.deps_get hd;exact (Uj ok m d d' A.in1 (by omega) hh hh' ru1 ru2 hr.in1).eq
    have k1:its.toArray.size=ds.length:=by rw [List.size_toArray];omega
    have k2:its2.toArray.size=es.length:=by rw [List.size_toArray];omega
    have q:=RcAt.tuples (A:=A) pt pt2 hu it;have qn:=RcNeAt.tuples (A:=A) pt pt2 hu it;rw [k1,k2,Xj] at q qn;have e0:(Dat.tup ds).pq (Dat.tup es)=Dat.pqs ds es:=by conv=>lhs;unfold Dat.pq
    rw [e0];refine ⟨?_,q,qn⟩
    by_cases e:p=p2
    .subst e
     rw [hp] at hp2;cases hp2;rw [HasL.inj ds es hxs hys,Dat.pqs_self];exact EqAt.same _
    .exact EqAt.of_refs e q
  | lst ds=>
   unfold Has at hx;obtain ⟨p,xs,rfl,hp,hxs⟩:=hx;cases ru;obtain ⟨its,r,pt⟩:=JP ok hp
   cases d2 with
   | non=>unfold Has at hy;subst hy;cases rv;unfold Dat.pq;exact ⟨.list_none pt hu, .list_none pt hu, .list_none pt hu⟩
   | bl b=>unfold Has at hy;subst hy;cases rv;unfold Dat.pq;exact ⟨.list_bool _ pt hu, .list_bool _ pt hu, .list_bool _ pt hu⟩
   | int b=>unfold Has at hy;subst hy;obtain ⟨t',rfl⟩:=rv;unfold Dat.pq;exact ⟨.list_int _ _ pt hu, .list_int _ _ pt hu, .list_int _ _ pt hu⟩
   | str b=>unfold Has at hy;subst hy;obtain ⟨t',rfl⟩:=rv;unfold Dat.pq;exact ⟨.list_str _ _ pt hu, .list_str _ _ pt hu, .list_str _ _ pt hu⟩
   | tup es=>unfold Has at hy;obtain ⟨q,ys,rfl,hq,_⟩:=hy;cases rv;obtain ⟨its2,r2,pt2⟩:=JH ok hq;unfold Dat.pq;exact ⟨.list_tuple pt pt2 hu, .list_tuple pt pt2 hu, .list_tuple pt pt2 hu⟩
   | lst es=>
    unfold Has at hy;obtain ⟨p2,ys,rfl,hp2,hys⟩:=hy;cases rv;obtain ⟨its2,r2,pt2⟩:=JP ok hp2;have l1:=hxs.length;have l2:=hys.length;have l3:=r.length;have l4:=r2.length;have dd:Dat.deps ds + 1<=n:=by unfold Dat.dep at hn;omega
    obtain ⟨m,rfl⟩:∃ m,n=m + 1:=⟨n - 1,by omega⟩
    have it:∀ j (h1:j < its.toArray.size) (h2:j < its2.toArray.size),EqAt A.in1 s its.toArray[j] its2.toArray[j] ((fun i=>((ds[i]?).getD .non).pq ((es[i]?).getD .non)) j):=by
     intro j h1 h2;rw [List.size_toArray] at h1 h2;have j1:j < xs.length:=by omega
     have j2:j < ys.length:=by omega
     obtain ⟨d,hd,hh⟩:=hxs.get (List.getElem?_eq_getElem j1);obtain ⟨d',hd',hh'⟩:=hys.get (List.getElem?_eq_getElem j2);obtain ⟨u1,hu1,ru1⟩:=r.get (List.getElem?_eq_getElem j1);obtain ⟨u2,hu2,ru2⟩:=r2.get (List.getElem?_eq_getElem j2);have i1:its.toArray[j]=u1:=by have z:=(List.getElem?_eq_some_iff.mp hu1).2;simpa using z
     have i2:its2.toArray[j]=u2:=by have z:=(List.getElem?_eq_some_iff.mp hu2).2;simpa using z
     dsimp only;rw [i1,i2,hd,hd'];have c1:=Dat.deps_get hd;exact (Uj ok m d d' A.in1 (by omega) hh hh' ru1 ru2 hr.in1).eq
    have k1:its.toArray.size=ds.length:=by rw [List.size_toArray];omega
    have k2:its2.toArray.size=es.length:=by rw [List.size_toArray];omega
    have e0:(Dat.lst ds).pq (Dat.lst es)=Dat.pqs ds es:=by conv=>lhs;unfold Dat.pq
    rw [e0]
    have qq:RcAt A s (.ref p) (.ref p2) (Dat.pqs ds es)/\RcNeAt A s (.ref p) (.ref p2) (!Dat.pqs ds es):=by
     by_cases e:ds.length=es.length
     .have q:=RcAt.lists (A:=A) pt pt2 (by omega) hu it
      have qn:=RcNeAt.lists (A:=A) pt pt2 (by omega) hu it;rw [k1,Fy e] at q qn;exact ⟨q,qn⟩
     .have z:(its.toArray.size !=its2.toArray.size)=true:=by rw [k1,k2];simp [e]
      rw [LU e];exact ⟨RcAt.lists_lengths (A:=A) pt pt2 z hu,RcNeAt.lists_lengths (A:=A) pt pt2 z hu⟩
    refine ⟨?_,qq.1,qq.2⟩
    by_cases e:p=p2
    .subst e
     rw [hp] at hp2;cases hp2;rw [HasL.inj ds es hxs hys,Dat.pqs_self];exact EqAt.same _
    .exact EqAt.of_refs e qq.1
 termination_by n=>n
section
def O7(k:Nat):R2:=fun x y H Q=> ∃ d e,Has H x d/\Has H y e/\d.dep<=k/\Q (.bl (d.pq e)) H
def O5(k:Nat):R2:=fun x y H Q=> ∃ d e,Has H x d/\Has H y e/\d.dep<=k/\Q (.bl (!d.pq e)) H
theorem G9(hr:Ya (k + 1) X.A):OpR X (compareOp .Eq) (O7 k):=by
 intro pins s U H x y v u Q I rx ry h;obtain ⟨d,e,hd,he,hk,q⟩:=h;exact (Uj I.hok k d e X.A hk hd he rx ry hr).rc _ _ _ _ ⟨.bl _,H,I,rfl,q⟩
theorem G8(hr:Ya (k + 1) X.A):OpR X (compareOp .NotEq) (O5 k):=by
 intro pins s U H x y v u Q I rx ry h;obtain ⟨d,e,hd,he,hk,q⟩:=h;exact (Uj I.hok k d e X.A hk hd he rx ry hr).ne _ _ _ _ ⟨.bl _,H,I,rfl,q⟩
end
inductive W where
 | non | tag (x:Str) | pair (a b:W)
def W.dat:W->Dat
 | .non=> .non
 | .tag x=> .str x
 | .pair a b=> .tup [a.dat,b.dat]
theorem Ej(h:Has H v (W.pair a b).dat):∃ p x y,v= .ref p/\H p=some (.tup [x,y])/\Has H x a.dat/\Has H y b.dat:=by
 unfold W.dat Has at h;obtain ⟨p,xs,rfl,hp,hl⟩:=h
 match xs,hl with
 | [x,y],hl=>
  unfold HasL at hl;obtain ⟨h1,h2⟩:=hl;unfold HasL at h2;exact ⟨p,x,y,rfl,hp,h1,h2.1⟩
 | [],hl=>unfold HasL at hl;exact hl.elim
 | [x],hl=>unfold HasL at hl;obtain ⟨_,h2⟩:=hl;unfold HasL at h2;exact h2.elim
 | _::_::_::_,hl=>
  unfold HasL at hl;obtain ⟨_,h2⟩:=hl;unfold HasL at h2;obtain ⟨_,h3⟩:=h2;unfold HasL at h3;exact h3.elim
theorem Xl:Has H .non W.non.dat:=by unfold W.dat Has;rfl
def W.dep:W->Nat
 | .non=>0
 | .tag _=>0
 | .pair a b=>1 + max a.dep b.dep
theorem JT(h:Has H v (.lst ds)):∃ a xs,v= .ref a/\H a=some (.lst xs)/\HasL H xs ds:=by unfold Has at h;exact h
theorem Zx(h:H a=some (.lst xs))(t:HasL H xs ds):Has H (.ref a) (.lst ds):=by unfold Has;exact ⟨a,xs,rfl,h,t⟩
def Zy(H:Hp)(p:Addr):Prop:= ∃ (a:Int) (b:Bool) (c d:Int),H p=some (.lst [.int a, .bl b, .int c, .int d])
def But(p:Addr)(H H':Hp):Prop:= ∀ b,b≠p->H' b=H b
theorem But.trans(a:But p H H1)(b:But p H1 H2):But p H H2:=fun c h=>(b c h).trans (a c h)
theorem But.upd{p:Addr}{H:Hp}(o:HO):But p H (upd H p o):=fun _ h=>ZI h
end L2
namespace K4
open PySem L2
theorem LO:ZX ["script","k"] ["script","k"] (ZL DY):=Zl
theorem Gh:ZX ["cell","k","number"] ["cell","k"] (ZL Rx):=Zl
theorem B2:ZX ["cell"] ["cell"] (ZL Gi):=Zl
section
variable{K:W.Frag}
def Bv(K:W.Frag):Sp:=fun vs H Q _=> ∃ (a:Addr) (ns:List Int) (k:Int),vs= [.ref a, .int k]/\SqL K H a (ns.map V.int)/\0<=k/\∀ c:Int,Q (.int c) H
theorem IY(B:Blt mg)(F:Fun K "_law_cell" "_law_cell" DY f fd):ZN P w K mg base CX0 (n + 1) f fd ["script","k"] (Bv K):=by
 refine F.ok LO (fun vs H Q E h=>?_) (fun cdv A outer s H vs Q E hr h=>?_)
 .obtain ⟨a,ns,k,rfl,_⟩:=h
  rfl
 obtain ⟨a,ns,k,rfl,hq,h0,q⟩:=h;refine ⟨_,ZC (Zh (ZV Wo (pv 1) (Zj Zg rfl B.len PySem.boot_len (ZA (pv 0) ZE)) (Zb _)) (ZH (ZW (ZY Zm (pv 0) (pv 1) (fun _ _=>rfl)))) ZU) (ZH (ZW ZG)),?_⟩;show let a:=_;let b:=_;ZQ (Zw _ b _) a _ _ _
 intros
 refine ⟨a,_,rfl, .inl hq,_,rfl,?_⟩;refine Yr (fun c=>?_) (fun c=>?_)
 .have c':k < ((ns.map V.int).length:Nat):=of_decide_eq_true c
  rw [List.length_map] at c';have hk:k.toNat < ns.length:=by omega
  have ek:k=((k.toNat:Nat):Int):=by omega
  have e:atI (ns.map V.int) ((k.toNat:Nat):Int)=some (.int ns[k.toNat]):=Z7 (by rw [List.getElem?_map,List.getElem?_eq_getElem hk];rfl);rw [<-ek] at e;exact ⟨_,_,hq,e,q _⟩
 .exact q _
def M7:Sp:=fun vs H Q _=> ∃ (c k:Int),vs= [.int c, .int k]/\∀ r:Int,0<=r->r < 2147483563->Q (.int r) H
theorem D6(F:Fun K "_law_mixed" "_law_mixed" Rx f fd):ZN P w K mg base CX0 (n + 1) f fd ["cell","k"] M7:=by
 refine F.ok Gh (fun vs H Q E h=>?_) (fun cdv A outer s H vs Q E hr h=>?_)
 .obtain ⟨c,k,rfl,_⟩:=h
  rfl
 obtain ⟨c,k,rfl,q⟩:=h;refine ⟨_,ZC (ZZ 2 Gh.nd (Zi Vq (Zi YT (Zi YT (Zi VE (Zi Vq (pv 0) ZG) ZG) (Zi VE ZG (pv 1))) ZG) ZG))
  (ZC (ZZ 2 Gh.nd (Zi Vq (Zi YT (Zi YT (Zi VE (pv 2) (pv 2)) (Zi VE ZG (pv 1))) ZG) ZG))
  (ZH (ZW (Zi Vq (Zi VE (pv 2) (Zi YT (pv 2) ZG)) ZG)))),?_⟩
 show let a:=_;let b:=ZQ _ a;ZQ _ b _ _ _
 intros
 have m1:=Int.emod_nonneg c (show (2147483647:Int)≠0 by decide);have m2:=Int.emod_lt_of_pos c (show (0:Int) < 2147483647 by decide);refine ⟨(by show (0:Int) < _;decide), .inl ⟨by omega,by omega⟩, .inl ⟨by decide,by decide⟩,(by show (0:Int) < _;decide),?_⟩;generalize hx:(c % 2147483647 * 48271 + 69621 * k + 7919) % 2147483629=x;have x1:0<=x:=by rw [<-hx];exact Int.emod_nonneg _ (by decide)
 have x2:x < 2147483629:=by rw [<-hx];exact Int.emod_lt_of_pos _ (by decide)
 refine ⟨.inl ⟨by omega,by omega⟩, .inl ⟨by decide,by decide⟩,(by show (0:Int) < _;decide),?_⟩;generalize hy:(x * x + 31 * k + 5) % 2147483587=y;have y1:0<=y:=by rw [<-hy];exact Int.emod_nonneg _ (by decide)
 have y2:y < 2147483587:=by rw [<-hy];exact Int.emod_lt_of_pos _ (by decide)
 refine ⟨.inl ⟨by omega,by omega⟩,(by show (0:Int) < _;decide),?_⟩;exact q _ (Int.emod_nonneg _ (by decide)) (Int.emod_lt_of_pos _ (by decide))
def Xt:Sp:=fun vs H Q _=> ∃ (c:Int),vs= [.int c]/\∀ p H',H p=none->But p H H'->Zy H' p->Q (.ref p) H'
theorem Wq(F:Fun K "_law_stream" "_law_stream" Gi f fd):ZN P w K mg base CX0 (n + 1) f fd ["cell"] Xt:=by
 refine F.ok B2 (fun vs H Q E h=>?_) (fun cdv A outer s H vs Q E hr h=>?_)
 .obtain ⟨c,rfl,_⟩:=h
  rfl
 obtain ⟨c,rfl,q⟩:=h;refine ⟨_,ZH (ZW (Z8 (ZA (pv 0) (ZA (OU (Y4 Kq (pv 0) (Zi Ds ZG ZG) (Zb _)) (UK (Y4 XG (pv 0) (Kp Bm (Zi Ds ZG ZG)) (Zb _)))) (ZA ZG (ZA (Zi Vq (pv 0) ZG) ZE)))))),?_⟩;have cp:Os 10 18:=⟨by decide,by decide,by decide⟩;refine ⟨cp,_,rfl,?_⟩;refine Yr (fun _=>?_) (fun _=>?_)
 .refine ⟨(by show (0:Int) < _;decide),sl 4,fun p hp=>?_⟩
  exact q p _ hp (But.upd _) ⟨_,_,_,_,ZD⟩
 .refine ⟨cp,_,rfl,?_⟩
  refine ⟨(by show (0:Int) < _;decide),sl 4,fun p hp=>?_⟩;exact q p _ hp (But.upd _) ⟨_,_,_,_,ZD⟩
def Yo:Sp:=fun vs H Q _=> ∃ (p:Addr) (many:Int),vs= [.ref p, .int many]/\Zy H p/\0 < many/\many < 1073741824/\∀ (r:Int) (H':Hp),0<=r->r < many->But p H H'->Zy H' p->Q (.int r) H'
theorem IO(F:Fun K "_law_take" "_law_take" DD f fd)(G:ZN P w K mg base CX0 n g gd ["cell","k"] M7)(bG:Binds K gd ["cell","k"] [])(kG:W.keepIn K (.ref g)=true)(mG:mg "_law_mixed" =some (.ref g)):
  ZN P w K mg base CX0 (n + 1) f fd ["stream","many"] Yo:=by
 refine F.ok B0 (fun vs H Q E h=>?_) (fun cdv A outer s H vs Q E hr h=>?_)
 .obtain ⟨p,many,rfl,_⟩:=h
  rfl
 obtain ⟨p,many,rfl,⟨a,b,c,d,hp⟩,m0,m1,q⟩:=h;refine ⟨_,ZC (Zh (YN (ZY Zm (pv 0) ZG))
   (ZC (ZZ 2 B0.nd (Zi Vq (ZY Zm (pv 0) ZG) (pv 1)))
   (ZC (Vo (Zi NN (ZY Zm (pv 0) ZG) (pv 1)) (WD (pv 0) ZG set_list))
   (ZC (Vo (UL (Y4 XF (ZY Zm (pv 0) ZG) ZG (Zb _)) (UK (Y4 XF (ZY Zm (pv 0) ZG) (Kp Bm ZG) (Zb _)))) (WD (pv 0) ZG set_list))
   (ZH (ZW (pv 2)))))) ZU)
  (ZC (Vo (Zi YT (ZY Zm (pv 0) ZG) ZG) (WD (pv 0) ZG set_list))
  (ZH (ZW (Zi Vq (Zi NN (ZM G hr rfl mG kG bG .nil ZT (ZA (ZY Zm (pv 0) ZG) (ZA (ZY Zm (pv 0) ZG) ZE))) ZG) (pv 1))))),?_⟩
 show let a:=_;let b:=ZQ _ a;let c:=_;let d:=ZQ _ c;let e:=ZQ _ d;let f:=ZQ _ e;ZQ (Zw _ f _) b _ _ _
 intros
 refine ⟨_,_,SqL.of hp,rfl,_,rfl,?_⟩;refine Yr (fun hb=>?_) (fun hb=>?_)
 .refine ⟨_,_,SqL.of hp,rfl,m0,?_⟩
  refine ⟨_,_,SqL.of hp,rfl,⟨m0,m1⟩,p,_,0,0,rfl,rfl,hp,rfl,?_⟩;have h1:upd H p (.lst [.int (a / many), .bl b, .int c, .int d]) p=some (.lst [.int (a / many), .bl b, .int c, .int d]):=ZD;refine ⟨_,_,SqL.of h1,rfl,rfl,_,rfl,?_⟩;have r0:=Int.emod_nonneg a (show many≠0 by omega);have r1:=Int.emod_lt_of_pos a m0;refine Yr (fun _=>?_) (fun _=>?_)
  .refine ⟨_,_,SqL.of h1,rfl,_,rfl,rfl,p,_,1,1,rfl,rfl,h1,rfl,?_⟩
   exact q _ _ r0 r1 ((But.upd _).trans (But.upd _)) ⟨_,_,_,_,ZD⟩
  .refine ⟨p,_,1,1,rfl,rfl,h1,rfl,?_⟩
   exact q _ _ r0 r1 ((But.upd _).trans (But.upd _)) ⟨_,_,_,_,ZD⟩
 .refine ⟨_,_,SqL.of hp,rfl,p,_,2,2,rfl,rfl,hp,rfl,?_⟩
  have h1:upd H p (.lst [.int a, .bl b, .int (c + 1), .int d]) p=some (.lst [.int a, .bl b, .int (c + 1), .int d]):=ZD;refine ⟨_,_,SqL.of h1,rfl,_,_,SqL.of h1,rfl,_,_,rfl,fun r r0 r1=>?_⟩;refine ⟨⟨by decide,by decide⟩,m0,?_⟩;exact q _ _ (Int.emod_nonneg _ (by omega)) (Int.emod_lt_of_pos _ m0) (But.upd _) ⟨_,_,_,_,ZD⟩
end
end K4
namespace L2
open PySem
def alpha(o:Nat):Str:=⟨((List.range 26).map (o + ·)).toArray⟩
def one(c:Nat):Str:=⟨#[c]⟩
def txt(cs:List Nat):Str:=⟨cs.toArray⟩
theorem XB(o:Nat):(alpha o).length=26:=by show ((List.range 26).map (o + ·)).toArray.size=26;simp
theorem RU(o:Nat)(j:Int)(h0:0<=j)(h1:j < 26):atI (alpha o).cps.toList j=some (o + j.toNat):=by
 obtain ⟨n,rfl⟩:∃ n:Nat,j=n:=⟨j.toNat,by omega⟩;refine Z7 ?_;show (((List.range 26).map (o + ·)).toArray.toList)[n]?=_;rw [List.toList_toArray,List.getElem?_map,List.getElem?_range (by omega)]
 rfl
theorem EO(ho:o=97 \/ o=65)(h:o<=c/\c < o + 26):∃ i rest,Builtin.Str.occurrences (alpha o) (one c) 0 (alpha o).length 1=i::rest:=by
 have all:∀ j < 26,(Builtin.Str.occurrences (alpha 97) (one (97 + j)) 0 26 1).isEmpty=false/\(Builtin.Str.occurrences (alpha 65) (one (65 + j)) 0 26 1).isEmpty=false:=by decide +kernel
 rw [XB]
 have key:(Builtin.Str.occurrences (alpha o) (one c) 0 26 1).isEmpty=false:=by
  have a:=all (c - o) (by omega);rcases ho with rfl | rfl
  .have e:97 + (c - 97)=c:=by omega
   rw [e] at a;exact a.1
  .have e:65 + (c - 65)=c:=by omega
   rw [e] at a;exact a.2
 cases q:Builtin.Str.occurrences (alpha o) (one c) 0 26 1 with
 | nil=>rw [q] at key;cases key
 | cons i r=>exact ⟨i,r,rfl⟩
theorem Nb{cs:List Nat}(h:cs.length=8):∃ a b c d e f g i,cs= [a,b,c,d,e,f,g,i]:=by
 match cs,h with
 | [a,b,c,d,e,f,g,i],_=>exact ⟨a,b,c,d,e,f,g,i,rfl⟩
theorem Od(h:cs.length=8):Txt.join (Str.ofString "") (cs.map one)=txt cs:=by
 obtain ⟨a,b,c,d,e,f,g,i,rfl⟩:=Nb h
 rfl
theorem Tb(h:cs.length=8)(j:Nat)(hj:j<=8):Txt.slice (txt cs) none (some (j:Int))=txt (cs.take j):=by
 obtain ⟨a,b,c,d,e,f,g,i,rfl⟩:=Nb h
 match j,hj with
 | 0,_ | 1,_ | 2,_ | 3,_ | 4,_ | 5,_ | 6,_ | 7,_ | 8,_=>rfl
theorem E6(h:cs.length=8)(j:Nat)(hj:j<=8):Txt.slice (txt cs) (some (j:Int)) none=txt (cs.drop j):=by
 obtain ⟨a,b,c,d,e,f,g,i,rfl⟩:=Nb h
 match j,hj with
 | 0,_ | 1,_ | 2,_ | 3,_ | 4,_ | 5,_ | 6,_ | 7,_ | 8,_=>
  unfold Txt.slice;rw [show (txt [a,b,c,d,e,f,g,i]).length=8 from rfl]
  first
   | (rw [if_pos (by decide +kernel)];rfl)
   | (rw [if_neg (by decide +kernel)];rfl)
theorem W8(a b:List Nat):txt a++ txt b=txt (a++ b):=by
 show (⟨a.toArray++ b.toArray⟩:Str)=⟨(a++ b).toArray⟩;simp
theorem FT(h:txt a=txt b):a=b:=by
 have q:a.toArray=b.toArray:=congrArg Str.cps h;simpa using q
theorem W7(a:List Nat):(txt a).length=a.length:=by show a.toArray.size=a.length;simp
def wd(o:Nat)(cs:List Nat)(at' way i k:Nat):List Nat:=
 if way=0 then cs.take at'++ [o + (i + 5 * k) % 26]++ cs.drop (at' + 1)
 else if way=1 then [o + (i + 5 * k) % 26]++ cs.take ((3 * k + at') % 8)
 else if way=2 then cs.take (k % 8 + 1)
 else cs.take (8 - k % 8)
theorem L8(h8:cs.length=8)(ha:at' < 8)(hm:way < 2/\l < 24 \/ l < 8)(hkl:k < l):wd o cs at' way i k≠wd o cs at' way i l:=by
 intro e;have d:(i + 5 * k) % 26≠(i + 5 * l) % 26 \/ l ≥ 26:=by omega
 unfold wd at e
 by_cases w0:way=0
 .rw [if_pos w0,if_pos w0] at e
  have q:=congrArg (fun x:List Nat=>x[at']?) e;have lt:(cs.take at').length=at':=by rw [List.length_take];omega
  have g:∀ x:Nat,(cs.take at'++ [x]++ cs.drop (at' + 1))[at']?=some x:=fun x=>by
   rw [List.append_assoc,List.getElem?_append_right (by omega),lt];simp
  have q':=(g _).symm.trans (q.trans (g _));simp at q';omega
 rw [if_neg w0,if_neg w0] at e
 by_cases w1:way=1
 .rw [if_pos w1,if_pos w1] at e
  simp at e;omega
 rw [if_neg w1,if_neg w1] at e;have l8:l < 8:=by omega
 by_cases w2:way=2
 .rw [if_pos w2,if_pos w2] at e
  have q:=congrArg List.length e;rw [List.length_take,List.length_take] at q;omega
 rw [if_neg w2,if_neg w2] at e;have q:=congrArg List.length e;rw [List.length_take,List.length_take] at q;omega
theorem K3(h8:cs.length=8)(ha:at' < 8):1<=(wd o cs at' way i k).length/\(wd o cs at' way i k).length<=8:=by
 unfold wd
 split
 .simp only [List.length_append,List.length_take,List.length_drop,List.length_singleton];omega
 split
 .simp only [List.length_append,List.length_take,List.length_singleton];omega
 split
 .rw [List.length_take];omega
 .rw [List.length_take];omega
theorem L9(hc:∀ c∈cs,o<=c/\c < o + 26):∀ c∈wd o cs at' way i k,o<=c/\c < o + 26:=by
 have z:o<=o + (i + 5 * k) % 26/\o + (i + 5 * k) % 26 < o + 26:=by omega
 intro c h;unfold wd at h
 split at h
 .simp only [List.mem_append,List.mem_singleton] at h
  rcases h with (h | h) | h
  .exact hc c (List.mem_of_mem_take h)
  .rw [h];exact z
  .exact hc c (List.mem_of_mem_drop h)
 split at h
 .simp only [List.mem_append,List.mem_singleton] at h
  rcases h with h | h
  .rw [h];exact z
  .exact hc c (List.mem_of_mem_take h)
 split at h
 .exact hc c (List.mem_of_mem_take h)
 .exact hc c (List.mem_of_mem_take h)
structure Wds(o:Nat)(ys:List Str):Prop where
 nd:ys.Nodup
 len:∀ y∈ys,1<=y.length/\y.length<=8
 abc:∀ y∈ys,∀ c∈y.cps.toList,o<=c/\c < o + 26
theorem K0(h8:cs.length=8)(ha:at' < 8)(hm:way < 2/\m<=24 \/ m<=8)(hc:∀ c∈cs,o<=c/\c < o + 26):Wds o ((List.range m).map fun k=>txt (wd o cs at' way i k)):=by
 refine ⟨?_,fun y hy=>?_,fun y hy c hc'=>?_⟩
 .show List.Pairwise _ _
  rw [List.pairwise_map];refine List.Pairwise.imp_of_mem ?_ (List.pairwise_lt_range (n:=m));intro a b ha' hb hab e;exact L8 (i:=i) h8 ha (by have:=List.mem_range.mp hb;omega) hab (FT e)
 .obtain ⟨k,_,rfl⟩:=List.mem_map.mp hy
  rw [W7];exact K3 h8 ha
 .obtain ⟨k,_,rfl⟩:=List.mem_map.mp hy
  exact L9 hc c (by simpa [txt] using hc')
def SameB(p:Addr)(H H':Hp):Prop:= ∀ b o,b≠p->H b=some o->H' b=some o
theorem SameB.refl(p:Addr)(H:Hp):SameB p H H:=fun _ _ _ h=>h
theorem SameB.trans(a:SameB p H H1)(b:SameB p H1 H2):SameB p H H2:=fun c o n h=>b c o n (a c o n h)
theorem But.sb(a:But p H H'):SameB p H H':=fun b o n h=>(a b n).trans h
theorem Same.sb(a:Same H H'):SameB p H H':=fun b o _ h=>a b o h
theorem SameB.free(a:SameB p H H')(n:r≠p)(h:H' r=none):H r=none:=by
 cases e:H r with
 | none=>rfl
 | some o=>rw [a r o n e] at h;cases h
theorem SameB.put(a:SameB p H H')(h:H r=none):SameB p H (upd H' r o):=fun b u n e=>by
 rw [ZI (ZJ e h)];exact a b u n e
theorem Zy.ne(s:Zy H p)(h:H r=none):r≠p:=fun e=>by
 obtain ⟨a,b,c,d,q⟩:=s;rw [<-e,h] at q;cases q
theorem Zy.keep(s:Zy H p)(e:H' p=H p):Zy H' p:=by
 obtain ⟨a,b,c,d,q⟩:=s;exact ⟨a,b,c,d,e.trans q⟩
theorem Tt(a b:Str):(a++ b).length=a.length + b.length:=by
 show (a.cps++ b.cps).size=a.cps.size + b.cps.size;simp
theorem L1(h:cs.length=8)(lo hi:Option Int):(Txt.slice (txt cs) lo hi).length<=8:=by
 have q:=Txt.slice_le (txt cs) lo hi;rw [W7,h] at q;exact q
theorem OT{at' way i k:Nat}(h:way < 4):atI [V.str (txt (cs.take at'++ [o + (i + 5 * k) % 26]++ cs.drop (at' + 1))),V.str (txt ([o + (i + 5 * k) % 26]++ cs.take ((3 * k + at') % 8))),V.str (txt (cs.take (k % 8 + 1))),V.str (txt (cs.take (8 - k % 8)))] (way:Int)=some (V.str (txt (wd o cs at' way i k))):=by
 match way,h with
 | 0,_ | 1,_ | 2,_ | 3,_=>rfl
end L2
namespace K4
open PySem L2
theorem Vu:ZX ["stream","many","letters","ways","k","base","at","way","words","sign","some"] ["stream","many","letters","ways"] (ZL Rp):=Zl
theorem Lh:List.Nodup [("k" :Str),"letters","stream"]:=by decide +kernel
section
def XY:Sp:=fun vs H Q _=> ∃ (p:Addr) (many:Nat) (o:Nat) (ways:Nat),vs= [.ref p, .int many, .str (alpha o), .int ways]/\Zy H p/\(o=97 \/ o=65)/\0 < ways/\(ways<=2/\many<=24 \/ ways<=4/\many<=8)/\
 ∀ (r:Addr) (ys:List Str) (H':Hp),SameB p H H'->Zy H' p->H r=none->r≠p->H' r=some (.lst (ys.map V.str))->ys.length=many->Wds o ys->Q (.ref r) H'
theorem Dt(B:Blt mg)(F:Fun K "_law_words" "_law_words" Rp f fd)(G:ZN P w K mg base CX0 n g gd ["stream","many"] Yo)(bG:Binds K gd ["stream","many"] [])(kG:W.keepIn K (.ref g)=true)(mG:mg "_law_take" =some (.ref g)):
  ZN P w K mg base CX0 (n + 1) f fd ["stream","many","letters","ways"] XY:=by
 refine F.ok Vu (fun vs H Q E h=>?_) (fun cdv A outer s H vs Q E hr h=>?_)
 .obtain ⟨p,many,o,ways,rfl,_⟩:=h
  rfl
 obtain ⟨p,many,o,ways,rfl,hs,ho,hw,hm,q⟩:=h;refine ⟨_,ZC (ZZ 5 Vu.nd (Vw PySem.F.plainAttrs_str PySem.F.slot_str_join PySem.F.type_str_join Ii Zf (ZA (Yd ["k"] [2,0] (JA rfl B.range (ZA ZG ZE)) (YI (i:=0) (by decide))
   (fun cl C fp s H=>ZO 0 Lh rfl (Or.inl rfl) (Or.inr rfl)) (fun cl C fp s H=>ZY (r:=OS) Md (pv 1) (ZM G hr rfl mG kG bG .nil ZT (ZA (pv 2) (ZA ZG ZE))) (fun _ _=>rfl))) ZE)))
  (ZC (ZZ 6 Vu.nd (ZM G hr rfl mG kG bG .nil ZT (ZA (pv 0) (ZA ZG ZE))))
  (ZC (ZZ 7 Vu.nd (ZM G hr rfl mG kG bG .nil ZT (ZA (pv 0) (ZA (pv 3) ZE))))
  (ZC (ZZ 8 Vu.nd (Z8 ZE))
  (ZC (YO PassesOwn.never rfl (JA rfl B.range (ZA (pv 1) ZE)) (ZO 4 Vu.nd)
   (ZC (ZZ 9 Vu.nd (ZY Md (pv 2) (Zi Vq (Zi YT (Vw PySem.F.plainAttrs_str PySem.F.slot_str_index PySem.F.type_str_index EW (pv 2) (ZA (ZY Md (pv 5) (pv 6) (fun _ _=>rfl)) ZE)) (Zi VE ZG (pv 4))) ZG) (fun _ _=>rfl)))
   (ZC (ZZ 10 Vu.nd (Z8 (ZA (Zi JO (Zi JO (Yw Xz (pv 5) VU (Y2 (pv 6))) (pv 9)) (Yw Xz (pv 5) (Y2 (Zi YT (pv 6) ZG)) VU))
    (ZA (Zi JO (pv 9) (Yw Xz (pv 5) VU (Y2 (Zi Vq (Zi YT (Zi VE ZG (pv 4)) (pv 6)) ZG))))
    (ZA (Yw Xz (pv 5) VU (Y2 (Zi YT (Zi Vq (pv 4) ZG) ZG)))
    (ZA (Yw Xz (pv 5) VU (Y2 (Zi Vp ZG (Zi Vq (pv 4) ZG)))) ZE))))))
   (ZH (YC (Vw PySem.F.plainAttrs_list PySem.F.slot_list_append PySem.F.type_list_append Yf (pv 8) (ZA (ZY Zm (pv 10) (pv 7) (fun _ _=>rfl)) ZE)))))))
  (ZH (ZW (pv 8))))))),?_⟩
 show let a:=_;let b:=_;let c:=ZQ _ b;let d:=ZQ _ c;let e:=ZQ (VX _ _ d) a;let f:=ZQ _ e;let g:=ZQ _ f;let h:=ZQ _ g;ZQ _ h _ _ _
 intros
 have em:((many:Nat):Int).toNat=many:=Int.toNat_natCast _;refine ⟨rfl,8,rfl,by decide,by decide,?_⟩;refine YE 8 (ZK (by decide)) (fun i vs H'=>SameB p H H'/\Zy H' p/\∃ cs:List Nat,vs=cs.map (fun c=>V.str (one c))/\cs.length=i/\∀ c∈cs,o<=c/\c < o + 26) ⟨SameB.refl _ _,hs, [],rfl,rfl,fun c h=>nomatch h⟩
  (fun i vs H' z=>by obtain ⟨_,_,cs,e,l,_⟩:=z;rw [e,List.length_map,l]) (fun i vs H' hi z=>hi) (fun vs H' z=>Nat.le_refl _) ?_ ?_
 .intro i vs H' x H'' R hi z yl hR
  obtain ⟨rfl,rfl⟩:=yl;obtain ⟨z1,z2,cs,rfl,zl,zc⟩:=z;refine ⟨p,26,rfl,z2,by decide,by decide,fun r H3 r0 r1 b s3=>?_⟩;refine ⟨alpha o,r,o + r.toNat,rfl,rfl,by rw [XB];decide,RU o r r0 r1,hR _ _ ⟨z1.trans b.sb,s3,cs++ [o + r.toNat],by rw [List.map_append];rfl,by rw [List.length_append,zl];rfl,fun c hc=>?_⟩⟩;rcases List.mem_append.mp hc with h | h
  .exact zc c h
  .rw [List.mem_singleton.mp h];omega
 intro vs H1 pl z hpl;obtain ⟨z1,z2,cs,rfl,z8,zc⟩:=z;have npl:pl≠p:=z2.ne hpl;have e1:cs.map (fun c=>V.str (one c))=(cs.map one).map V.str:=by rw [List.map_map];rfl
 refine ⟨_,pl,cs.map one,rfl,rfl,SqL.of (by rw [ZD,e1]),?_,?_⟩
 .obtain ⟨a,b,c,d,e,f,g,i,rfl⟩:=Nb z8
  show (8:Nat) + 8 * 0<=16777216
  decide
 rw [Od z8];have s1:Zy (upd H1 pl (.lst (cs.map fun c=>V.str (one c)))) p:=z2.keep (ZI (Ne.symm npl));have b1:SameB p H (upd H1 pl (.lst (cs.map fun c=>V.str (one c)))):=z1.trans (ZF hpl _).sb;generalize upd H1 pl (.lst (cs.map fun c=>V.str (one c)))=H2 at s1 b1;refine ⟨p,8,rfl,s1,by decide,by decide,fun at' H3 a0 a1 b3 s3=>?_⟩;refine ⟨p,ways,rfl,s3,by omega,by omega,fun way H4 w0 w1 b4 s4=>?_⟩;refine ⟨sl 0,fun wl hwl=>?_⟩;have b5:SameB p H H4:=(b1.trans b3.sb).trans b4.sb;have nwl:wl≠p:=s4.ne hwl;have fwl:H wl=none:=b5.free nwl hwl;obtain ⟨at1,rfl⟩:∃ n:Nat,at'=n:=⟨at'.toNat,by omega⟩;obtain ⟨way1,rfl⟩:∃ n:Nat,way=n:=⟨way.toNat,by omega⟩;have hat:at1 < 8:=by omega
 obtain ⟨c0,hc0⟩:∃ c0,cs[at1]?=some c0:=⟨cs[at1],List.getElem?_eq_getElem (by omega)⟩;obtain ⟨i0,rest,hocc⟩:=EO ho (zc c0 (List.mem_of_getElem? hc0));refine ⟨many,rfl,by omega,by omega,?_⟩
 let I:Nat->St->Hp->Prop:=fun i U H'=>SameB p H H'/\Zy H' p/\H' wl=some (.lst (((List.range i).map fun k=>txt (wd o cs at1 way1 i0 k)).map V.str))/\
  ∃ z1 z2 z3,U= [some (.ref p),some (.int many),some (.str (alpha o)),some (.int ways),z1,some (.str (txt cs)),some (.int at1),some (.int way1),some (.ref wl),z2,z3]
 refine Ug (n:=((many:Nat):Int).toNat) I ?_ ?_ ?_
 .exact ⟨b5.put fwl,s4.keep (ZI (Ne.symm nwl)),ZD,_,_,_,rfl⟩
 .rintro BB RR i U H' hi ⟨y1,y2,y3,z1,z2,z3,rfl⟩
  rw [em] at hi;have tl:(txt cs).length<=sizeLine:=by rw [W7,z8];decide
  have hidx:(0:Int)<=((i0:Int) + 5 * (0 + (i:Int))) % 26/\((i0:Int) + 5 * (0 + (i:Int))) % 26 < 26:=by omega
  have e26:(((i0:Int) + 5 * (0 + (i:Int))) % 26).toNat=(i0 + 5 * i) % 26:=by omega
  refine ⟨rfl,txt cs,at1,c0,rfl,rfl,tl,Z7 (by simpa [txt] using hc0),_,_,i0,rest,rfl,rfl,hocc, .inl ⟨by decide,by decide⟩,(by show (0:Int) < _;decide),?_⟩;refine ⟨alpha o,_,_,rfl,rfl,by rw [XB];decide,RU o _ hidx.1 hidx.2,?_⟩;rw [e26];have sg:(⟨#[o + (i0 + 5 * i) % 26]⟩:Str)=txt [o + (i0 + 5 * i) % 26]:=rfl;rw [sg]
  have eA:Txt.slice (txt cs) none (some (at1:Int))++ txt [o + (i0 + 5 * i) % 26]++ Txt.slice (txt cs) (some ((at1:Int) + 1)) none=txt (cs.take at1++ [o + (i0 + 5 * i) % 26]++ cs.drop (at1 + 1)):=by
   have z:((at1:Int) + 1)=((at1 + 1:Nat):Int):=by omega
   rw [z,Tb z8 at1 (by omega),E6 z8 (at1 + 1) (by omega),W8,W8]
  have eB:txt [o + (i0 + 5 * i) % 26]++ Txt.slice (txt cs) none (some ((3 * (0 + (i:Int)) + (at1:Int)) % 8))=txt ([o + (i0 + 5 * i) % 26]++ cs.take ((3 * i + at1) % 8)):=by
   have z:(3 * (0 + (i:Int)) + (at1:Int)) % 8=(((3 * i + at1) % 8:Nat):Int):=by omega
   rw [z,Tb z8 _ (by omega),W8]
  have eC:Txt.slice (txt cs) none (some ((0 + (i:Int)) % 8 + 1))=txt (cs.take (i % 8 + 1)):=by
   have z:(0 + (i:Int)) % 8 + 1=((i % 8 + 1:Nat):Int):=by omega
   rw [z,Tb z8 _ (by omega)]
  have eD:Txt.slice (txt cs) none (some (8 - (0 + (i:Int)) % 8))=txt (cs.take (8 - i % 8)):=by
   have z:8 - (0 + (i:Int)) % 8=((8 - i % 8:Nat):Int):=by omega
   rw [z,Tb z8 _ (by omega)]
  have small:∀ m:Nat,m<=100->m<=sizeLine:=fun m h=>Nat.le_of_lt (ZK (by omega));have k1:∀ lo hi,(Txt.slice (txt cs) lo hi).length<=8:=fun lo hi=>L1 z8 lo hi;have x1:(txt [o + (i0 + 5 * i) % 26]).length=1:=rfl;refine ⟨_,rfl,txt cs,rfl,tl,_,_,rfl,rfl,small _ (by have:=k1 none (some (at1:Int));omega),_,rfl,txt cs,rfl,tl,_,_,rfl,rfl,small _ (by have:=k1 none (some (at1:Int));have:=k1 (some ((at1:Int) + 1)) none;rw [Tt];omega),?_⟩;refine ⟨.inl ⟨by decide,by decide⟩,(by show (0:Int) < _;decide),_,rfl,txt cs,rfl,tl,_,_,rfl,rfl,small _ (by have:=k1 none (some ((3 * (0 + (i:Int)) + (at1:Int)) % 8));omega),?_⟩;refine ⟨(by show (0:Int) < _;decide),_,rfl,txt cs,rfl,tl,?_⟩;refine ⟨(by show (0:Int) < _;decide),_,rfl,txt cs,rfl,tl,sl 4,fun t ht=>?_⟩;rw [eA,eB,eC,eD];have nt:t≠p:=y2.ne ht;have ntw:wl≠t:=ZJ y3 ht;refine ⟨.inl ⟨rfl,_,SqL.of ((ZI ntw).trans y3)⟩,_,_,SqL.of ZD,OT (by omega),wl,_,_,rfl,rfl,(ZI ntw).trans y3,?_,?_⟩
  .rw [List.length_map,List.length_map,List.length_range]
   exact ZK (by omega)
  .have ft:H t=none:=y1.free nt ht
   refine ⟨(y1.put ft).put fwl,y2.keep ((ZI (Ne.symm nwl)).trans (ZI (Ne.symm nt))),?_,_,_,_,rfl⟩;rw [ZD,<-Vl,List.map_append]
   rfl
 .rintro U H' ⟨y1,y2,y3,z1,z2,z3,rfl⟩
  rw [em] at y3;refine q wl _ H' y1 y2 fwl nwl y3 (by simp) (K0 z8 hat ?_ zc);omega
end
end K4
namespace L2
open PySem PySem.Spec PyProof.Rows
mutual
def Dat.st:Dat->Bool
 | .str _=>true
 | .tup ds=>Dat.sts ds
 | _=>false
def Dat.sts:List Dat->Bool
 | []=>true
 | d::ds=>d.st && Dat.sts ds
end
theorem Dat.sts_get:∀ {ds:List Dat}{i:Nat}{d:Dat},Dat.sts ds=true->ds[i]?=some d->d.st=true
 | [],i,d,_,e=>by simp at e
 | a::ds,0,d,h,e=>by
  have e':some a=some d:=e;cases e';unfold Dat.sts at h;exact (Bool.and_eq_true_iff.mp h).1
 | a::ds,i + 1,d,h,e=>by
  unfold Dat.sts at h;exact Dat.sts_get (i:=i) (Bool.and_eq_true_iff.mp h).2 e
mutual
theorem Kl:∀ (a b:Dat),a.st=true->b.st=true->a.pq b=a.beq b
 | .str _,b,_,k=>by cases b <;> first | (unfold Dat.pq Dat.beq;rfl) | (unfold Dat.st at k;cases k)
 | .tup ds,b,h,k=>by
  unfold Dat.st at h
  cases b with
  | tup es=>unfold Dat.st at k;unfold Dat.pq Dat.beq;exact M6 ds es h k
  | str _=>unfold Dat.pq Dat.beq;rfl
  | _=>unfold Dat.st at k;cases k
 | .non,_,h,_ | .bl _,_,h,_ | .int _,_,h,_ | .lst _,_,h,_=>by unfold Dat.st at h;cases h
theorem M6:∀ (a b:List Dat),Dat.sts a=true->Dat.sts b=true->Dat.pqs a b=Dat.beqs a b
 | [],b,_,_=>by cases b <;> (unfold Dat.pqs Dat.beqs;rfl)
 | _::_, [],_,_=>by unfold Dat.pqs Dat.beqs;rfl
 | a::as,b::bs,h,k=>by
  unfold Dat.sts at h k;rw [Bool.and_eq_true] at h k;unfold Dat.pqs Dat.beqs;rw [Kl a b h.1 k.1,M6 as bs h.2 k.2]
end
def O6(K:W.Frag):R2:=fun x y H Q=> ∃ (p:Addr) (xs:List V) (ds:List Dat) (d:Dat),y= .ref p/\SqL K H p xs/\HasL H xs ds/\Has H x d/\Dat.sts ds=true/\d.st=true/\Dat.deps ds<=4/\Q (.bl (ds.any fun e=>e.beq d)) H
theorem XN:∀ {xs:List V}{us:List Value}{ds:List Dat}(e:Value->Bool),Vals xs us->HasL H xs ds->(∀ (i:Nat) (u:Value) (c:Dat),us[i]?=some u->ds[i]?=some c->e u=c.beq d)->us.any e=ds.any fun c=>c.beq d
 | [],_,ds,e,r,h,_=>by
  cases r
  cases ds with
  | nil=>rfl
  | cons _ _=>unfold HasL at h;exact h.elim
 | x::xs,_,ds,e,r,h,hz=>by
  cases r with
  | cons r1 r2=>
   cases ds with
   | nil=>unfold HasL at h;exact h.elim
   | cons c ds=>
    unfold HasL at h;rw [List.any_cons,List.any_cons,hz 0 _ c rfl rfl,XN e r2 h.2 fun i u c' e1 e2=>hz (i + 1) u c' e1 e2]
theorem N4(hr:Ya (k + 6) X.A):OpR X (compareOp .In) (O6 X.K):=by
 intro pins s U H x y v u Q I rx ry h;obtain ⟨p,xs,ds,d,rfl,hq,hl,hd,st1,st2,dp,q⟩:=h;cases ry;obtain ⟨its,r,pl,hz⟩:=I.list hq;have hr5:Ya 5 X.A.in1:=(hr.mono (by omega:6<=k + 6)).in1
 let e:Value->Bool:=fun u=> @decide (∃ (i:Nat) (c:Dat),its[i]?=some u/\ds[i]?=some c/\c.beq d=true) (Classical.propDecidable _)
 have key:∀ (i:Nat) (u:Value) (c:Dat),its[i]?=some u->ds[i]?=some c->∀ (x1:V),RelV x1 u->Has H x1 c->SeqAt.EqAt X.A.in1 s u v (c.beq d):=fun i u c e1 e2 x1 r1 h1=>by
  have:=Dat.deps_get e2;rw [<-Kl c d (Dat.sts_get st1 e2) st2];exact (Uj I.hok 4 c d X.A.in1 (by omega) h1 hd r1 rx hr5).eq
 have one:∀ (i:Nat) (u:Value) (c:Dat),its[i]?=some u->ds[i]?=some c->e u=c.beq d:=fun i u c e1 e2=>by
  have hi:i < its.length:=(List.getElem?_eq_some_iff.mp e1).1;have l:=r.length;obtain ⟨u1,hu1,ru1⟩:=r.get (List.getElem?_eq_getElem (show i < xs.length by omega));rw [e1] at hu1;cases hu1;obtain ⟨c1,hc1,hh1⟩:=hl.get (List.getElem?_eq_getElem (show i < xs.length by omega));rw [e2] at hc1;cases hc1
  by_cases b:c.beq d=true
  .rw [b]
   exact @decide_eq_true _ (Classical.propDecidable _) ⟨i,c,e1,e2,b⟩
  .have b':c.beq d=false:=by simpa using b
   rw [b'];refine @decide_eq_false _ (Classical.propDecidable _) ?_;rintro ⟨j,c',f1,f2,f3⟩;have hj:j < its.length:=(List.getElem?_eq_some_iff.mp f1).1;obtain ⟨u2,hu2,ru2⟩:=r.get (List.getElem?_eq_getElem (show j < xs.length by omega));rw [f1] at hu2;cases hu2;obtain ⟨c2,hc2,hh2⟩:=hl.get (List.getElem?_eq_getElem (show j < xs.length by omega));rw [f2] at hc2;cases hc2;have ev:=RelV.inj ru1 ru2;rw [ev] at hh1;rw [Has.inj c c' hh1 hh2,f3] at b';cases b'
 refine SeqAt.in_listAt e pl.isList (fun w hw=>?_) ⟨.bl _,H,I,rfl,?_⟩
 .obtain ⟨i,hi,ei⟩:=List.mem_iff_getElem.mp (show w∈its by simpa using hw)
  have l:=r.length;obtain ⟨u1,hu1,ru1⟩:=r.get (List.getElem?_eq_getElem (show i < xs.length by omega));have e1:its[i]?=some w:=by rw [List.getElem?_eq_getElem hi,ei]
  rw [e1] at hu1;cases hu1;obtain ⟨c1,hc1,hh1⟩:=hl.get (List.getElem?_eq_getElem (show i < xs.length by omega));rw [one i w c1 e1 hc1];exact key i w c1 e1 hc1 _ ru1 hh1
 .rw [show its.toArray.any e=its.any e by simp,XN e r hl one]
  exact q
inductive Shp where
 | tags (ts:List Str)
 | pair (a b:Str)
def Shp.dat:Shp->Dat
 | .tags ts=> .tup [.str "tags", .tup (ts.map Dat.str)]
 | .pair a b=> .tup [.str "pair", .str a, .str b]
theorem Tr:∀ ts:List Str,Dat.sts (ts.map Dat.str)=true
 | []=>by unfold Dat.sts;rfl
 | t::ts=>by rw [List.map_cons];unfold Dat.sts;rw [Tr ts];unfold Dat.st;rfl
theorem Wi:∀ ts:List Str,Dat.deps (ts.map Dat.str)=0
 | []=>by unfold Dat.deps;rfl
 | t::ts=>by rw [List.map_cons];unfold Dat.deps;rw [Wi ts];unfold Dat.dep;rfl
theorem Shp.st:∀ s:Shp,s.dat.st=true
 | .tags ts=>by simp [Shp.dat,Dat.st,Dat.sts,Tr]
 | .pair a b=>by simp [Shp.dat,Dat.st,Dat.sts]
theorem Shp.dep:∀ s:Shp,s.dat.dep<=2
 | .tags ts=>by simp [Shp.dat,Dat.dep,Dat.deps,Wi]
 | .pair a b=>by simp [Shp.dat,Dat.dep,Dat.deps]
theorem X0:∀ ss:List Shp,Dat.sts (ss.map Shp.dat)=true
 | []=>by unfold Dat.sts;rfl
 | t::ts=>by rw [List.map_cons];unfold Dat.sts;rw [X0 ts,Shp.st];rfl
theorem Wm:∀ ss:List Shp,Dat.deps (ss.map Shp.dat)<=2
 | []=>by unfold Dat.deps;decide
 | t::ts=>by rw [List.map_cons];unfold Dat.deps;exact Nat.max_le.mpr ⟨Shp.dep t,Wm ts⟩
theorem Z3(s:Zy H p)(h:H a=some (.tup xs)):a≠p:=fun e=>by
 obtain ⟨_,_,_,_,q⟩:=s;rw [<-e,h] at q;cases q
mutual
theorem Lq{H H':Hp}{p:Addr}(b:SameB p H H')(s:Zy H p):∀ (d:Dat) {v:V},d.st=true->Has H v d->Has H' v d
 | .str _,_,_,h=>by unfold Has at h |-;exact h
 | .tup ds,_,t,h=>by
  unfold Has at h |-;obtain ⟨a,xs,h1,h2,h3⟩:=h;unfold Dat.st at t;exact ⟨a,xs,h1,b _ _ (Z3 s h2) h2,WJ b s ds t h3⟩
 | .non,_,t,_=>by unfold Dat.st at t;cases t
 | .bl _,_,t,_=>by unfold Dat.st at t;cases t
 | .int _,_,t,_=>by unfold Dat.st at t;cases t
 | .lst _,_,t,_=>by unfold Dat.st at t;cases t
theorem WJ{H H':Hp}{p:Addr}(b:SameB p H H')(s:Zy H p):∀ (ds:List Dat) {xs:List V},Dat.sts ds=true->HasL H xs ds->HasL H' xs ds
 | [], [],_,h=>HasL.nil
 | [],_::_,_,h=>by unfold HasL at h;exact h.elim
 | _::_, [],_,h=>by unfold HasL at h;exact h.elim
 | d::ds,x::xs,t,h=>by
  unfold HasL at h;unfold Dat.sts at t;have t':=Bool.and_eq_true_iff.mp t;exact HasL.cons (Lq b s d t'.1 h.1) (WJ b s ds t'.2 h.2)
end
theorem Iw{ss:List Shp}(b:SameB p H H')(s:Zy H p)(h:HasL H xs (ss.map Shp.dat)):HasL H' xs (ss.map Shp.dat):=WJ b s _ (X0 ss) h
def Nums(H:Hp)(d:Addr)(ys:List Str)(lo hi:Nat):Prop:= ∃ kvs,H d=some (.dK kvs)/\kvs.length<=ys.length/\∀ y∈ys,∃ n:Nat,Zp kvs (Sum.inr y)=some (.int n)/\lo<=n/\n<=hi
end L2
namespace K4
open PySem L2
theorem Fc:ZX ["stream","many"] ["stream","many"] (ZL Rr):=Zl
theorem Gg:ZX ["stream","names","counts","depths","taken","top","one","other","deep"] ["stream","names","counts","depths","taken","top"] (ZL DI):=Zl
theorem Wl:(Str.ofString "abcdefghijklmnopqrstuvwxyz")=alpha 97:=by decide +kernel
theorem Wu:(Str.ofString "ABCDEFGHIJKLMNOPQRSTUVWXYZ")=alpha 65:=by decide +kernel
section
variable{K:W.Frag}
def Jw:Sp:=fun vs H Q _=> ∃ (p:Addr) (many:Nat),vs= [.ref p, .int many]/\Zy H p/\many<=8/\
 ∀ (r:Addr) (ys:List Str) (H':Hp),SameB p H H'->Zy H' p->H r=none->r≠p->H' r=some (.lst (ys.map V.str))->ys.length=many->Wds 97 ys->Q (.ref r) H'
theorem Dw(F:Fun K "_law_small" "_law_small" Rr f fd)(G:ZN P w K mg base CX0 n g gd ["stream","many","letters","ways"] XY)(bG:Binds K gd ["stream","many","letters","ways"] [])(kG:W.keepIn K (.ref g)=true)(mG:mg "_law_words" =some (.ref g)):
  ZN P w K mg base CX0 (n + 1) f fd ["stream","many"] Jw:=by
 refine F.ok Fc (fun vs H Q E h=>?_) (fun cdv A outer s H vs Q E hr h=>?_)
 .obtain ⟨p,many,rfl,_⟩:=h
  rfl
 obtain ⟨p,many,rfl,hs,hm,q⟩:=h;refine ⟨_,ZH (ZW (ZM G hr rfl mG kG bG .nil ZT (ZA (pv 0) (ZA (pv 1) (ZA Zf (ZA ZG ZE)))))),?_⟩;refine ⟨p,many,97,4,?_,hs, .inl rfl,by decide, .inr ⟨by decide,hm⟩,q⟩;rw [<-Wl];rfl
def Rh(K:W.Frag):Sp:=fun vs H Q _=> ∃ (p nm cn dp tk:Addr) (top:Nat) (ys:List Str) (ss:List Shp),vs= [.ref p, .ref nm, .ref cn, .ref dp, .ref tk, .int top]/\Zy H p/\H nm=some (.lst (ys.map V.str))/\0 < ys.length/\ys.length<=8/\
 Nums H cn ys 0 1000/\Nums H dp ys 0 1000/\Has H (.ref tk) (.lst (ss.map Shp.dat))/\nm≠p/\cn≠p/\dp≠p/\tk≠p/\
 ∀ (v:V) (H':Hp),SameB p H H'->Zy H' p->(v= .non \/ ∃ (a b:Str) (r:Addr) (ca cb da db:Nat),a∈ys/\b∈ys/\v= .ref r/\H r=none/\H' r=some (.tup [.str "pair", .str a, .str b])/\
  (∀ kvs,H cn=some (.dK kvs)->Zp kvs (Sum.inr a)=some (.int ca)/\Zp kvs (Sum.inr b)=some (.int cb))/\(∀ kvs,H dp=some (.dK kvs)->Zp kvs (Sum.inr a)=some (.int da)/\Zp kvs (Sum.inr b)=some (.int db))/\
  1 + max da db<=2/\1 + ca * cb<=top/\Shp.pair a b ∉ ss)->Q v H'
theorem IS(B:Blt mg)(F:Fun K "_law_pair" "_law_pair" DI f fd)(G:ZN P w K mg base CX0 (n + 6) g gd ["stream","many"] Yo)(bG:Binds K gd ["stream","many"] [])(kG:W.keepIn K (.ref g)=true)(mG:mg "_law_take" =some (.ref g)):
  ZN P w K mg base CX0 (n + 6 + 1) f fd ["stream","names","counts","depths","taken","top"] (Rh K):=by
 refine F.ok Gg (fun vs H Q E h=>?_) (fun cdv A outer s H vs Q E hr h=>?_)
 .obtain ⟨p,nm,cn,dp,tk,top,ys,ss,rfl,_⟩:=h
  rfl
 obtain ⟨p,nm,cn,dp,tk,top,ys,ss,rfl,hs,hn,y0,y8,hc,hd,ht,n1,n2,n3,n4,q⟩:=h;have hu:=Yg hr;refine ⟨_,ZC (ZZ 6 Gg.nd (ZY Zm (pv 1) (ZM G hr rfl mG kG bG .nil ZT (ZA (pv 0) (ZA (Zj Zg rfl B.len PySem.boot_len (ZA (pv 1) ZE)) ZE))) (fun _ _=>rfl)))
  (ZC (ZZ 7 Gg.nd (ZY Zm (pv 1) (ZM G hr rfl mG kG bG .nil ZT (ZA (pv 0) (ZA (Zj Zg rfl B.len PySem.boot_len (ZA (pv 1) ZE)) ZE))) (fun _ _=>rfl)))
  (ZC (ZZ 8 Gg.nd (Zi YT ZG (Zj (U7 rfl) rfl B.max U9 (ZA (Ze hu (pv 3) (pv 6) (fun _ _=>rfl)) (ZA (Ze hu (pv 3) (pv 7) (fun _ _=>rfl)) ZE)))))
  (ZC (Zh (PW.pt (Vm (ZV Jl (pv 8) ZG (Zb _)) (Vm (ZV Jl (Zi YT ZG (Zi VE (Ze hu (pv 2) (pv 6) (fun _ _=>rfl)) (Ze hu (pv 2) (pv 7) (fun _ _=>rfl)))) (pv 5) (Zb _))
    (VO (ZV (N4 hr) (Zs (ZA Zf (ZA (pv 6) (ZA (pv 7) ZE)))) (pv 4) rfl))))) (ZH (ZW VP)) ZU)
  (ZH (ZW (Zs (ZA Zf (ZA (pv 6) (ZA (pv 7) ZE))))))))),?_⟩
 show let a:=_;let b:=_;let c:=ZQ (Zw _ b _) a;let d:=ZQ _ c;let e:=ZQ _ d;ZQ _ e _ _ _
 intros
 have ln:(ys.map V.str).length=ys.length:=List.length_map _
 have at_of:∀ r:Int,0<=r->r < ((ys.map V.str).length:Nat)->∃ a,a∈ys/\atI (ys.map V.str) r=some (.str a):=fun r r0 r1=>by
  obtain ⟨m,rfl⟩:∃ m:Nat,r=m:=⟨r.toNat,by omega⟩;have hm:m < ys.length:=by omega
  exact ⟨ys[m],List.getElem_mem hm,Z7 (by rw [List.getElem?_map,List.getElem?_eq_getElem hm];rfl)⟩
 refine ⟨nm,_,rfl, .inl (SqL.of hn),p,_,rfl,hs,by omega,by omega,fun r1 H1 r10 r11 b1 s1=>?_⟩;obtain ⟨a,ha,ea⟩:=at_of r1 r10 r11;have hn1:H1 nm=some (.lst (ys.map V.str)):=(b1 nm n1).trans hn;refine ⟨_,_,SqL.of hn1,ea,?_⟩;refine ⟨nm,_,rfl, .inl (SqL.of hn1),p,_,rfl,s1,by omega,by omega,fun r2 H2 r20 r21 b2 s2=>?_⟩;obtain ⟨b,hb,eb⟩:=at_of r2 r20 r21;have hn2:H2 nm=some (.lst (ys.map V.str)):=(b2 nm n1).trans hn1;refine ⟨_,_,SqL.of hn2,eb,?_⟩;have bb:SameB p H H2:=b1.sb.trans b2.sb;obtain ⟨kc,hkc,_,fc⟩:=hc;obtain ⟨kd,hkd,_,fd'⟩:=hd;obtain ⟨ca,hca,_,ca1⟩:=fc a ha;obtain ⟨cb,hcb,_,cb1⟩:=fc b hb;obtain ⟨da,hda,_,da1⟩:=fd' a ha;obtain ⟨db,hdb,_,db1⟩:=fd' b hb;have kc2:=bb _ _ n2 hkc;have kd2:=bb _ _ n3 hkd;have gda:Zz H2 dp (.str a) (some (.int da)):=by rw [<-hda];exact Zz.k (k:=Sum.inr a) kd2
 have gdb:Zz H2 dp (.str b) (some (.int db)):=by rw [<-hdb];exact Zz.k (k:=Sum.inr b) kd2
 have gca:Zz H2 cn (.str a) (some (.int ca)):=by rw [<-hca];exact Zz.k (k:=Sum.inr a) kc2
 have gcb:Zz H2 cn (.str b) (some (.int cb)):=by rw [<-hcb];exact Zz.k (k:=Sum.inr b) kc2
 refine ⟨_,gda,_,gdb,_,_,rfl,?_⟩;have none_ok:Q .non H2:=q _ _ bb s2 (.inl rfl);refine ⟨_,rfl,?_⟩;refine Yr (fun c1=>Yb rfl none_ok) (fun c1=>?_);refine ⟨_,gca,_,gcb, .inl ⟨by omega,by omega⟩,_,rfl,?_⟩;refine Yr (fun c2=>Yb rfl none_ok) (fun c2=>?_);refine ⟨sl 3,fun t ht'=>?_⟩;have st:=ZF ht' (.tup [.str "pair", .str a, .str b]);have nt:t≠p:=s2.ne ht'
 have ht2:Has H2 (.ref tk) (.lst (ss.map Shp.dat)):=by
  obtain ⟨_,xs,er,hx,hl⟩:=JT ht;cases er;exact Zx (bb _ _ n4 hx) (Iw bb hs hl)
 obtain ⟨_,xs,er,hx,hl⟩:=JT (ht2.mono st);cases er
 have hd3:Has (upd H2 t (.tup [.str "pair", .str a, .str b])) (.ref t) (Shp.pair a b).dat:=by
  unfold Shp.dat Has;refine ⟨t,_,rfl,ZD,HasL.cons ?_ (HasL.cons ?_ (HasL.cons ?_ HasL.nil))⟩ <;> (unfold Has;rfl)
 refine ⟨tk,xs,_,(Shp.pair a b).dat,rfl,SqL.of hx,hl,hd3,X0 ss,Shp.st _,by have:=Wm ss;omega,_,rfl,?_⟩;refine Yr (fun c3=>?_) (fun c3=>?_)
 .exact q _ _ (bb.trans st.sb) (s2.keep (ZI (Ne.symm nt))) (.inl rfl)
 .refine ⟨sl 3,fun t2 ht2'=>?_⟩
  have st2:=ZF ht2' (.tup [.str "pair", .str a, .str b]);have s3:Zy (upd H2 t (.tup [.str "pair", .str a, .str b])) p:=s2.keep (ZI (Ne.symm nt));have nt2:t2≠p:=s3.ne ht2';refine q _ _ ((bb.trans st.sb).trans st2.sb) (s3.keep (ZI (Ne.symm nt2))) (.inr ⟨a,b,t2,ca,cb,da,db,ha,hb,rfl,((bb.trans st.sb).free nt2 ht2'),ZD,?_,?_,?_,?_,?_⟩)
  .intro kvs e
   rw [hkc] at e;cases e;exact ⟨hca,hcb⟩
  .intro kvs e
   rw [hkd] at e;cases e;exact ⟨hda,hdb⟩
  .have c1': ¬ ((2:Int) < 1 + (if (db:Int) > da then (db:Int) else da)):=fun z=>c1 (decide_eq_true z)
   split at c1' <;> omega
  .have c2': ¬ ((top:Int) < 1 + (ca:Int) * cb):=fun z=>c2 (decide_eq_true z)
   have e:((ca * cb:Nat):Int)=(ca:Int) * cb:=by push_cast;rfl
   omega
  .intro hm
   exact c3 (List.any_eq_true.mpr ⟨_,List.mem_map.mpr ⟨_,hm,rfl⟩,Dat.beq_self _⟩)
end
end K4
namespace L2
open PySem
def TK(H H':Hp):Prop:= ∀ b xs,H b=some (.tup xs)->H' b=some (.tup xs)
theorem SameB.tk(a:SameB p H H')(s:Zy H p):TK H H':=fun b xs h=>a b _ (Z3 s h) h
theorem Xr(h:H a=some u)(hu:∀ xs,u≠ .tup xs):TK H (upd H a o):=fun b xs e=>by
 rw [ZI (YM e h fun z=>hu xs z.symm)];exact e
mutual
theorem Yh{H H':Hp}(b:TK H H'):∀ (d:Dat) {v:V},d.st=true->Has H v d->Has H' v d
 | .str _,_,_,h=>by unfold Has at h |-;exact h
 | .tup ds,_,t,h=>by
  unfold Has at h |-;obtain ⟨a,xs,h1,h2,h3⟩:=h;unfold Dat.st at t;exact ⟨a,xs,h1,b _ _ h2,Zv b ds t h3⟩
 | .non,_,t,_=>by unfold Dat.st at t;cases t
 | .bl _,_,t,_=>by unfold Dat.st at t;cases t
 | .int _,_,t,_=>by unfold Dat.st at t;cases t
 | .lst _,_,t,_=>by unfold Dat.st at t;cases t
theorem Zv{H H':Hp}(b:TK H H'):∀ (ds:List Dat) {xs:List V},Dat.sts ds=true->HasL H xs ds->HasL H' xs ds
 | [], [],_,h=>HasL.nil
 | [],_::_,_,h=>by unfold HasL at h;exact h.elim
 | _::_, [],_,h=>by unfold HasL at h;exact h.elim
 | d::ds,x::xs,t,h=>by
  unfold HasL at h;unfold Dat.sts at t;have t':=Bool.and_eq_true_iff.mp t;exact HasL.cons (Yh b d t'.1 h.1) (Zv b ds t'.2 h.2)
end
def Yq(k:Str × Shp):Dat:= .tup [.str k.1,k.2.dat]
theorem YW:∀ ks:List (Str × Shp),Dat.sts (ks.map Yq)=true
 | []=>by unfold Dat.sts;rfl
 | k::ks=>by
  rw [List.map_cons];unfold Dat.sts;rw [YW ks];have e:=Shp.st k.2;simp [Yq,Dat.st,Dat.sts,e]
def KK1(top:Nat)(c d:Str->Nat)(ahead:List Str)(y:Str):Shp->Prop
 | .tags ts=>1<=ts.length/\ts.length<=4/\c y=1 + ts.length/\d y=0/\ts.Nodup
 | .pair a b=>a∈ahead/\b∈ahead/\c y=1 + c a * c b/\c y<=top/\d y=1 + max (d a) (d b)/\d y<=2
def KK(top:Nat)(c d:Str->Nat)(ks:List (Str × Shp)):Prop:= ∀ (i:Nat) (y:Str) (s:Shp),ks[i]?=some (y,s)->KK1 top c d ((ks.take i).map (·.1)) y s
theorem KK1.of(h:KK1 top c d ahead y s)(ec:∀ z,z∈ahead \/ z=y->c' z=c z)(ed:∀ z,z∈ahead \/ z=y->d' z=d z):KK1 top c' d' ahead y s:=by
 cases s with
 | tags ts=>
  obtain ⟨h1,h2,h3,h4,h5⟩:=h;exact ⟨h1,h2,(ec y (.inr rfl)).trans h3,(ed y (.inr rfl)).trans h4,h5⟩
 | pair a b=>
  obtain ⟨h1,h2,h3,h4,h5,h6⟩:=h;refine ⟨h1,h2,?_,?_,?_,?_⟩
  .rw [ec y (.inr rfl),ec a (.inl h1),ec b (.inl h2)];exact h3
  .rw [ec y (.inr rfl)];exact h4
  .rw [ed y (.inr rfl),ed a (.inl h1),ed b (.inl h2)];exact h5
  .rw [ed y (.inr rfl)];exact h6
theorem KK.snoc(h:KK top c d ks)(nd:(ks.map (·.1)++ [y]).Nodup)(h1:KK1 top (fun z=>if z=y then n else c z) (fun z=>if z=y then m else d z) (ks.map (·.1)) y s):KK top (fun z=>if z=y then n else c z) (fun z=>if z=y then m else d z) (ks++ [(y,s)]):=by
 have ny:∀ z∈ks.map (·.1),z≠y:=fun z hz e=>by
  have q:=List.nodup_append.mp nd;exact q.2.2 z hz y (by simp) e
 intro i y' s' e
 by_cases hi:i < ks.length
 .rw [List.getElem?_append_left hi] at e
  rw [List.take_append_of_le_length (Nat.le_of_lt hi)];have hm:y'∈ks.map (·.1):=List.mem_map.mpr ⟨(y',s'),List.mem_of_getElem? e,rfl⟩
  have inn:∀ z,z∈(ks.take i).map (·.1) \/ z=y'->z≠y:=fun z hz=>by
   rcases hz with hz | hz
   .obtain ⟨k,hk,rfl⟩:=List.mem_map.mp hz
    exact ny _ (List.mem_map.mpr ⟨k,List.mem_of_mem_take hk,rfl⟩)
   .rw [hz];exact ny _ hm
  exact (h i y' s' e).of (fun z hz=>if_neg (inn z hz)) (fun z hz=>if_neg (inn z hz))
 .have hl:i=ks.length:=by
   have:=(List.getElem?_eq_some_iff.mp e).1;rw [List.length_append,List.length_singleton] at this;omega
  subst hl;rw [List.getElem?_append_right (Nat.le_refl _),Nat.sub_self] at e;have e':some (y,s)=some (y',s'):=e;cases e';rw [List.take_left];exact h1
structure KJ(H:Hp)(p nm tg cn dp kl:Addr)(top:Nat)(ys tgs:List Str)(i:Nat)(kc kd:List (Key × V))(ks:List (Str × Shp))(c d:Str->Nat)(xs:List V)(H':Hp):Prop where
 sb:SameB p H H'
 st:Zy H' p
 nms:H' nm=some (.lst (ys.map V.str))
 tgS:H' tg=some (.lst (tgs.map V.str))
 cns:H' cn=some (.dK kc)
 dps:H' dp=some (.dK kd)
 kls:H' kl=some (.lst xs)
 lc:kc.length<=i
 ld:kd.length<=i
 vc:∀ y∈ys.take i,Zp kc (Sum.inr y)=some (.int (c y))/\c y<=1000
 vd:∀ y∈ys.take i,Zp kd (Sum.inr y)=some (.int (d y))/\d y<=1000
 nk:ks.map (·.1)=ys.take i
 kk:KK top c d ks
 hs:HasL H' xs (ks.map Yq)
 tq:∀ (i':Nat) (y:Str) (ts:List Str),ks[i']?=some (y, .tags ts)->∃ r,r < 4/\ts=(tgs.drop (4 * i')).take (1 + r)
 pq:∀ (i1 i2:Nat) (y1 y2 a b:Str),ks[i1]?=some (y1, .pair a b)->ks[i2]?=some (y2, .pair a b)->i1=i2
structure KG(ks:List (Str × Shp)):Prop where
 nm:Wds 97 (ks.map (·.1))
 tg:∃ tgs,Wds 65 tgs/\∀ (i':Nat) (y:Str) (ts:List Str),ks[i']?=some (y, .tags ts)->∃ r,r < 4/\ts=(tgs.drop (4 * i')).take (1 + r)
 pr:∀ (i1 i2:Nat) (y1 y2 a b:Str),ks[i1]?=some (y1, .pair a b)->ks[i2]?=some (y2, .pair a b)->i1=i2
theorem KG.tags(g:KG ks)(h:(y,Shp.tags ts)∈ks):Wds 65 ts:=by
 obtain ⟨tgs,w,q⟩:=g.tg;obtain ⟨i,hi,e⟩:=List.mem_iff_getElem.mp h;obtain ⟨r,_,rfl⟩:=q i y ts (by rw [List.getElem?_eq_getElem hi,e]);have sub:∀ z,z∈(tgs.drop (4 * i)).take (1 + r)->z∈tgs:=fun z hz=>List.mem_of_mem_drop (List.mem_of_mem_take hz);exact ⟨w.nd.sublist ((List.take_sublist _ _).trans (List.drop_sublist _ _)),fun z hz=>w.len z (sub z hz),fun z hz=>w.abc z (sub z hz)⟩
structure KA(H:Hp)(p nm tg cn dp kl:Addr):Prop where
 fn:H nm=none
 ft:H tg=none
 fc:H cn=none
 fd:H dp=none
 fk:H kl=none
 nmp:nm≠p
 tgp:tg≠p
 cnp:cn≠p
 dpp:dp≠p
 klp:kl≠p
 cd:cn≠dp
 nkl:nm≠kl
 tkl:tg≠kl
theorem take_snoc{α:Type}{l:List α}{a:α}(h:l[i]?=some a):l.take (i + 1)=l.take i++ [a]:=by
 have hi:=(List.getElem?_eq_some_iff.mp h).1;rw [List.take_succ_eq_append_getElem hi,(List.getElem?_eq_some_iff.mp h).2]
theorem KJ.step(j:KJ H p nm tg cn dp kl top ys tgs i kc kd ks c d xs H1)(a:KA H p nm tg cn dp kl)(nd:ys.Nodup)(hy:ys[i]?=some y)(hv:Has H1 v s.dat)(hn:n<=1000)(hm:m<=1000)(k1:KK1 top (fun z=>if z=y then n else c z) (fun z=>if z=y then m else d z) (ks.map (·.1)) y s)(g1:∀ ts,s= .tags ts->∃ r,r < 4/\ts=(tgs.drop (4 * i)).take (1 + r))(g2:∀ a b,s= .pair a b->s ∉ ks.map (·.2))(ht:upd (upd H1 cn (.dK (putK kc (Sum.inr y) (.int n)))) dp (.dK (putK kd (Sum.inr y) (.int m))) t=none):
  KJ H p nm tg cn dp kl top ys tgs (i + 1) (putK kc (Sum.inr y) (.int n)) (putK kd (Sum.inr y) (.int m)) (ks++ [(y,s)]) (fun z=>if z=y then n else c z) (fun z=>if z=y then m else d z) (xs++ [.ref t])
   (upd (upd (upd (upd H1 cn (.dK (putK kc (Sum.inr y) (.int n)))) dp (.dK (putK kd (Sum.inr y) (.int m)))) t (.tup [.str y,v])) kl (.lst (xs++ [.ref t]))):=by
 have tc:t≠cn:=fun e=>by rw [e,ZI a.cd,ZD] at ht;cases ht
 have td:t≠dp:=fun e=>by rw [e,ZD] at ht;cases ht
 have h1t:H1 t=none:=by rw [ZI td,ZI tc] at ht;exact ht
 have ne1:∀ b o,H1 b=some o->b≠t:=fun b o e=>ZJ e h1t;have kc1:kl≠cn:=YM j.kls j.cns (fun z=>nomatch z);have kd1:kl≠dp:=YM j.kls j.dps (fun z=>nomatch z);have klt:=ne1 _ _ j.kls
 have at_:∀ b,b≠cn->b≠dp->b≠t->b≠kl->(upd (upd (upd (upd H1 cn (.dK (putK kc (Sum.inr y) (.int n)))) dp (.dK (putK kd (Sum.inr y) (.int m)))) t (.tup [.str y,v])) kl (.lst (xs++ [.ref t]))) b=H1 b:=fun b b1 b2 b3 b4=>by
  rw [ZI b4,ZI b3,ZI b2,ZI b1]
 have tk:TK H1 (upd (upd (upd (upd H1 cn (.dK (putK kc (Sum.inr y) (.int n)))) dp (.dK (putK kd (Sum.inr y) (.int m)))) t (.tup [.str y,v])) kl (.lst (xs++ [.ref t]))):=fun b zs e=>
  (at_ b (YM e j.cns (fun z=>nomatch z)) (YM e j.dps (fun z=>nomatch z)) (ne1 _ _ e) (YM e j.kls (fun z=>nomatch z))).trans e
 have nm1:nm≠cn:=YM j.nms j.cns (fun z=>nomatch z);have nm2:nm≠dp:=YM j.nms j.dps (fun z=>nomatch z);have tg1:tg≠cn:=YM j.tgS j.cns (fun z=>nomatch z);have tg2:tg≠dp:=YM j.tgS j.dps (fun z=>nomatch z);have tp:t≠p:=j.st.ne h1t
 have yn:∀ z∈ys.take i,z≠y:=fun z hz e=>by
  have q:(ys.take i++ [y]).Nodup:=by rw [<-take_snoc hy];exact nd.sublist (List.take_sublist _ _)
  exact (List.nodup_append.mp q).2.2 z hz y (by simp) e
 have lk:ks.length=i:=by
  have z1:=congrArg List.length j.nk;have z2:=(List.getElem?_eq_some_iff.mp hy).1;rw [List.length_map,List.length_take] at z1;omega
 have new:∀ (i':Nat) (y':Str) (s':Shp),(ks++ [(y,s)])[i']?=some (y',s')->ks[i']?=some (y',s') \/ (i'=i/\s'=s):=fun i' y' s' e=>by
  by_cases hi:i' < ks.length
  .rw [List.getElem?_append_left hi] at e;exact .inl e
  .have hl:i'=ks.length:=by
    have z:=(List.getElem?_eq_some_iff.mp e).1;rw [List.length_append,List.length_singleton] at z;omega
   subst hl;rw [List.getElem?_append_right (Nat.le_refl _),Nat.sub_self] at e;have e':some (y,s)=some (y',s'):=e;cases e';exact .inr ⟨lk,rfl⟩
 refine ⟨fun b o hb e=>?_,?_,?_,?_,?_,?_,ZD,?_,?_,?_,?_,?_,?_,?_,fun i' y' ts e=>?_,fun i1 i2 y1 y2 a' b' e1 e2=>?_⟩
 .have e1:=j.sb b o hb e
  exact (at_ b (ZJ e a.fc) (ZJ e a.fd) (ne1 _ _ e1) (ZJ e a.fk)).trans e1
 .exact j.st.keep (at_ p (Ne.symm a.cnp) (Ne.symm a.dpp) (Ne.symm tp) (Ne.symm a.klp))
 .exact (at_ nm nm1 nm2 (ne1 _ _ j.nms) a.nkl).trans j.nms
 .exact (at_ tg tg1 tg2 (ne1 _ _ j.tgS) a.tkl).trans j.tgS
 .rw [ZI (Ne.symm kc1),ZI (Ne.symm tc),ZI a.cd,ZD]
 .rw [ZI (Ne.symm kd1),ZI (Ne.symm td),ZD]
 .have:=YJ kc (Sum.inr y) (.int n);have:=j.lc;omega
 .have:=YJ kd (Sum.inr y) (.int m);have:=j.ld;omega
 .intro z hz
  rw [take_snoc hy] at hz;rw [VA];rcases List.mem_append.mp hz with h | h
  .have e: ¬ (Sum.inr z:Key)=Sum.inr y:=fun q=>yn z h (by injection q)
   show (if (Sum.inr z:Key)=Sum.inr y then _ else _)=some (V.int ((if z=y then n else c z:Nat):Int))/\(if z=y then n else c z)<=1000;rw [if_neg e,if_neg (yn z h)];exact j.vc z h
  .rw [List.mem_singleton.mp h]
   show (if (Sum.inr y:Key)=Sum.inr y then _ else _)=some (V.int ((if y=y then n else c y:Nat):Int))/\(if y=y then n else c y)<=1000;rw [if_pos rfl,if_pos rfl];exact ⟨rfl,hn⟩
 .intro z hz
  rw [take_snoc hy] at hz;rw [VA];rcases List.mem_append.mp hz with h | h
  .have e: ¬ (Sum.inr z:Key)=Sum.inr y:=fun q=>yn z h (by injection q)
   show (if (Sum.inr z:Key)=Sum.inr y then _ else _)=some (V.int ((if z=y then m else d z:Nat):Int))/\(if z=y then m else d z)<=1000;rw [if_neg e,if_neg (yn z h)];exact j.vd z h
  .rw [List.mem_singleton.mp h]
   show (if (Sum.inr y:Key)=Sum.inr y then _ else _)=some (V.int ((if y=y then m else d y:Nat):Int))/\(if y=y then m else d y)<=1000;rw [if_pos rfl,if_pos rfl];exact ⟨rfl,hm⟩
 .rw [List.map_append,j.nk,take_snoc hy];rfl
 .exact j.kk.snoc (by rw [j.nk,<-take_snoc hy];exact nd.sublist (List.take_sublist _ _)) k1
 .rw [List.map_append]
  refine HasL.append (Zv tk _ (YW ks) j.hs) (HasL.one ?_);show Has _ (.ref t) (Yq (y,s));unfold Yq Has;refine ⟨t, [.str y,v],rfl,?_,HasL.cons (by unfold Has;rfl) (HasL.cons (Yh tk _ (Shp.st s) hv) HasL.nil)⟩;rw [ZI (Ne.symm klt),ZD]
 .rcases new i' y' _ e with h | ⟨rfl,h⟩
  .exact j.tq i' y' ts h
  .exact g1 ts h.symm
 .have mem:∀ (i':Nat) (y':Str) (s':Shp),ks[i']?=some (y',s')->s'∈ks.map (·.2):=fun i' y' s' e=>List.mem_map.mpr ⟨(y',s'),List.mem_of_getElem? e,rfl⟩
  rcases new i1 y1 _ e1 with h1 | ⟨h1,h1'⟩
  .rcases new i2 y2 _ e2 with h2 | ⟨h2,h2'⟩
   .exact j.pq i1 i2 y1 y2 a' b' h1 h2
   .exact absurd (h2' ▸ mem i1 y1 _ h1) (g2 a' b' h2'.symm)
  .rcases new i2 y2 _ e2 with h2 | ⟨h2,h2'⟩
   .exact absurd (h1' ▸ mem i2 y2 _ h2) (g2 a' b' h1'.symm)
   .rw [h1,h2]
theorem FF(h:u D (U.set k (some v)) H):ZQ (Re (tC v) (Yi k)) u D U H:=h
theorem E5(xs:List V)(k:Nat)(h:k<=xs.length):JE xs none (some (k:Int))=xs.take k:=by
 unfold JE;rw [HT.sIx_none,HT.sIx_nat,List.drop_zero,Nat.sub_zero,Nat.min_eq_left h]
theorem KS(xs:List V)(a b:Nat)(h1:a<=b)(h:b<=xs.length):JE xs (some (a:Int)) (some (b:Int))=(xs.drop a).take (b - a):=by
 unfold JE;rw [HT.sIx_nat,HT.sIx_nat,Nat.min_eq_left h,Nat.min_eq_left (Nat.le_trans h1 h)]
theorem Ts:∀ ts:List Str,HasL H (ts.map V.str) (ts.map Dat.str)
 | []=>HasL.nil
 | t::ts=>HasL.cons (by unfold Has;rfl) (Ts ts)
theorem JC(h:Has H x (Yq (y,s))):∃ a v,x= .ref a/\H a=some (.tup [.str y,v])/\Has H v s.dat:=by
 unfold Yq Has at h;obtain ⟨a,xs,rfl,ha,hl⟩:=h
 match xs,hl with
 | [u,v],hl=>
  unfold HasL at hl;obtain ⟨h1,h2⟩:=hl;unfold HasL at h2;unfold Has at h1;subst h1;exact ⟨a,v,rfl,ha,h2.1⟩
 | [],hl=>unfold HasL at hl;exact hl.elim
 | [x],hl=>unfold HasL at hl;obtain ⟨_,h2⟩:=hl;unfold HasL at h2;exact h2.elim
 | _::_::_::_,hl=>unfold HasL at hl;obtain ⟨_,h2⟩:=hl;unfold HasL at h2;obtain ⟨_,h3⟩:=h2;unfold HasL at h3;exact h3.elim
theorem Vi(Cond:St->Hp->Prop)(key:∀ s1 H1,Cond s1 H1->u D s1 H1)(main:∀ N:St->Hp->Prop,(∀ s1 H1,Cond s1 H1->N s1 H1)->t {D with nx:=N} U H):ZQ t u D U H:=main _ key
theorem KJ.sameB(j:KJ H p nm tg cn dp kl top ys tgs i kc kd ks c d xs H1)(a:KA H p nm tg cn dp kl)(b:SameB p H1 H2)(s:Zy H2 p):KJ H p nm tg cn dp kl top ys tgs i kc kd ks c d xs H2:=
 ⟨j.sb.trans b,s,b _ _ a.nmp j.nms,b _ _ a.tgp j.tgS,b _ _ a.cnp j.cns,b _ _ a.dpp j.dps,b _ _ a.klp j.kls,j.lc,j.ld,j.vc,j.vd,j.nk,j.kk,Zv (b.tk j.st) _ (YW ks) j.hs,j.tq,j.pq⟩
end L2
namespace K4
open PySem L2
theorem VR:ZX ["stream","most","top","names","tags","counts","depths","kinds","k","shape"] ["stream","most","top"] (ZL Rz):=Zl
theorem Ih:List.Nodup [("kind" :Str)]:=by decide +kernel
section
def Ns(H:Hp)(cn:Addr)(ks:List (Str × Shp))(c:Str->Nat):Prop:= ∃ kc,H cn=some (.dK kc)/\∀ y∈ks.map (·.1),Zp kc (Sum.inr y)=some (.int (c y:Nat))
def GU:Sp:=fun vs H Q _=> ∃ (p:Addr) (most top:Nat),vs= [.ref p, .int most, .int top]/\Zy H p/\0 < most/\most<=6/\top<=1000/\
 ∀ (r kl cn:Addr) (ks:List (Str × Shp)) (c d:Str->Nat) (xs:List V) (H':Hp),SameB p H H'->Zy H' p->H r=none->r≠p->H' r=some (.tup [.ref kl, .ref cn])->H kl=none->kl≠p->H' kl=some (.lst xs)->HasL H' xs (ks.map Yq)->
  KK top c d ks->(ks.map (·.1)).Nodup->0 < ks.length->ks.length<=6->KG ks->H cn=none->cn≠p->Ns H' cn ks c->Q (.ref r) H'
theorem EB(B:Blt mg)(F:Fun K "_law_kinds" "_law_kinds" Rz f fd)(GT:ZN P w K mg base CX0 n gt td ["stream","many"] Yo)(bT:Binds K td ["stream","many"] [])(kT:W.keepIn K (.ref gt)=true)(mT:mg "_law_take" =some (.ref gt))(GS:ZN P w K mg base CX0 n gs sd ["stream","many"] Jw)(bS:Binds K sd ["stream","many"] [])(kS:W.keepIn K (.ref gs)=true)(mS:mg "_law_small" =some (.ref gs))(GW:ZN P w K mg base CX0 n gw wdd ["stream","many","letters","ways"] XY)(bW:Binds K wdd ["stream","many","letters","ways"] [])(kW:W.keepIn K (.ref gw)=true)(mW:mg "_law_words" =some (.ref gw))(GP:ZN P w K mg base CX0 n gp pd ["stream","names","counts","depths","taken","top"] (Rh K))(bP:Binds K pd ["stream","names","counts","depths","taken","top"] [])(kP:W.keepIn K (.ref gp)=true)(mP:mg "_law_pair" =some (.ref gp)):
  ZN P w K mg base CX0 (n + 1) f fd ["stream","most","top"] GU:=by
 refine F.ok VR (fun vs H Q E h=>?_) (fun cdv A outer s H vs Q E hr h=>?_)
 .obtain ⟨p,most,top,rfl,_⟩:=h
  rfl
 obtain ⟨p,most,top,rfl,hs,m0,m6,t3,q⟩:=h;have hu:=Yg hr;refine ⟨_,ZC (ZZ 3 VR.nd (ZM GS hr rfl mS kS bS .nil ZT (ZA (pv 0) (ZA (Zi YT ZG (ZM GT hr rfl mT kT bT .nil ZT (ZA (pv 0) (ZA (pv 1) ZE)))) ZE))))
  (ZC (ZZ 4 VR.nd (ZM GW hr rfl mW kW bW .nil ZT (ZA (pv 0) (ZA (Zi VE ZG (Zj Zg rfl B.len PySem.boot_len (ZA (pv 3) ZE))) (ZA Zf (ZA ZG ZE))))))
  (ZC (ZZ 5 VR.nd Yl)
  (ZC (ZZ 6 VR.nd Yl)
  (ZC (ZZ 7 VR.nd (Z8 ZE))
  (ZC (YO PassesOwn.never rfl (JA rfl B.range (ZA (Zj Zg rfl B.len PySem.boot_len (ZA (pv 3) ZE)) ZE)) (ZO 8 VR.nd)
   (ZC (ZZ 9 VR.nd VP)
   (ZC (Zh (PW.pt (Vn (ZV Jl (pv 8) ZG (Zb _)) (VT (ZV YL (ZM GT hr rfl mT kT bT .nil ZT (ZA (pv 0) (ZA ZG ZE))) ZG (Zb _)))))
    (ZH (ZZ 9 VR.nd (ZM GP hr rfl mP kP bP .nil ZT (ZA (pv 0) (ZA (Yw Ge (pv 3) VU (Y2 (pv 8))) (ZA (pv 5) (ZA (pv 6) (ZA
     (Yd ["kind"] [] (Z6 (pv 7)) (YI (i:=0) (by decide)) (fun cl C fp s H=>ZO 0 Ih rfl (Or.inl rfl) (Or.inr rfl)) (fun cl C fp s H=>ZY (r:=UY K) Za (pv 0) ZG)) (ZA (pv 2) ZE))))))))) ZU)
   (ZC (Zh (ZV Uy (pv 9) VP (Zb _))
    (ZC (ZZ 9 VR.nd (Zs (ZA Zf (ZA (Zo Yn rfl B.tuple YZ (ZA (Yw Ge (pv 4) (Y2 (Zi VE ZG (pv 8)))
      (Y2 (Zi YT (Zi YT (Zi VE ZG (pv 8)) ZG) (ZM GT hr rfl mT kT bT .nil ZT (ZA (pv 0) (ZA ZG ZE)))))) ZE)) ZE))))
     (ZC (YD hu (pv 5) (ZY Zm (pv 3) (pv 8) (fun _ _=>rfl)) (Zi YT ZG (Zj Zg rfl B.len PySem.boot_len (ZA (ZY Za (pv 9) ZG) ZE))) rfl)
     (ZH (YD hu (pv 6) (ZY Zm (pv 3) (pv 8) (fun _ _=>rfl)) ZG rfl))))
    (ZC (YD hu (pv 5) (ZY Zm (pv 3) (pv 8) (fun _ _=>rfl)) (Zi YT ZG (Zi VE (Ze hu (pv 5) (ZY Za (pv 9) ZG) (fun _ _=>rfl)) (Ze hu (pv 5) (ZY Za (pv 9) ZG) (fun _ _=>rfl)))) rfl)
     (ZH (YD hu (pv 6) (ZY Zm (pv 3) (pv 8) (fun _ _=>rfl)) (Zi YT ZG (Zj (U7 rfl) rfl B.max U9 (ZA (Ze hu (pv 6) (ZY Za (pv 9) ZG) (fun _ _=>rfl)) (ZA (Ze hu (pv 6) (ZY Za (pv 9) ZG) (fun _ _=>rfl)) ZE)))) rfl))))
   (ZH (YC (Vw PySem.F.plainAttrs_list PySem.F.slot_list_append PySem.F.type_list_append Yf (pv 7) (ZA (Zs (ZA (ZY Zm (pv 3) (pv 8) (fun _ _=>rfl)) (ZA (pv 9) ZE))) ZE)))))))
  ) (ZH (ZW (Zs (ZA (pv 7) (ZA (pv 5) ZE)))))))))),?_⟩
 show let a:=_;let b:=_;let c:=_;let d:=ZQ _ c;let e:=ZQ _ d;let f:=_;let g:=ZQ _ f;let h:=ZQ (Zw _ e g) b;let i:=_;let j:=ZQ (Zw _ i _) h;let k:=ZQ _ j;let l:=ZQ (VX _ _ k) a;let m:=ZQ _ l;let n:=ZQ _ m;let o:=ZQ _ n;let p:=ZQ _ o;ZQ _ p _ _ _
 intros
 refine ⟨p,most,rfl,hs,by omega,by omega,fun r H1 r0 r1 b1 s1=>?_⟩;obtain ⟨rn,rfl⟩:∃ m:Nat,r=m:=⟨r.toNat,by omega⟩;refine ⟨p,1 + rn,(by show [V.ref p,V.int (1 + (rn:Int))]= [V.ref p,V.int ((1 + rn:Nat):Int)];push_cast;rfl),s1,by omega,fun nm ys H2 b2 s2 f2 np2 hnm hly wds=>?_⟩;have lm:(ys.map V.str).length=ys.length:=List.length_map _;refine ⟨nm,_,rfl, .inl (SqL.of hnm), .inl ⟨by decide,by decide⟩,p,4 * ys.length,65,2,(by rw [<-Wu,lm];show [V.ref p,V.int (4 * (ys.length:Int)),_,V.int 2]= [V.ref p,V.int ((4 * ys.length:Nat):Int),_,V.int 2];push_cast;rfl),s2, .inr rfl,by decide, .inl ⟨by decide,by omega⟩,fun tg tgs H3 b3 s3 f3 np3 htg hlt wdt=>?_⟩;intro cn hcn dp hdp;refine ⟨sl 0,fun kl hkl=>?_⟩;have bH:SameB p H H3:=(b1.sb.trans b2).trans b3;have hnm3:=b3 _ _ np2 hnm;have cd:cn≠dp:=fun e=>by rw [<-e,ZD] at hdp;cases hdp
 have hdp3:H3 dp=none:=by rw [ZI (Ne.symm cd)] at hdp;exact hdp
 have kcn:kl≠cn:=fun e=>by rw [e,ZI cd,ZD] at hkl;cases hkl
 have kdp:kl≠dp:=fun e=>by rw [e,ZD] at hkl;cases hkl
 have hkl3:H3 kl=none:=by rw [ZI kdp,ZI kcn] at hkl;exact hkl
 have a:KA H p nm tg cn dp kl:=⟨b1.sb.free np2 f2,(b1.sb.trans b2).free np3 f3,bH.free (s3.ne hcn) hcn,bH.free (s3.ne hdp3) hdp3,bH.free (s3.ne hkl3) hkl3,np2,np3,s3.ne hcn,s3.ne hdp3,s3.ne hkl3,cd,ZJ hnm3 hkl3,ZJ htg hkl3⟩;have nmc:nm≠cn:=ZJ hnm3 hcn;have nmd:nm≠dp:=ZJ hnm3 hdp3;have tgc:tg≠cn:=ZJ htg hcn;have tgd:tg≠dp:=ZJ htg hdp3;have hnm6:upd (upd (upd H3 cn (.dK [])) dp (.dK [])) kl (.lst []) nm=some (.lst (ys.map V.str)):=by rw [ZI a.nkl,ZI nmd,ZI nmc];exact hnm3
 refine ⟨nm,_,rfl, .inl (SqL.of hnm6),_,rfl,by omega,by omega,?_⟩
 let I:Nat->St->Hp->Prop:=fun i U H'=> ∃ kc kd ks c d xs,KJ H p nm tg cn dp kl top ys tgs i kc kd ks c d xs H'/\
  ∃ z1 z2,U= [some (.ref p),some (.int most),some (.int top),some (.ref nm),some (.ref tg),some (.ref cn),some (.ref dp),some (.ref kl),z1,z2]
 refine Ug (n:=(((ys.map V.str).length:Nat):Int).toNat) I ?_ ?_ ?_
 .refine ⟨[], [], [],fun _=>0,fun _=>0, [],⟨?_,?_,hnm6,?_,?_,?_,ZD,Nat.le_refl _,Nat.le_refl _,fun y hy=>by simp at hy,fun y hy=>by simp at hy,rfl,fun i y s e=>by simp at e,HasL.nil,fun i y s e=>by simp at e,fun i j y z a b e=>by simp at e⟩,_,_,rfl⟩
  .exact (((bH.put a.fc)).put a.fd).put a.fk
  .exact s3.keep (by rw [ZI (Ne.symm a.klp),ZI (Ne.symm a.dpp),ZI (Ne.symm a.cnp)])
  .rw [ZI a.tkl,ZI tgd,ZI tgc];exact htg
  .rw [ZI (Ne.symm kcn),ZI cd,ZD]
  .rw [ZI (Ne.symm kdp),ZD]
 .rintro BB RR i U H' hi ⟨kc,kd,ks,c,d,xs,j,z1,z2,rfl⟩
  have hi':i < ys.length:=by omega
  obtain ⟨y,hy⟩:∃ y,ys[i]?=some y:=⟨ys[i],List.getElem?_eq_getElem hi'⟩;have i0:(0 + (i:Int))=(i:Int):=by omega
  have aty:atI (ys.map V.str) (0 + (i:Int))=some (.str y):=by rw [i0];exact Z7 (by rw [List.getElem?_map,hy];rfl)
  have ltop:i<=ys.length:=Nat.le_of_lt hi';have ly8:ys.length<=6:=by omega
  refine FF ?_;refine Vi (fun s1 H1=> ∃ v,KJ H p nm tg cn dp kl top ys tgs i kc kd ks c d xs H1/\s1= [some (.ref p),some (.int most),some (.int top),some (.ref nm),some (.ref tg),some (.ref cn),some (.ref dp),some (.ref kl),some (.int (0 + (i:Int))),some v]/\
   (v= .non \/ ∃ (e g:Str) (r:Addr),v= .ref r/\H1 r=some (.tup [.str "pair", .str e, .str g])/\e∈ys.take i/\g∈ys.take i/\1 + max (d e) (d g)<=2/\1 + c e * c g<=top/\Shp.pair e g ∉ ks.map (·.2))) ?_ ?_
  .rintro s1 H1 ⟨v,j1,rfl,hv⟩
   refine Vi (fun s2 H2=> ∃ (H1:Hp) (s:Shp) (v:V) (n m:Nat),KJ H p nm tg cn dp kl top ys tgs i kc kd ks c d xs H1/\Has H1 v s.dat/\n<=1000/\m<=1000/\
    KK1 top (fun z=>if z=y then n else c z) (fun z=>if z=y then m else d z) (ks.map (·.1)) y s/\(∀ ts,s= .tags ts->∃ r,r < 4/\ts=(tgs.drop (4 * i)).take (1 + r))/\(∀ a b,s= .pair a b->s ∉ ks.map (·.2))/\H2=upd (upd H1 cn (.dK (putK kc (Sum.inr y) (.int n)))) dp (.dK (putK kd (Sum.inr y) (.int m)))/\
    s2= [some (.ref p),some (.int most),some (.int top),some (.ref nm),some (.ref tg),some (.ref cn),some (.ref dp),some (.ref kl),some (.int (0 + (i:Int))),some v]) ?_ ?_
   .rintro s2 H2 ⟨H1,s,v,n',m',j1,hv,hn',hm',k1,g1,g2,rfl,rfl⟩
    have kc1:kl≠cn:=kcn;have nm1:nm≠cn:=nmc;have hk2:upd (upd H1 cn (.dK (putK kc (Sum.inr y) (.int n')))) dp (.dK (putK kd (Sum.inr y) (.int m'))) kl=some (.lst xs):=by rw [ZI kdp,ZI kcn];exact j1.kls
    have hn2:upd (upd H1 cn (.dK (putK kc (Sum.inr y) (.int n')))) dp (.dK (putK kd (Sum.inr y) (.int m'))) nm=some (.lst (ys.map V.str)):=by rw [ZI nmd,ZI nmc];exact j1.nms
    refine ⟨.inl ⟨rfl,_,SqL.of hk2⟩,_,_,SqL.of hn2,aty,sl 2,fun t ht=>?_⟩;have ktt:kl≠t:=ZJ hk2 ht;refine ⟨kl,xs,_,rfl,rfl,(ZI ktt).trans hk2,?_,_,_,_,_,_,_,j1.step a wds.nd hy hv hn' hm' k1 g1 g2 ht,_,_,rfl⟩;have lx:=j1.hs.length;rw [List.length_map] at lx
    have lk:ks.length=i:=by
     have:=congrArg List.length j1.nk;rw [List.length_map,List.length_take] at this;omega
    exact ZK (by omega)
   .intro NX K2
    have ny:y ∉ ys.take i:=fun hm=>by
     have q':(ys.take i++ [y]).Nodup:=by rw [<-take_snoc hy];exact wds.nd.sublist (List.take_sublist _ _)
     exact (List.nodup_append.mp q').2.2 y hm y (by simp) rfl
    refine ⟨rfl,_,rfl,?_⟩;rcases hv with rfl | ⟨e,g,r,rfl,hr1,he,hg,hdeep,hcnt,hnew⟩
    .refine Yb rfl ?_
     refine ⟨.inl ⟨by decide,by decide⟩,_,rfl, .inl ⟨by decide,by decide⟩,p,4,rfl,j1.st,by decide,by decide,fun r H2 r0 r1 b2 s2=>?_⟩;obtain ⟨rn,rfl⟩:∃ m:Nat,r=m:=⟨r.toNat,by omega⟩;have j2:=j1.sameB a b2.sb s2;refine ⟨_,rfl,tg,_,rfl,SqL.of j2.tgS,fun q1 hq1=>⟨q1,_,rfl, .inl ⟨SqL.of ZD,fun l hl=>⟨sl 2,fun t ht=>?_⟩⟩⟩⟩;have e1:(4 * (0 + (i:Int)))=((4 * i:Nat):Int):=by omega
     have e2:(4 * (0 + (i:Int)) + 1 + (rn:Int))=((4 * i + 1 + rn:Nat):Int):=by omega
     have lt:(tgs.map V.str).length=tgs.length:=List.length_map _
     have ec:JE (tgs.map V.str) (some (4 * (0 + (i:Int)))) (some (4 * (0 + (i:Int)) + 1 + (rn:Int)))=(((tgs.drop (4 * i)).take (1 + rn)).map V.str):=by
      rw [e2,e1,KS _ _ _ (by omega) (by omega),List.map_take,List.map_drop]
      congr 1
      omega
     rw [ec] at hl ht |-;generalize hts:(tgs.drop (4 * i)).take (1 + rn)=ts at hl ht |-;have tnd:ts.Nodup:=by rw [<-hts];exact List.Pairwise.sublist ((List.take_sublist _ _).trans (List.drop_sublist _ _)) wdt.nd
     have lts:ts.length=1 + rn:=by rw [<-hts,List.length_take,List.length_drop];omega
     have st1:=ZF hq1 (.lst (ts.map V.str));have st2:=ZF hl (.tup (ts.map V.str));have st3:=ZF ht (.tup [.str "tags", .ref l]);have st:=(st1.trans st2).trans st3
     have s5:Zy (upd (upd (upd H2 q1 (.lst (ts.map V.str))) l (.tup (ts.map V.str))) t (.tup [.str "tags", .ref l])) p:=by
      obtain ⟨a1,a2,a3,a4,a5⟩:=j2.st;exact ⟨a1,a2,a3,a4,st _ _ a5⟩
     have j5:=j2.sameB a st.sb s5;have hl5:=st3 _ _ (ZD (H:=upd H2 q1 (.lst (ts.map V.str))) (a:=l) (o:= .tup (ts.map V.str)));generalize hH5:upd (upd (upd H2 q1 (.lst (ts.map V.str))) l (.tup (ts.map V.str))) t (.tup [.str "tags", .ref l])=H5 at j5 hl5 |-;have ht5:H5 t=some (.tup [.str "tags", .ref l]):=by rw [<-hH5,ZD]
     have en:(1:Int) + (((ts.map V.str).length:Nat):Int)=((1 + ts.length:Nat):Int):=by rw [List.length_map];push_cast;rfl
     refine ⟨_,_,SqT.of ht5,rfl,l,_,rfl, .inr (SqT.of hl5),?_⟩;dsimp only [rI0,rI,Vt];rw [en];have lc:=j5.lc;have ld:=j5.ld;refine ⟨_,_,SqL.of j5.nms,aty,_,VJ.k (k:=Sum.inr y) j5.cns (ZK (by omega)),?_⟩;refine ⟨_,_,SqL.of ((ZI nmc).trans j5.nms),aty,_,VJ.k (k:=Sum.inr y) ((ZI (Ne.symm cd)).trans j5.dps) (ZK (by omega)),?_⟩;refine K2 _ _ ⟨H5, .tags ts, .ref t,1 + ts.length,0,j5,?_,by omega,by decide,⟨by omega,by omega,if_pos rfl,if_pos rfl,tnd⟩,fun ts' e=>⟨rn,by omega,by cases e;exact hts.symm⟩,(fun _ _ e=>nomatch e),rfl,rfl⟩;unfold Shp.dat Has;refine ⟨t,_,rfl,ht5,HasL.cons (by unfold Has;rfl) (HasL.cons ?_ HasL.nil)⟩;unfold Has;exact ⟨l,_,rfl,hl5,Ts ts⟩
    .refine Zk (by simp) ?_
     have lc:=j1.lc;have ld:=j1.ld;obtain ⟨vce,ce1⟩:=j1.vc e he;obtain ⟨vcg,cg1⟩:=j1.vc g hg;obtain ⟨vde,de1⟩:=j1.vd e he;obtain ⟨vdg,dg1⟩:=j1.vd g hg;have gce:Zz H1 cn (.str e) (some (.int (c e))):=by rw [<-vce];exact Zz.k (k:=Sum.inr e) j1.cns
     have gcg:Zz H1 cn (.str g) (some (.int (c g))):=by rw [<-vcg];exact Zz.k (k:=Sum.inr g) j1.cns
     have en:(1:Int) + (c e:Int) * (c g:Int)=((1 + c e * c g:Nat):Int):=by push_cast;rfl
     refine ⟨_,_,SqT.of hr1,rfl,_,gce,_,_,SqT.of hr1,rfl,_,gcg, .inl ⟨by omega,by omega⟩,?_⟩;dsimp only [rI0,rI,Vt];rw [en];refine ⟨_,_,SqL.of j1.nms,aty,_,VJ.k (k:=Sum.inr y) j1.cns (ZK (by omega)),?_⟩;have hr2:upd H1 cn (.dK (putK kc (Sum.inr y) (.int ((1 + c e * c g:Nat):Int)))) r=some (.tup [.str "pair", .str e, .str g]):=(ZI (YM hr1 j1.cns (fun z=>nomatch z))).trans hr1;have hd2:upd H1 cn (.dK (putK kc (Sum.inr y) (.int ((1 + c e * c g:Nat):Int)))) dp=some (.dK kd):=(ZI (Ne.symm cd)).trans j1.dps;have gde:Zz (upd H1 cn (.dK (putK kc (Sum.inr y) (.int ((1 + c e * c g:Nat):Int))))) dp (.str e) (some (.int (d e))):=by rw [<-vde];exact Zz.k (k:=Sum.inr e) hd2
     have gdg:Zz (upd H1 cn (.dK (putK kc (Sum.inr y) (.int ((1 + c e * c g:Nat):Int))))) dp (.str g) (some (.int (d g))):=by rw [<-vdg];exact Zz.k (k:=Sum.inr g) hd2
     have em:(1:Int) + (if (d g:Int) > (d e:Int) then (d g:Int) else (d e:Int))=((1 + max (d e) (d g):Nat):Int):=by
      split <;> omega
     refine ⟨_,_,SqT.of hr2,rfl,_,gde,_,_,SqT.of hr2,rfl,_,gdg,_,_,rfl,?_⟩;dsimp only [rI0,rI,Vt];rw [em];refine ⟨_,_,SqL.of ((ZI nmc).trans j1.nms),aty,_,VJ.k (k:=Sum.inr y) hd2 (ZK (by omega)),?_⟩;have ney:e≠y:=fun z=>ny (z ▸ he);have ngy:g≠y:=fun z=>ny (z ▸ hg);refine K2 _ _ ⟨H1, .pair e g, .ref r,1 + c e * c g,1 + max (d e) (d g),j1,?_,by omega,by omega,⟨by rw [j1.nk];exact he,by rw [j1.nk];exact hg,?_,?_,?_,?_⟩,(fun _ e=>nomatch e),(fun _ _ _=>hnew),rfl,rfl⟩
     .unfold Shp.dat Has
      refine ⟨r,_,rfl,hr1,HasL.cons ?_ (HasL.cons ?_ (HasL.cons ?_ HasL.nil))⟩ <;> (unfold Has;rfl)
     .show (if y=y then _ else _)=1 + (if e=y then _ else c e) * (if g=y then _ else c g)
      rw [if_pos rfl,if_neg ney,if_neg ngy]
     .show (if y=y then _ else _)<=top
      rw [if_pos rfl];exact hcnt
     .show (if y=y then _ else _)=1 + max (if e=y then _ else d e) (if g=y then _ else d g)
      rw [if_pos rfl,if_neg ney,if_neg ngy]
     .show (if y=y then _ else _)<=2
      rw [if_pos rfl];exact hdeep
  .intro NX K1
   refine ⟨_,rfl,?_⟩;refine Yr (fun c0=>?_) (fun c0=>?_)
   .refine ⟨p,2,rfl,j.st,by decide,by decide,fun r H1 r0 r1 b1 s1=>?_⟩
    have j1:=j.sameB a b1.sb s1;refine ⟨rfl,_,rfl,?_⟩;refine Yr (fun c1=>?_) (fun c1=>?_)
    .have ec:JE (ys.map V.str) none (some (0 + (i:Int)))=(ys.take i).map V.str:=by
      rw [i0,E5 _ _ (by omega),List.map_take]
     refine ⟨_,rfl,nm,_,rfl,SqL.of j1.nms,fun q1 hq1=>?_⟩;rw [ec];have sq:=ZF hq1 (.lst ((ys.take i).map V.str));have q1p:q1≠p:=s1.ne hq1;have jq:=j1.sameB a sq.sb (s1.keep (ZI (Ne.symm q1p)));have hq2:upd H1 q1 (.lst ((ys.take i).map V.str)) q1=some (.lst ((ys.take i).map V.str)):=ZD;generalize upd H1 q1 (.lst ((ys.take i).map V.str))=Hq at jq hq2;have lx:=jq.hs.length;rw [List.length_map] at lx
     have lk:ks.length=i:=by
      have:=congrArg List.length jq.nk;rw [List.length_map,List.length_take] at this;omega
     refine ⟨⟨_,SqL.of jq.kls⟩,?_⟩;refine YE xs.length (ZK (by omega)) (fun m vs H'=>H'=Hq/\vs.length=m/\HasL Hq vs (((ks.map (·.2)).map Shp.dat).take m)) ⟨rfl,rfl,by rw [List.take_zero];exact HasL.nil⟩ (fun m vs H' z=>z.2.1) ?_ ?_ ?_ ?_
     .rintro m vs H' hm ⟨rfl,_⟩
      exact ⟨xs,xs[m],SqL.of jq.kls,by simp [hm]⟩
     .rintro vs H' ⟨rfl,_⟩
      exact ⟨xs,SqL.of jq.kls,Nat.le_refl _⟩
     .rintro m vs H' x H'' R hm ⟨rfl,z2,z3⟩ yl hR
      obtain ⟨rfl,y'⟩:=yl;have e1:=y' xs (SqL.of jq.kls);obtain ⟨d1,hd1,hx1⟩:=jq.hs.get e1;rw [List.getElem?_map] at hd1
      cases hk:ks[m]? with
      | none=>rw [hk] at hd1;cases hd1
      | some ys1=>
       rw [hk] at hd1;obtain ⟨y1,s1'⟩:=ys1;cases hd1;obtain ⟨a1,v1,rfl,ha1,hv1⟩:=JC hx1;refine ⟨_,_,SqT.of ha1,rfl,hR _ _ ⟨rfl,by rw [List.length_append,z2];rfl,?_⟩⟩;have e2:((ks.map (·.2)).map Shp.dat)[m]?=some s1'.dat:=by rw [List.getElem?_map,List.getElem?_map,hk];rfl
       rw [take_snoc e2];exact HasL.append z3 (HasL.one hv1)
     .rintro vs H' tk ⟨rfl,z2,z3⟩ htk
      have z4:HasL H' vs ((ks.map (·.2)).map Shp.dat):=by
       rw [List.take_of_length_le (by rw [List.length_map,List.length_map];omega)] at z3;exact z3
      have st':=ZF htk (.lst vs);have tkp:tk≠p:=jq.st.ne htk;have sc:Zy (upd H' tk (.lst vs)) p:=jq.st.keep (ZI (Ne.symm tkp));have jc:=jq.sameB a st'.sb sc
      have hi0:0 < i:=by
       have z:(0:Int) < 0 + (i:Int):=of_decide_eq_true c0;omega
      have lti:(ys.take i).length=i:=by rw [List.length_take];omega
      refine ⟨p,q1,cn,dp,tk,top,ys.take i,ks.map (·.2),rfl,sc,st' _ _ hq2,by omega,by omega,⟨kc,jc.cns,by rw [lti];exact jc.lc,fun z hz=>⟨c z,(jc.vc z hz).1,Nat.zero_le _,(jc.vc z hz).2⟩⟩,⟨kd,jc.dps,by rw [lti];exact jc.ld,fun z hz=>⟨d z,(jc.vd z hz).1,Nat.zero_le _,(jc.vd z hz).2⟩⟩,Zx ZD (z4.mono st'),q1p,a.cnp,a.dpp,tkp,fun v H2 b2 s2 hv=>?_⟩;refine K1 _ _ ⟨v,jc.sameB a b2 s2,rfl,?_⟩;rcases hv with hv | ⟨e,g,r',ca,cb,da,db,he,hg,rfl,_,hr2,hcc,hdd,h1,h2,h3⟩
      .exact .inl hv
      .refine .inr ⟨e,g,r',rfl,hr2,he,hg,?_,?_,h3⟩
       .obtain ⟨d1,d2⟩:=hdd kd jc.dps
        rw [(jc.vd e he).1] at d1;rw [(jc.vd g hg).1] at d2;injection d1 with d1;injection d1 with d1;injection d2 with d2;injection d2 with d2;have x1:d e=da:=by omega
        have x2:d g=db:=by omega
        rw [x1,x2];exact h1
       .obtain ⟨d1,d2⟩:=hcc kc jc.cns
        rw [(jc.vc e he).1] at d1;rw [(jc.vc g hg).1] at d2;injection d1 with d1;injection d1 with d1;injection d2 with d2;injection d2 with d2;have x1:c e=ca:=by omega
        have x2:c g=cb:=by omega
        rw [x1,x2];exact h2
    .exact K1 _ _ ⟨.non,j1,rfl, .inl rfl⟩
   .exact Zk (by simp) (K1 _ _ ⟨.non,j,rfl, .inl rfl⟩)
 .rintro U H' ⟨kc,kd,ks,c,d,xs,j,z1,z2,rfl⟩
  have en:((((ys.map V.str).length:Nat):Int).toNat)=ys.length:=by omega
  rw [en] at j;refine ⟨sl 2,fun t ht=>?_⟩;have st:=ZF ht (.tup [.ref kl, .ref cn]);have tp:=j.st.ne ht;have nk:=j.nk;rw [List.take_length] at nk;have lk:ks.length=ys.length:=by rw [<-nk,List.length_map]
  exact q t kl cn ks c d xs _ (j.sb.trans st.sb) (j.st.keep (ZI (Ne.symm tp))) (j.sb.free tp ht) tp ZD a.fk a.klp (st _ _ j.kls) (j.hs.mono st) j.kk (by rw [nk];exact wds.nd) (by omega) (by omega) ⟨by rw [nk];exact wds,⟨tgs,wdt,j.tq⟩,j.pq⟩ a.fc a.cnp ⟨kc,st _ _ j.cns,fun y hy=>(j.vc y (by rw [List.take_length,<-nk];exact hy)).1⟩
end
end K4
namespace L2
open PySem
def YQ(ks:List (Str × Shp))(y:Str):Option Shp:=(ks.find? fun k=>decide (k.1=y)).map (·.2)
def Zd(ks:List (Str × Shp)):Nat->Str->List W
 | 0,_=> []
 | n + 1,y=>match YQ ks y with
  | none=> []
  | some (.tags ts)=> .non::ts.map W.tag
  | some (.pair a b)=> .non::(Zd ks n a).flatMap fun u=>(Zd ks n b).map fun v=> .pair u v
theorem Jg(h:YQ ks y=some s):(y,s)∈ks:=by
 unfold YQ at h
 cases e:ks.find? fun k=>decide (k.1=y) with
 | none=>rw [e] at h;cases h
 | some k=>
  rw [e] at h;have h':k.2=s:=Option.some.inj h;have q:=List.find?_some e;have m:=List.mem_of_find?_eq_some e;have z:k.1=y:=of_decide_eq_true q;rw [<-h',<-z];exact m
theorem Yj(h:y∈ks.map (·.1)):∃ s,YQ ks y=some s:=by
 obtain ⟨k,hk,rfl⟩:=List.mem_map.mp h;unfold YQ
 cases e:ks.find? fun z=>decide (z.1=k.1) with
 | none=>
  have q:=List.find?_eq_none.mp e k hk;simp at q
 | some z=>exact ⟨z.2,rfl⟩
theorem KK.at(h:KK top c d ks)(e:YQ ks y=some s):KK1 top c d (ks.map (·.1)) y s:=by
 obtain ⟨i,hi,ei⟩:=List.mem_iff_getElem.mp (Jg e);have q:=h i y s (by rw [List.getElem?_eq_getElem hi,ei])
 have sub:∀ z,z∈(ks.take i).map (·.1)->z∈ks.map (·.1):=fun z hz=>by
  obtain ⟨k,hk,rfl⟩:=List.mem_map.mp hz;exact List.mem_map.mpr ⟨k,List.mem_of_mem_take hk,rfl⟩
 cases s with
 | tags ts=>exact q
 | pair a b=>exact ⟨sub a q.1,sub b q.2.1,q.2.2⟩
theorem WL{α:Type}(f:α->List W)(k:Nat):∀ (l:List α),(∀ a∈l,(f a).length=k)->(l.flatMap f).length=l.length * k
 | [],_=>by simp
 | a::l,h=>by
  rw [List.flatMap_cons,List.length_append,h a (by simp),WL f k l fun b hb=>h b (by simp [hb]),List.length_cons,Nat.succ_mul,Nat.add_comm]
theorem Yx(h:KK top c d ks):∀ (n:Nat) (y:Str),y∈ks.map (·.1)->d y < n->(Zd ks n y).length=c y/\0 < c y/\∀ u∈Zd ks n y,u.dep<=d y
 | 0,y,_,hd=>absurd hd (Nat.not_lt_zero _)
 | n + 1,y,hy,hd=>by
  obtain ⟨s,hs⟩:=Yj hy;have k1:=h.at hs;unfold Zd;rw [hs]
  cases s with
  | tags ts=>
   obtain ⟨h1,h2,h3,h4,_⟩:=k1;refine ⟨?_,by omega,fun u hu=>?_⟩
   .show (W.non::ts.map W.tag).length=c y
    rw [List.length_cons,List.length_map];omega
   .have hu':u= .non \/ u∈ts.map W.tag:=List.mem_cons.mp hu
    rcases hu' with rfl | hu'
    .exact Nat.zero_le _
    .obtain ⟨x,_,rfl⟩:=List.mem_map.mp hu'
     exact Nat.zero_le _
  | pair a b=>
   obtain ⟨h1,h2,h3,h4,h5,h6⟩:=k1;have m1:=Nat.le_max_left (d a) (d b);have m2:=Nat.le_max_right (d a) (d b);obtain ⟨la,pa,da⟩:=Yx h n a h1 (by omega);obtain ⟨lb,pb,db⟩:=Yx h n b h2 (by omega);refine ⟨?_,by omega,fun u hu=>?_⟩
   .show (W.non::(Zd ks n a).flatMap fun u=>(Zd ks n b).map fun v=> .pair u v).length=c y
    rw [List.length_cons,WL _ (c b) _ (fun a _=>by rw [List.length_map,lb]),la];omega
   .have hu':u= .non \/ u∈(Zd ks n a).flatMap fun u=>(Zd ks n b).map fun v=> .pair u v:=List.mem_cons.mp hu
    rcases hu' with rfl | hu'
    .exact Nat.zero_le _
    .obtain ⟨x,hx,hu2⟩:=List.mem_flatMap.mp hu'
     obtain ⟨z,hz,rfl⟩:=List.mem_map.mp hu2;have q1:=da x hx;have q2:=db z hz;show 1 + max x.dep z.dep<=d y;have:=Nat.max_le.mpr ⟨Nat.le_trans q1 m1,Nat.le_trans q2 m2⟩;omega
def WU(H:Hp)(a:Addr)(ks:List (Str × Shp)):Prop:= ∃ kvs,Rd H a (.dK kvs)/\kvs.map (·.1)=ks.map (fun k=>Sum.inr k.1)/\∀ y s,YQ ks y=some s->∃ v,Zp kvs (Sum.inr y)=some v/\Has H v s.dat
theorem Y7(h:KK top c d ks):∀ (n m:Nat) (y:Str),y∈ks.map (·.1)->d y < n->d y < m->Zd ks n y=Zd ks m y
 | 0,_,_,_,h1,_=>absurd h1 (Nat.not_lt_zero _)
 | _ + 1,0,_,_,_,h2=>absurd h2 (Nat.not_lt_zero _)
 | n + 1,m + 1,y,hy,h1,h2=>by
  obtain ⟨s,hs⟩:=Yj hy;have k1:=h.at hs;unfold Zd;rw [hs]
  cases s with
  | tags ts=>rfl
  | pair a b=>
   obtain ⟨q1,q2,q3,q4,q5,q6⟩:=k1;have m1:=Nat.le_max_left (d a) (d b);have m2:=Nat.le_max_right (d a) (d b);show (W.non::_)=(W.non::_);rw [Y7 h n m a q1 (by omega) (by omega),Y7 h n m b q2 (by omega) (by omega)]
theorem Wh:∀ {ts:List Str}{zs:List V},HasL H zs (ts.map Dat.str)->zs=ts.map V.str
 | [], [],_=>rfl
 | [],_::_,h=>by rw [List.map_nil] at h;unfold HasL at h;exact h.elim
 | _::_, [],h=>by rw [List.map_cons] at h;unfold HasL at h;exact h.elim
 | t::ts,z::zs,h=>by
  rw [List.map_cons] at h;unfold HasL at h;obtain ⟨g1,g2⟩:=h;unfold Has at g1;rw [g1,Wh g2];rfl
def wOf(ks:List (Str × Shp))(n:Nat):Shp->List W
 | .tags ts=> .non::ts.map W.tag
 | .pair a b=> .non::(Zd ks n a).flatMap fun u=>(Zd ks n b).map fun v=> .pair u v
theorem V5(h:YQ ks y=some s):Zd ks (n + 1) y=wOf ks n s:=by
 conv=>lhs;unfold Zd
 rw [h];cases s <;> rfl
theorem Wv{α:Type}(f:α->List W){l:List α}{a:α}(h:l[i]?=some a):(l.take (i + 1)).flatMap f=(l.take i).flatMap f++ f a:=by
 rw [take_snoc h,List.flatMap_append];simp
theorem Va(h:Has H v (Shp.tags ts).dat):∃ p l,v= .ref p/\H p=some (.tup [.str "tags", .ref l])/\H l=some (.tup (ts.map V.str)):=by
 unfold Shp.dat Has at h;obtain ⟨p,xs,rfl,hp,hl⟩:=h
 match xs,hl with
 | [u,v],hl=>
  unfold HasL at hl;obtain ⟨h1,h2⟩:=hl;unfold HasL at h2;unfold Has at h1;subst h1;have h3:=h2.1;unfold Has at h3;obtain ⟨l,zs,rfl,hz,hzl⟩:=h3;have e:zs=ts.map V.str:=Wh hzl;rw [e] at hz;exact ⟨p,l,rfl,hp,hz⟩
 | [],hl=>unfold HasL at hl;exact hl.elim
 | [x],hl=>unfold HasL at hl;obtain ⟨_,h2⟩:=hl;unfold HasL at h2;exact h2.elim
 | _::_::_::_,hl=>unfold HasL at hl;obtain ⟨_,h2⟩:=hl;unfold HasL at h2;obtain ⟨_,h3⟩:=h2;unfold HasL at h3;exact h3.elim
theorem Y5(h:Has H v (Shp.pair a b).dat):∃ p,v= .ref p/\H p=some (.tup [.str "pair", .str a, .str b]):=by
 unfold Shp.dat Has at h;obtain ⟨p,xs,rfl,hp,hl⟩:=h
 match xs,hl with
 | [u,v,w],hl=>
  unfold HasL at hl;obtain ⟨h1,h2⟩:=hl;unfold HasL at h2;obtain ⟨h2,h3⟩:=h2;unfold HasL at h3;have h3:=h3.1;unfold Has at h1 h2 h3;subst h1 h2 h3;exact ⟨p,rfl,hp⟩
 | [],hl=>unfold HasL at hl;exact hl.elim
 | [x],hl=>unfold HasL at hl;obtain ⟨_,h2⟩:=hl;unfold HasL at h2;exact h2.elim
 | [x,y],hl=>unfold HasL at hl;obtain ⟨_,h2⟩:=hl;unfold HasL at h2;obtain ⟨_,h3⟩:=h2;unfold HasL at h3;exact h3.elim
 | _::_::_::_::_,hl=>unfold HasL at hl;obtain ⟨_,h2⟩:=hl;unfold HasL at h2;obtain ⟨_,h3⟩:=h2;unfold HasL at h3;obtain ⟨_,h4⟩:=h3;unfold HasL at h4;exact h4.elim
theorem Rd.mono(r:Rd H a u)(e:Same H H'):Rd H' a u:=by
 rcases r with r | ⟨o,r⟩
 .exact .inl (e _ _ r)
 .exact .inr ⟨o,e _ _ r⟩
theorem WU.mono(s:WU H a ks)(e:Same H H'):WU H' a ks:=by
 obtain ⟨kvs,h1,h2,h3⟩:=s;exact ⟨kvs,h1.mono e,h2,fun y s hs=>let ⟨v,g1,g2⟩:=h3 y s hs;⟨v,g1,g2.mono e⟩⟩
theorem Xs:∀ ts:List Str,HasL H (ts.map V.str) ((ts.map W.tag).map W.dat)
 | []=>HasL.nil
 | t::ts=>HasL.cons (by show Has H (.str t) (W.dat (.tag t));unfold W.dat Has;rfl) (Xs ts)
end L2
namespace L2
open PySem PySem.Spec PyProof.Rows
section
def T1(K:W.Frag):R2:=fun x y H Q=> ∃ a b ys,x= .ref a/\y= .ref b/\SqT K H a []/\SqT K H b ys/\Q (.ref b) H
theorem IM:OpR X (binaryOp .Add) (T1 X.K):=by
 intro pins s U H x y v u Q I rx ry h;obtain ⟨a,b,ys,rfl,rfl,ha,hb,q⟩:=h;cases rx;cases ry;obtain ⟨its,r1,p1,_⟩:=I.tuple ha;obtain ⟨its2,r2,p2,_⟩:=I.tuple hb;cases r1;obtain ⟨⟨k1,dd,data,sl⟩,ho,hc,n,hd⟩:=id p1;obtain ⟨⟨k2,dd2,data2,sl2⟩,ho2,hc2,n2,hd2⟩:=id p2;simp only at hc hd hc2 hd2;subst hc hd hc2 hd2;exact concat_meets ⟨_,ho,rfl⟩ ⟨_,ho2,rfl⟩ noFill_tuple_add seq_tuple_add PySem.F.slot_tuple_add PySem.F.entry_tuple_add (PySem.F.args_tuple_add_2 _ _)
  (tuple_addW0 a b _ its2.toArray n n2 dd dd2 sl sl2 rfl) ⟨ho,ho2, .ref b,H,I,rfl,q⟩
theorem NP:OpR X (binaryOp .Add) (fun x y H Q=>T1 X.K x y H Q \/ Tz X.K x y H Q):=IM.or NO
end
end L2
namespace L2
open PySem PySem.Spec PyProof.Rows
theorem Jq:plainId "dict.update.loop" =true:=by decide +kernel
theorem RL:entryFor table "dict.update.loop" =some Builtin.«dict.update.loop»:=entryFor_of_fast (by kernel_rfl)
theorem KN:typeLookup (.type "list") (Str.ofString "keys")=pure none:=am_miss_of_fast (by decide +kernel)
section
theorem KO(pl:PlainL s.heap a its)(hA:A.handled=none)(h:∀ h' tk,(∀ b o,s.heap.get? b=some o->h'.get? b=some o)->Q none {s with heap:=h',toks:=tk}):
  wpAny (model prog w) A (getAttr? (.ref a) (Str.ofString "keys")) Q E s:=by
 obtain ⟨⟨c,dct,dat,sl⟩,k,hx,hc,hd,hdat⟩:=pl;simp only at hc hdat hd;subst hc hdat hd;obtain ⟨h0,gs,dr,tk,os⟩:=s;have sl':=F.slot_list_getattribute;have lk':=sl'.lookup;have bd':=sl'.bind (.ref a);have no':=am_list_getattr_none;have ae':=sub_AttributeError;have hT:∀ n,(Shared.mk h0 gs dr n os).TypeIs (.ref a) "list" :=fun n=>⟨_,hx,rfl⟩;simp only [getAttr?,getAttrBy?,getAttrBy]
 repeat (any_goals (first | assumption | exact hT _ | ((with_reducible show wpAny _ _ (call (Value.builtin "list.__getattribute__") _ _) _ _ _);refine call_meets F.slot_list_getattribute (hT _) am_entry_list_getattribute (F.args_list_getattribute_2 _ _) (meets_getattribute_miss_list a its k sl (Str.ofString "keys") _ KN (by decide +kernel) (by size_fits)) ⟨hx,hA,fun h' tk' e hx'=>?_⟩) | wp_step))
 have there:=hx'.there;obtain ⟨_,_,he⟩:=there;refine (?_:wpAny _ _ (getattributeRaised _ _ _ _ _ _ _) _ _ _);simp only [getattributeRaised]
 repeat any_goals first | assumption | wp_step
 exact h _ _ hx'.keeps
end
def PY{prog:Program}{w:World}(h₀:Heap)(vs:List (Key × Value))(i:Nat)(v:Value):Prop:=
 ∃ a k ku vu,v= .ref a/\vs[i]?=some (k,vu)/\h₀.IsTuple a #[ku,vu]/\(Zq prog w).is k ku=true
theorem Ba(vs:List (Key × Value))(hn:(vs.map (·.1)).Nodup)(e:vs[i]?=some (k,u)):stored (vs.take i) k u=vs.take (i + 1):=by
 obtain ⟨hi,e'⟩:=List.getElem?_eq_some_iff.mp e
 have hno:(vs.take i).any (fun kv=>decide (kv.1=k))=false:=by
  rw [Bool.eq_false_iff];intro hany;obtain ⟨kv,hm,hk⟩:=List.any_eq_true.mp hany;have hk':kv.1=k:=of_decide_eq_true hk;obtain ⟨j,hj,ej⟩:=List.mem_iff_getElem.mp hm;rw [List.length_take] at hj;rw [List.getElem_take] at ej;have hj':j < (vs.map (·.1)).length:=by rw [List.length_map];omega
  have hi':i < (vs.map (·.1)).length:=by rw [List.length_map];omega
  have q:(vs.map (·.1))[j]=(vs.map (·.1))[i]:=by
   rw [List.getElem_map,List.getElem_map,ej,e',hk']
  exact List.pairwise_iff_getElem.mp hn j i hj' hi' (by omega) q
 unfold stored;rw [hno,List.take_add_one,e]
 rfl
section
variable{St:Nat->Heap->Prop}
theorem Nf(W:Walks prog w A.in1 I fp wr n P St)(hlen:vs.length=n)(hsz:vs.length<=sizeLine)(hn:(vs.map (·.1)).Nodup)(hP:∀ i v,P i v->PY (prog:=prog) (w:=w) h₀ vs i v)(d:Addr)(hdf:d ∉ fp)(hw:∀ b o,h₀.get? b=some o->b ∉ wr/\b≠d)(res:Value):
  ∀ (k i:Nat) (s:Shared) (j:Int) (t:Tok),n - i=k->i<=n->St i s.heap->s.heap.DictOf (Zq prog w) d (vs.take i)->(∀ b o,h₀.get? b=some o->s.heap.get? b=some o)->
  (∀ h' tk,h'.DictOf (Zq prog w) d vs->(∀ b o,b ∉ wr->b≠d->s.heap.get? b=some o->h'.get? b=some o)->R (.ok (.ret res)) {s with heap:=h',toks:=tk})->
  codeAny (model prog w) A (.builtin "dict.update.loop" ⟨[.ref d, .ref I, .int j t,res], []⟩) R s:=by
 have hdw:d ∉ wr:=fun h=>hdf (W.sub _ h);intro k
 induction k with
 | zero=>
  intro i s j t hk hi hst hd h0 hR;have hin:i=n:=by omega
  subst hin;refine codeAny_builtin RL ?_;rw [Around.under_plainId Jq _];refine wpAny_bind (m:=pyNext (.ref I)) (W.done s _ _ hst fun h' tk hk'=>wpAny_bind (wpAny_pure (wpAny_pure ?_)));refine hR h' tk ?_ fun b o hb _ e=>hk' b o hb e;rw [<-hlen,List.take_length] at hd;obtain ⟨o,es,ep,ho,rest⟩:=hd;exact ⟨o,es,ep,hk' d o hdw ho,rest⟩
 | succ k ih=>
  intro i s j t hk hi hst hd h0 hR;have hlt:i < n:=by omega
  refine codeAny_builtin RL ?_;rw [Around.under_plainId Jq _];refine wpAny_bind (m:=pyNext (.ref I)) (W.item i s _ _ hlt hst fun v h' tk hPv hst' hk'=>?_);obtain ⟨a,key,ku,vu,rfl,ev,ht,hkey⟩:=hP i v hPv;have h0':∀ b o,h₀.get? b=some o->h'.get? b=some o:=fun b o e=>hk' b o (hw b o e).1 (h0 b o e);obtain ⟨o,ho,hc,m,hdat⟩:=ht;have ho':=h0' a o ho;have hT:({s with heap:=h',toks:=tk}:Shared).TypeIs (.ref a) "tuple" :=⟨o,ho',hc⟩;refine wpAny_bind (wpAny_holding (wpAny_bind (wpAny_tryCatch ?_)));simp only [Builtin.Dict.pairItems];refine wpAny_bind (m:=typeOf (.ref a)) (wpAny_typeOf hT ?_);rw [if_pos (by decide)];refine wpAny_bind (wpAny_seqItems ho' hdat (wpAny_pure ?_));show wpAny _ A.in1 (holding [ku,vu] (dictSet d ku vu)) _ _ _
  have hd':Heap.DictOf (Zq prog w) h' d (vs.take i):=by
   obtain ⟨o1,es,ep,ho1,rest⟩:=hd;exact ⟨o1,es,ep,hk' d o1 hdw ho1,rest⟩
  refine wpAny_holding (wpAny_dictSet_pairs (hsz:=by rw [List.length_take];omega) hkey hd' fun h2 hd2 hs2=>?_);rw [Ba vs hn ev] at hd2;refine wpAny_pure ⟨plainId_quiet Jq _,ih (i + 1) _ (j + 1) 0 (by omega) hlt (W.frame _ _ _ hst' fun b hb o e=>?_) hd2 (fun b o e=>?_) fun h3 tk3 hd3 hk3=>?_⟩
  .exact (hs2.2 b (fun z=>hdf (z ▸ hb))).trans e
  .exact (hs2.2 b (hw b o e).2).trans (h0' b o e)
  .refine hR h3 tk3 hd3 fun b o hb hbd e=>hk3 b o hb hbd ((hs2.2 b hbd).trans (hk' b o hb e))
end
section
def WV(K:W.Frag)(H:Hp)(ts:List Addr)(kvs:List (Key × V)):Prop:=ts.length=kvs.length/\∀ (i:Nat) (a:Addr) (k:Key) (y:V),ts[i]?=some a->kvs[i]?=some (k,y)->SqT K H a [kV k,y]
theorem WB(h:Heap):∀ (ts:List Addr) (kvs:List (Key × V)),ts.length=kvs.length->(∀ (i:Nat) (a:Addr) (k:Key) (y:V),ts[i]?=some a->kvs[i]?=some (k,y)->∃ ku vu,h.IsTuple a #[ku,vu]/\RelV (kV k) ku/\RelV y vu)->
  ∃ vs,KV kvs vs/\∀ (i:Nat) (a:Addr),ts[i]?=some a->∃ k ku vu,vs[i]?=some (k,vu)/\h.IsTuple a #[ku,vu]/\RelV (kV k) ku
 | [], [],_,_=>⟨[], .nil,fun i a e=>by simp at e⟩
 | [],_::_,e,_=>by simp at e
 | _::_, [],e,_=>by simp at e
 | t::ts,kv::kvs,e,hp=>by
  obtain ⟨ku,vu,h1,h2,h3⟩:=hp 0 t kv.1 kv.2 rfl rfl;obtain ⟨vs,r,hv⟩:=WB h ts kvs (by simpa using e) fun i a k y e1 e2=>hp (i + 1) a k y e1 e2;refine ⟨(kv.1,vu)::vs, .cons ⟨rfl,h3⟩ r,fun i a ea=>?_⟩
  cases i with
  | zero=>
   have ea':some t=some a:=ea;cases ea';exact ⟨kv.1,ku,vu,rfl,h1,h2⟩
  | succ i=>exact hv i a ea
theorem XS(hc:X.calm=true):Y9 X (.type "dict") (fun xs H Q=> ∃ (p:Addr) (ts:List Addr) (kvs:List (Key × V)),xs= [.ref p]/\SqL X.K H p (ts.map V.ref)/\WV X.K H ts kvs/\(kvs.map (·.1)).Nodup/\∀ l,H l=none->Q (.ref l) (upd H l (.dK kvs))):=by
 intro pins s U H xs us Q I r h;obtain ⟨p,ts,kvs,rfl,hq,hp,hn,q⟩:=h;obtain ⟨u,rfl,ru⟩:=vals1 r;cases ru;obtain ⟨its,r',pl,hz⟩:=I.list hq;rw [List.length_map] at hz
 have hlts:its.length=ts.length:=by
  have:=r'.length;rw [List.length_map] at this;exact this.symm
 have hat:∀ (i:Nat) (a:Addr),ts[i]?=some a->its[i]?=some (Value.ref a):=fun i a e=>by
  obtain ⟨u,hu,ru⟩:=r'.get (show (ts.map V.ref)[i]?=some (V.ref a) by rw [List.getElem?_map,e];rfl);rw [hu,show u=Value.ref a from ru]
 obtain ⟨vs,rel,hvs⟩:=WB s.heap ts kvs hp.1 fun i a k y e1 e2=>by
  obtain ⟨its2,r2,p2,_⟩:=I.tuple (hp.2 i a k y e1 e2)
  cases r2 with
  | cons r1 t1=>
   cases t1 with
   | cons r3 t3=>
    cases t3;exact ⟨_,_,p2,r1,r3⟩
 have hlv:vs.length=its.toArray.size:=by rw [List.size_toArray,hlts,hp.1,<-rel.length]
 have hkeys:vs.map (·.1)=kvs.map (·.1):=by
  have all:∀ {l:List (Key × V)}{m:List (Key × Value)},KV l m->m.map (·.1)=l.map (·.1):=by
   intro l m q
   induction q with
   | nil=>rfl
   | cons hq t ih=>rw [List.map_cons,List.map_cons,ih,hq.1]
  exact all rel
 have hpl:p < s.heap.objs.size:=by
  obtain ⟨o,n,e,_⟩:=pl;exact Heap.lt_size e
 refine callType_codes (Q₁:=fun ob t=>ob= .ref s.heap.objs.size/\t={s with heap:=s.heap.push {cls:= .type "dict",data:= .dict #[]}}) F.kt_called_dict (F.kt_typeCall_dict_1 _) F.entry_dict_init (kt_code_dict_new _ ⟨rfl,rfl⟩) fun ob t ht=>?_;obtain ⟨rfl,rfl⟩:=ht;have hnew:(s.heap.push {cls:= .type "dict",data:= .dict #[]}).DictOf (Zq X.prog X.w) s.heap.objs.size []:=Heap.DictOf.new s.heap;have k0:∀ b o,s.heap.get? b=some o->(s.heap.push {cls:= .type "dict",data:= .dict #[]}).get? b=some o:=fun b o e=>Heap.get?_push_of_some _ e;refine And.intro hnew.typeIs (And.intro (F.args_dict_init_2 _ _) ?_);delta Builtin.«dict.__init__» Builtin.Dict.selfAndRest;refine wpAny_bind (wpAny_bind (wpAny_notOrdered_dict hnew.typeIs (wpAny_pure (?_:wpAny _ _ (Builtin.Dict.updateFrom "dict.__init__" s.heap.objs.size (.ref p) [] .none) _ _ _))));delta Builtin.Dict.updateFrom;have pl':=pl.keeps k0;refine wpAny_bind (wpAny_typeOf pl'.isList.typeIs ?_);rw [if_pos (by decide)];refine wpAny_bind (KO pl' (I.ok.hd hc) fun h1 tk1 hk1=>?_);simp only [Option.isNone_none,if_true];refine wpAny_bind (wpAny_rule ?_);refine wpAny_bind (wpAny_pyIter_list (pl'.keeps hk1).isList ?_)
 have ld:s.heap.objs.size < h1.objs.size:=by
  obtain ⟨o,es,ep,ho,_⟩:=hnew;exact Heap.lt_size (hk1 _ _ ho)
 have k1:∀ b o,s.heap.get? b=some o->(h1.push {cls:= .type "list_iterator",data:= .fields #[.ref p, .int 0 0]}).get? b=some o:=fun b o e=>Heap.get?_push_of_some _ (hk1 b o (k0 b o e));refine wpAny_pure ⟨plainId_quiet Jq _,Nf (Walks.list (A:=X.A.in1.in1) (I.ok.hd hc) h1.objs.size p (Nat.ne_of_lt (Nat.lt_trans hpl ld)) its.toArray) (h₀:=s.heap) (vs:=vs) hlv (by rw [<-rel.length,<-hp.1];exact hz) (by rw [hkeys];exact hn) ?_ s.heap.objs.size ?_ ?_ .none _ 0 _ 0 0 rfl (Nat.zero_le _) ?_ ?_ k1 ?_⟩
 .intro i v hv
  have hi:i < its.length:=by
   have:=(Array.getElem?_eq_some_iff.mp hv).1
   rwa [List.size_toArray] at this
  have ht:i < ts.length:=by omega
  obtain ⟨k,ku,vu,e1,e2,e3⟩:=hvs i ts[i] (List.getElem?_eq_getElem ht);refine ⟨ts[i],k,ku,vu,?_,e1,e2,UD e3⟩;have:=hat i ts[i] (List.getElem?_eq_getElem ht);have hv':its[i]?=some v:=by simpa using hv
  rw [this] at hv';exact (Option.some.inj hv').symm
 .intro hm
  have two:s.heap.objs.size=h1.objs.size \/ s.heap.objs.size=p:=by simpa using hm
  rcases two with e | e
  .exact absurd e (Nat.ne_of_lt ld)
  .exact absurd e (Nat.ne_of_gt hpl)
 .intro b o e
  have hb:=Heap.lt_size e;refine ⟨fun hm=>?_,Nat.ne_of_lt hb⟩;have e':b=h1.objs.size:=by simpa using hm
  rw [e'] at hb;exact absurd ld (Nat.not_lt_of_lt hb)
 .exact ⟨⟨_,Heap.get?_push_size _ rfl,rfl,rfl⟩,(pl.keeps k1).isList⟩
 .obtain ⟨o,es,ep,ho,rest⟩:=hnew
  exact ⟨o,es,ep,Heap.get?_push_of_some _ (hk1 _ _ ho),rest⟩
 .intro h' tk hd' hk'
  refine ⟨rfl, .ref s.heap.objs.size,_,I.laid (a:=s.heap.objs.size) (o:= .dK kvs) (fun b o e=>?_) (Nat.le_refl _) (WO (by rw [<-hp.1];exact hz) (beq_eq_false_iff_ne.mpr (Ne.symm (Nat.ne_of_lt I.big))) rel hd'),rfl,q _ (I.hok.fresh (Nat.le_refl _))⟩;have hb:=Heap.lt_size e;refine hk' b o (fun hm=>?_) (Nat.ne_of_lt hb) (k1 b o e);have e':b=h1.objs.size:=by simpa using hm
  rw [e'] at hb;exact absurd ld (Nat.not_lt_of_lt hb)
end
end L2
namespace L2
open PySem
def Gx(K:W.Frag):List V->Hp->VK->Prop:=fun xs H Q=> ∃ (p:Addr) (ts:List Addr) (kvs:List (Key × V)),xs= [.ref p]/\SqL K H p (ts.map V.ref)/\WV K H ts kvs/\(kvs.map (·.1)).Nodup/\∀ l,H l=none->Q (.ref l) (upd H l (.dK kvs))
theorem UP(hc:X.calm=true):Y9 X (.type "dict") (Gx X.K):=XS hc
theorem SameB.same(a:SameB p H H')(f:H p=none):Same H H':=fun b o e=>a b o (ZJ e f) e
theorem J6:∀ {ks:List (Str × Shp)}{xs:List V},HasL H xs (ks.map Yq)->∃ (ts:List Addr) (kvs:List (Key × V)),xs=ts.map V.ref/\WV K H ts kvs/\kvs.map (·.1)=ks.map (fun k=>Sum.inr k.1)/\
  ∀ y s,YQ ks y=some s->∃ v,Zp kvs (Sum.inr y)=some v/\Has H v s.dat
 | [],xs,h=>by
  have l:=h.length;rw [List.map_nil,List.length_nil] at l;have e:xs= []:=List.length_eq_zero_iff.mp l;subst e;exact ⟨[], [],rfl,⟨rfl,fun i a k y e=>by simp at e⟩,rfl,fun y s e=>by simp [YQ] at e⟩
 | (z,sh)::ks,xs,h=>by
  match xs,h with
  | [],h=>unfold HasL at h;exact h.elim
  | x::xs,h=>
   rw [List.map_cons] at h;unfold HasL at h;obtain ⟨h1,h2⟩:=h;obtain ⟨a,v,rfl,ha,hv⟩:=JC h1;obtain ⟨ts,kvs,rfl,⟨tl,tp⟩,ek,hs⟩:=J6 (K:=K) h2;refine ⟨a::ts,(Sum.inr z,v)::kvs,rfl,⟨by simp [tl],fun i b k y e1 e2=>?_⟩,by rw [List.map_cons,List.map_cons,ek],fun y s e=>?_⟩
   .cases i with
    | zero=>
     have e1':some a=some b:=e1;have e2':some ((Sum.inr z:Key),v)=some (k,y):=e2;cases e1';cases e2';exact SqT.of ha
    | succ i=>exact tp i b k y e1 e2
   .unfold YQ at e
    unfold Zp;rw [List.find?_cons] at e |-
    by_cases ez:z=y
    .subst ez
     simp only [decide_true] at e |-;have e':sh=s:=Option.some.inj e;subst e';exact ⟨v,rfl,hv⟩
    .have ez': ¬ (Sum.inr z:Key)=Sum.inr y:=fun q=>ez (Sum.inr.inj q)
     simp only [ez,ez',decide_false] at e |-;exact hs y s e
theorem TF{ks:List (Str × Shp)}{kvs:List (Key × V)}(e:kvs.map (·.1)=ks.map (fun k=>(Sum.inr k.1:Key)))(h:(ks.map (·.1)).Nodup):(kvs.map (·.1)).Nodup:=by
 rw [e];unfold List.Nodup at h |-;rw [List.pairwise_map] at h |-;exact h.imp fun hab q=>hab (Sum.inr.inj q)
theorem KK.small(h:KK 30 c d ks)(hy:y∈ks.map (·.1)):d y<=2/\c y<=30:=by
 obtain ⟨s,hs⟩:=Yj hy;have k1:=h.at hs
 cases s with
 | tags ts=>obtain ⟨h1,h2,h3,h4⟩:=k1;omega
 | pair a b=>obtain ⟨h1,h2,h3,h4,h5,h6⟩:=k1;exact ⟨h6,h4⟩
end L2
namespace L2
open PySem PySem.Spec PyProof.Rows
section
theorem KL{i:Nat}{Q:Value->Shared->Prop}(he:IsEnum s.heap e it i old)(z:SI tp s.heap it l i xs)(nl:l≠it)(hx:xs[i]?=some x)(hne:e≠it)(hQ:∀ g,IsEnumOut g e it ((i:Int) + 1) x s.heap.objs.size->SJ tp g it l (i + 1)->g.get? s.heap.objs.size=some {cls:= .type "tuple",data:= .seq #[.int i s.toks,x]}->g.objs.size=s.heap.objs.size + 1->
   (∀ b o,b≠e->b≠it->s.heap.get? b=some o->g.get? b=some o)->Q (.ref s.heap.objs.size) {s with heap:=g,toks:=s.toks + 1}):
  wpAny (model prog w) A (Builtin.«enumerate.__next__» ⟨[.ref e], []⟩) (fun fin s'=> ∃ v,fin= .done (.ret v)/\Q v s') E s:=by
 obtain ⟨hp,g,d,tk,os⟩:=s;refine wpAny_bind (m:=field (.ref e) 2) (wpAny_field he rfl (x:= .ref it) rfl ?_);refine wpAny_bind (Xc z nl hx fun g1 z1 s1=>?_);replace s1:Heap.SameBut it hp g1:=s1;have e1:IsEnum g1 e it i old:=(s1.2 e hne).trans he;refine wpAny_bind (m:=field (.ref e) 3) (wpAny_field e1 rfl (x:=rawInt i) rfl ?_);refine wpAny_bind (m:=field (.ref e) 4) (wpAny_field e1 rfl (x:= .none) rfl ?_);refine wpAny_bind (m:=mkInt i) (wpAny_mkInt ?_);refine wpAny_bind (m:=setField (.ref e) 3 (rawInt ((i:Int) + 1))) (wpAny_setField_rec e1 (by simp) fun g2 e2 s2=>?_);replace s2:Heap.SameBut e g1 g2:=s2;replace e2:IsEnum g2 e it ((i:Int) + 1) old:=e2;refine wpAny_bind (m:=setField (.ref e) 4 .none) (wpAny_setField_rec e2 (by simp) fun g3 e3 s3=>?_);replace s3:Heap.SameBut e g2 g3:=s3;replace e3:IsEnum g3 e it ((i:Int) + 1) old:=e3;refine wpAny_bind (m:=newTuple [.int i tk,x]) (wpAny_newTuple ?_);have e4:IsEnum (g3.push {cls:= .type "tuple",data:= .seq #[.int i tk,x]}) e it ((i:Int) + 1) old:=Heap.get?_push_of_some _ e3;generalize q4:g3.push {cls:= .type "tuple",data:= .seq #[.int i tk,x]}=g4 at e4;have sz:g3.objs.size=hp.objs.size:=by rw [s3.1,s2.1,s1.1]
 have el:e < hp.objs.size:=Heap.lt_size he;have t4:g4.get? hp.objs.size=some {cls:= .type "tuple",data:= .seq #[.int i tk,x]}:=by rw [<-q4,<-sz];exact Heap.get?_push_size _ rfl
 have z4:g4.objs.size=hp.objs.size + 1:=by rw [<-q4,Heap.size_push,sz]
 have k4:∀ b o,b≠e->b≠it->hp.get? b=some o->g4.get? b=some o:=fun b o be bi hb=>by
  rw [<-q4];exact Heap.get?_push_of_some _ (s3.extBut b o be (s2.extBut b o be (s1.extBut b o bi hb)))
 have j4:SJ tp g4 it l (i + 1):=by
  rw [<-q4];exact z1.sj.to fun o ho=>Heap.get?_push_of_some _ (s3.extBut _ o (Ne.symm hne) (s2.extBut _ o (Ne.symm hne) ho))
 show wpAny _ _ (Builtin.SmallTypes.ownedTupleIsFree (.ref e) >>=_) _ _ ⟨g4,g,d,tk + 1,os⟩;rw [sz];clear q4 e3 s3 e2 s2 e1 s1 z1 sz g3 g2 g1;refine wpAny_bind (m:=Builtin.SmallTypes.ownedTupleIsFree (.ref e)) (wpAny_bind (m:=field (.ref e) 0) (wpAny_field e4 rfl (x:= .none) rfl (wpAny_pure ?_)));simp only [if_true];refine wpAny_bind (wpAny_rule (wpAny_bind (wpAny_field e4 rfl (x:=old) rfl (wpAny_bind (wpAny_setField_rec e4 (by simp) fun g5 e5 s5=>?_)))));replace s5:Heap.SameBut e g4 g5:=s5;replace e5:IsEnum g5 e it ((i:Int) + 1) x:=e5;refine wpAny_bind (m:=Builtin.SmallTypes.ownedTupleHandOut (.ref e) (.ref hp.objs.size)) ?_;simp only [Builtin.SmallTypes.ownedTupleHandOut];refine wpAny_bind (wpAny_setField_rec e5 (by simp) fun g6 e6 s6=>?_);replace s6:Heap.SameBut e g5 g6:=s6;replace e6:IsEnumOut g6 e it ((i:Int) + 1) x hp.objs.size:=e6;refine wpAny_setField_rec e6 (by simp) fun g7 e7 s7=>?_;replace s7:Heap.SameBut e g6 g7:=s7;replace e7:IsEnumOut g7 e it ((i:Int) + 1) x hp.objs.size:=e7;have up:∀ b o,b≠e->g4.get? b=some o->g7.get? b=some o:=fun b o be q=>s7.extBut b o be (s6.extBut b o be (s5.extBut b o be q));refine wpAny_bind (wpAny_letGo (wpAny_pure ⟨_,rfl,hQ g7 e7 (j4.to fun o q=>up _ o (Ne.symm hne) q) (up _ _ (Nat.ne_of_gt el) t4) (by rw [s7.1,s6.1,s5.1,z4]) fun b o be bi hb=>up b o be (k4 b o be bi hb)⟩))
theorem Ig{i:Nat}(he:IsEnum s.heap e it i old)(z:SI tp s.heap it l i xs)(nl:l≠it)(hx:xs[i]?=some x)(hne:e≠it)(hQ:∀ g,IsEnumOut g e it ((i:Int) + 1) x s.heap.objs.size->SJ tp g it l (i + 1)->g.get? s.heap.objs.size=some {cls:= .type "tuple",data:= .seq #[.int i s.toks,x]}->g.objs.size=s.heap.objs.size + 1->
   (∀ b o,b≠e->b≠it->s.heap.get? b=some o->g.get? b=some o)->Q (some (.ref s.heap.objs.size)) {s with heap:=g,toks:=s.toks + 1}):wpAny (model prog w) A (pyNext (.ref e)) Q E s:=by
 have hT:s.TypeIs (.ref e) "enumerate" :=⟨_,he,rfl⟩;simp only [pyNext];exact wpAny_bind (wpAny_attempt (wpAny_callSpecial?_slot (name:=Str.ofString "__next__") hT F.slot_enumerate_next (wpAny_call_entry F.slot_enumerate_next hT F.entry_enumerate_next
   (KL he z nl hx hne fun g a b c d k=>wpAny_pure (hQ g a b c d k)) (F.args_enumerate_next_1 _))))
theorem Lz{i:Nat}(hh:A.handled=none)(he:IsEnum s.heap e it i old)(z:SI tp s.heap it l i xs)(hx:xs[i]?=none)(hQ:∀ g,Heap.ExtBut it s.heap g->Q none {s with heap:=g}):wpAny (model prog w) A (pyNext (.ref e)) Q E s:=by
 have hT:s.TypeIs (.ref e) "enumerate" :=⟨_,he,rfl⟩;simp only [pyNext];refine wpAny_bind (wpAny_attempt (wpAny_callSpecial?_slot (name:=Str.ofString "__next__") hT F.slot_enumerate_next (wpAny_call_entry F.slot_enumerate_next hT F.entry_enumerate_next ?_ (F.args_enumerate_next_1 _))));refine wpAny_bind (m:=field (.ref e) 2) (wpAny_field he rfl (x:= .ref it) rfl (wpAny_bind (Rl hh z hx fun g y eg ⟨o,ho,hc⟩=>?_)));exact wpAny_bind (wpAny_isInstance (T:="StopIteration") (b:=true) ⟨o,ho,hc⟩ isSubtype_stop (wpAny_pure (hQ _ eg)))
set_option tactic.hygienic true in
theorem BZ(tp:Bool)(l:Addr)(xs:Array Value):Meets (Builtin.«enumerate.__new__» ⟨[.type "enumerate", .ref l], []⟩) (fun _ R s=>Wk tp s.heap l xs/\
   R (.ok (.ret (.ref (s.heap.push (VG tp l)).objs.size))) {s with heap:=(s.heap.push (VG tp l)).push {cls:= .type "enumerate",data:= .fields #[.none, .bool false, .ref s.heap.objs.size,rawInt 0, .none, .none]}}):=
 .of_wp fun prog w A R s h=>by
  obtain ⟨hp,g,d,tk,os⟩:=s;obtain ⟨hl,h⟩:=h;have hsub:=sub_enumerate;have k1:Wk tp (Shared.heap ⟨hp,g,d,tk,os⟩) l xs:=hl
  obtain ⟨ob,hob,hcl⟩:∃ ob,hp.get? l=some ob/\(∃ ys n,ob.data= .seq ys n):=by
   cases tp with
   | false=>obtain ⟨o,e,_,n,dd⟩:=hl;exact ⟨o,e,_,n,dd⟩
   | true=>obtain ⟨o,e,_,n,dd⟩:=hl;exact ⟨o,e,_,n,dd⟩
  wp_walk using AutoSeq1.wpAny_loadPart' hob
  refine wpAny_stack_any fun st=>wpAny_pure ?_
  split
  .rename_i c _ _ _ _ _
   cases (c==Value.type "enumerate") <;> (wp_walk using AutoSeq1.wpAny_loadPart' hob,XU k1;exact ⟨_,rfl,h⟩)
  .wp_walk using AutoSeq1.wpAny_loadPart' hob,XU k1
   exact ⟨_,rfl,h⟩
theorem KW(h1:Wk tp s.heap l xs)(h:∀ g,IsEnum g (s.heap.objs.size + 1) s.heap.objs.size 0 .none->SJ tp g s.heap.objs.size l 0->(∀ c o,s.heap.get? c=some o->g.get? c=some o)->Q (.ref (s.heap.objs.size + 1)) {s with heap:=g}):
  wpAny (model prog w) A (call (.type "enumerate") [.ref l]) Q E s:=by
 refine callType_new F.called_enumerate (by decide) (F.typeCall_enumerate_1 _) (F.newCall_enumerate_1 _) (fun obj=>F.args_object_init_2 obj _) F.entry_enumerate_new (BZ tp l xs) ⟨h1,?_⟩;have e1:(s.heap.push (VG tp l)).objs.size=s.heap.objs.size + 1:=Heap.size_push ..;have p2:((s.heap.push (VG tp l)).push {cls:= .type "enumerate",data:= .fields #[.none, .bool false, .ref s.heap.objs.size,rawInt 0, .none, .none]}).get? (s.heap.push (VG tp l)).objs.size=some _:=Heap.get?_push_size _ rfl;have p1:SJ tp ((s.heap.push (VG tp l)).push {cls:= .type "enumerate",data:= .fields #[.none, .bool false, .ref s.heap.objs.size,rawInt 0, .none, .none]}) s.heap.objs.size l 0:=(SJ.new tp s.heap l).to fun o q=>Heap.get?_push_of_some _ q;show _/\_;rw [e1] at p2 |-;exact ⟨⟨_,p2,rfl⟩,h _ p2 p1 fun c o q=>Heap.get?_push_of_some _ (Heap.get?_push_of_some _ q)⟩
end
structure ER(h:Heap)(e it:Addr)(tp:Bool)(l:Addr)(k:Nat):Prop where
 enu:∃ old,IsEnum h e it k old
 one:SJ tp h it l k
def Ite(K:W.Frag)(tp:Bool)(l:Addr):It:=
 ⟨fun i H=> ∃ xs x,Sq K tp H l xs/\xs[i]?=some x,fun i H v H'=> ∃ r x,v= .ref r/\H r=none/\H'=upd H r (.tup [.int (i:Nat),x])/\∀ xs,Sq K tp H l xs->xs[i]?=some x,fun i H=> ∃ xs,Sq K tp H l xs/\xs.length<=i⟩
theorem FU{P:Program}{w:World}{K:W.Frag}{elts:List Expr}{x1}{pos:Pos}{e it l:Addr}{tp:Bool}(n1:e≠it)(n2:l≠it):Turn P w K (.Tuple elts x1 pos) (Ite K tp l) [e,it] e (fun i h=>ER h e it tp l i) where
 mem:=by simp
 obj:=fun i h st b hb=>by
  have q:b=e \/ b=it:=by simpa using hb
  rcases q with q | q <;> rw [q]
  .obtain ⟨old,h1⟩:=st.enu
   exact ⟨_,h1,fun v e=>nomatch e⟩
  .exact st.one.obj
 keep:=fun i h h' st k=>⟨let ⟨old,h1⟩:=st.enu;⟨old,k e (by simp) _ h1⟩,st.one.to fun o q=>k it (by simp) o q⟩
 item:=by
  intro X hP hw hK hc i pins s U H E I hf st hg;subst hP hw hK;obtain ⟨xs,x,q1,hx⟩:=hg;obtain ⟨its,r1,w1⟩:=I.sq q1;obtain ⟨u1,hu1,ru1⟩:=r1.get hx;obtain ⟨old,he⟩:=st.enu;have elt:e < s.heap.objs.size:=Heap.lt_size he;refine Ig he (st.one.si w1) n2 (x:=u1) (by simpa using hu1) n1 fun g ho hj ht sz kp=>?_;have kp':∀ b o,b ∉ [e,it]->s.heap.get? b=some o->g.get? b=some o:=fun b o hb q=>kp b o (fun z=>hb (by simp [z])) (fun z=>hb (by simp [z])) q;have I1:Inv X pins U H {s with heap:=g,toks:=s.toks + 1}:=I.turnedL (t':=s.toks + 1) kp' hf;have hn:H s.heap.objs.size=none:=I.hok.fresh (Nat.le_refl _);refine ⟨_,rfl,?_⟩;refine wpAny_letOwnedTupleGo_enum (s:={s with heap:=g,toks:=s.toks + 1}) ho fun g2 e2 s2=>?_
  have I2:Inv X pins U H {s with heap:=g2,toks:=s.toks + 1}:=I1.turnedL (s:={s with heap:=g,toks:=s.toks + 1}) (t':=s.toks + 1) (ch:= [e]) (fun b o hb q=>s2.extBut b o (fun z=>hb (by simp [z])) q) fun b hb=>by
   have q:b=e:=by simpa using hb
   rw [q];exact hf e (by simp)
  have pg2:g2.get? s.heap.objs.size=some {cls:= .type "tuple",data:= .seq #[.int i s.toks,u1]}:=s2.extBut _ _ (Nat.ne_of_gt elt) ht;have I3:Inv X pins U (upd H s.heap.objs.size (.tup [.int (i:Nat),x])) {s with heap:=g2,toks:=s.toks + 1}:=I2.retrack hn (I.fpOk (Nat.le_refl _) hn) ⟨sl 2, [.int i s.toks,u1], .cons ⟨_,rfl⟩ (.cons ru1 .nil),⟨_,pg2,rfl,rfl,_,rfl⟩⟩
  have ltf:∀ b∈ [e,it],b < s.heap.objs.size:=fun b hb=>by
   have q:b=e \/ b=it:=by simpa using hb
   rcases q with q | q <;> rw [q]
   .exact elt
   .obtain ⟨o,q,_⟩:=st.one.obj
    exact Heap.lt_size q
  refine ⟨.ref s.heap.objs.size,_,I3,rfl,⟨_,x,rfl,hn,rfl,fun zs h=>by rw [I.sq_inj h q1];exact hx⟩,?_,fun b hb=>?_⟩
  .exact ⟨⟨_,e2⟩,hj.to fun o q=>s2.extBut _ o (Ne.symm n1) q⟩
  .rw [ZI (Nat.ne_of_lt (ltf b hb))]
   exact (hf b hb).1
 done:=by
  intro X hP hw hK hc i pins s U H E I hf st hg;subst hP hw hK;obtain ⟨xs,q1,hend⟩:=hg;obtain ⟨its,r1,w1⟩:=I.sq q1;have e1:=r1.length;obtain ⟨old,he⟩:=st.enu;refine Lz (I.ok.hd hc) he (st.one.si w1) (by simp;omega) fun g kp=>⟨rfl,?_⟩
  exact I.turnedL (t':=s.toks) (ch:= [it]) (fun b o hb q=>kp b o (fun z=>hb (by simp [z])) q) fun b hb=>hf b (by
   have q:b=it:=by simpa using hb
   rw [q];simp)
 self:=fun _ _ _ _ _ st h=>let ⟨_,h1⟩:=st.enu;wpAny_pyIter_enum h1 h
theorem Mt:bootBuiltins "enumerate" =some (.type "enumerate"):=by decide +kernel
def Of(K:W.Frag)(ta:TA):TI:=fun U H R=>ta U H fun vs H1=> ∃ a tp xs,vs= [.ref a]/\Sq K tp H1 a xs/\R (Ite K tp a) H1
theorem G6(hg:Gl X "enumerate")(hm:X.mg "enumerate" =none)(ha:PA X [a] ta)(hs:starEach [a] X.env= [(false,eval a X.env)]:=by rfl):PI X (.Tuple elts x1 tpos) (.Call (.Name "enumerate" p) [a] [] pos) (Of X.K ta):=by
 intro pins s U H R I h;refine Call_ (U1 I hg hm Mt (PyProof.Rows.callWith_type1 (thn (ha pos pins s U H _ I h) fun us s1 ⟨vs,H1,I1,r1,q1⟩=>?_) (by rw [hs];rfl) (by rfl)));obtain ⟨l,tp,xs,e,q1,q⟩:=q1;subst e;obtain ⟨u,rfl,ru⟩:=vals1 r1;cases ru;obtain ⟨its,rr1,w1⟩:=I1.sq q1;have n1:=w1.lt;refine KW w1 fun g he hj kp=>?_;refine wpAny_pyIter_enum (s:={s1 with heap:=g}) he ?_;have I2:Inv X pins U H1 {s1 with heap:=g}:=I1.kept (t':=s1.toks) kp;refine ⟨_, [s1.heap.objs.size + 1,s1.heap.objs.size],_,_,H1,rfl,I2,FU (Nat.succ_ne_self _) (Nat.ne_of_lt n1),⟨⟨_,he⟩,hj⟩,fun b hb=>?_,q⟩
 have hb':s1.heap.objs.size<=b:=by
  have z:b=s1.heap.objs.size + 1 \/ b=s1.heap.objs.size:=by simpa using hb
  rcases z with z | z <;> rw [z] <;> first | exact Nat.le_refl _ | exact Nat.le_add_right _ _
 exact I1.fpOk hb' (I1.hok.fresh hb')
end L2
namespace L2
open PySem PySem.Spec PyProof.Rows PySem.W PySem.Calls
end L2
namespace L2
open PySem PySem.Spec PyProof.Rows PySem.MeetsSeq
section
def Ft:V->List V->Hp->VK->Prop:=fun x vs H Q=> ∃ (l:Addr) (ys:List Str) (y:Str) (j:Nat),x= .ref l/\vs= [.str y]/\H l=some (.lst (ys.map V.str))/\ys[j]?=some y/\(∀ m,m < j->ys[m]?≠some y)/\Q .non (upd H l (.lst ((ys.eraseIdx j).map V.str)))
def Ed(y:Str):Value->Bool
 | .str x _=>x.cps.toList==y.cps.toList
 | _=>false
theorem OB{x y:Str}:(x.cps.toList==y.cps.toList)=decide (x=y):=by
 by_cases h:x=y
 .subst h;simp
 .have: ¬ x.cps.toList=y.cps.toList:=fun e=>h (by cases x;cases y;simp_all [Array.ext'])
  rw [decide_eq_false h];exact beq_eq_false_iff_ne.mpr this
theorem BM:MtM X "list.remove" Ft:=by
 intro pins s U H x vs v us Q I rx rv h;obtain ⟨l,ys,y,j,rfl,rfl,hH,hj,hno,q⟩:=h;cases rx;obtain ⟨u,rfl,ru⟩:=rv.one;obtain ⟨t,rfl⟩:=ru;obtain ⟨z,its,n,r,hl,e⟩:=I.lstM hH;have len:=r.length;rw [List.length_map] at len
 have at_:∀ m (hm:m < its.length),∃ y' t',ys[m]?=some y'/\its[m]= .str y' t':=fun m hm=>by
  have hm':m < ys.length:=by omega
  obtain ⟨u,hu,t',e'⟩:=r.get (show (ys.map V.str)[m]?=some (.str ys[m]) by rw [List.getElem?_map,List.getElem?_eq_getElem hm'];rfl);refine ⟨ys[m],t',List.getElem?_eq_getElem hm',?_⟩;rw [(List.getElem?_eq_some_iff.mp hu).2,e']
 have jl:j < its.length:=by have:=(List.getElem?_eq_some_iff.mp hj).1;omega
 have he:∀ u,u∈its.toArray->EqGives u (.str y t) (Ed y u):=fun u hu=>by
  obtain ⟨m,hm,em⟩:=List.mem_iff_getElem.mp (by simpa using hu);obtain ⟨y',t',_,e2⟩:=at_ m hm;rw [<-em,e2];exact PySem.SeqRoads2.EqGives.str y' y t' t
 refine call_meets F.slot_list_remove ⟨_,e,rfl⟩ F.entry_list_remove (F.args_list_remove_2 _ _) (PySem.MeetsSeq.list_remove l its.toArray n (.str y t) (Ed y) he j (by rw [List.size_toArray];exact jl) ?_ ?_ (by rw [List.size_toArray];omega)) ⟨e,?_⟩
 .obtain ⟨y',t',e1,e2⟩:=at_ j jl
  rw [hj] at e1;cases e1;show Ed y its.toArray[j]=true;simp only [List.getElem_toArray,e2,Ed,beq_self_eq_true]
 .intro m hm hlt
  rw [List.size_toArray] at hm;obtain ⟨y',t',e1,e2⟩:=at_ m hm;simp only [List.getElem_toArray,e2,Ed];rw [OB];exact decide_eq_false fun e=>hno m hlt (by rw [e1,e])
 refine ⟨.non,_,I.lset (its':=its.eraseIdx j) hH e (by simp [Array.eraseIdxIfInBounds,jl]) ?_ ?_,rfl,q⟩
 .have er:∀ {xs:List V}{us:List Value}(j:Nat),Vals xs us->Vals (xs.eraseIdx j) (us.eraseIdx j):=by
   intro xs us j q
   induction q generalizing j with
   | nil=>exact .nil
   | cons h t ih=>
    cases j with
    | zero=>exact t
    | succ j=>exact .cons h (ih j)
  have em:∀ (ys:List Str) (j:Nat),(ys.eraseIdx j).map V.str=(ys.map V.str).eraseIdx j:=by
   intro ys
   induction ys with
   | nil=>intro j;rfl
   | cons a t ih=>intro j;cases j with
    | zero=>rfl
    | succ j=>show V.str a::(t.eraseIdx j).map V.str=V.str a::(t.map V.str).eraseIdx j;rw [ih]
  rw [em];exact er j r
 .rw [List.length_map]
  have:=List.length_eraseIdx_le ys j;omega
end
end L2
namespace L2
open PySem PySem.Spec PyProof.Rows
def Its(x:Str):It:=⟨fun i _=>i < x.cps.size,fun i H v H'=>H'=H/\∃ c,x.cps[i]?=some c/\v= .str ⟨#[c]⟩,fun i _=>x.cps.size<=i⟩
def SIt(it:Addr)(x:Str)(i:Nat)(h:Heap):Prop:= ∃ ty t,(ty="str_ascii_iterator" \/ ty="str_iterator")/\h.IsStrIter it ty x t i
theorem Em(h:Q () s):wpAny M A (letOwnedTupleGo tg it (.str y t)) Q E s:=by
 unfold letOwnedTupleGo;cases tg <;> cases it <;> exact wpAny_pure h
theorem Bp{P:Program}{w:World}{K:W.Frag}{tg:Expr}(it:Addr)(x:Str):Turn P w K tg (Its x) [it] it (SIt it x) where
 mem:=by simp
 obj:=fun i h ⟨ty,t,_,o,ho,_,hd⟩ b hb=>by
  cases List.mem_singleton.mp hb;exact ⟨o,ho,fun v z=>by rw [hd] at z;cases z⟩
 keep:=fun i h h' ⟨ty,t,hty,o,ho,r⟩ k=>⟨ty,t,hty,o,k it (by simp) o ho,r⟩
 item:=by
  intro X hP hw hK hc i pins s U H E I hf ⟨ty,t,hty,st⟩ hg;subst hP hw hK;obtain ⟨f0,f1,_,f3,f4,f5⟩:=hf it (by simp);have fin:∀ (v:Value) (h':Heap) (tk:Nat),SignAt x i v->SIt it x (i + 1) h'->(∀ b o,b ∉ [it]->s.heap.get? b=some o->h'.get? b=some o)->
    (∃ u,some v=some u/\wpAny (model X.prog X.w) X.A (letOwnedTupleGo tg (.ref it) u) (fun _ s2=> ∃ y H',Inv X pins U H' s2/\RelV y u/\(Its x).yld i H y H'/\SIt it x (i + 1) s2.heap/\∀ b∈ [it],H' b=none) E {s with heap:=h',toks:=tk}):=fun v h' tk hv st' kk=>by
   obtain ⟨c,u,hx,rfl⟩:=hv;exact ⟨_,rfl,Em ⟨.str ⟨#[c]⟩,H,I.turned (fun b o hb e=>kk b o (by simpa using hb) e) f0 f1 f3 f4 f5,⟨_,rfl⟩,⟨rfl,c,hx,rfl⟩,st',fun b hb=>(hf b hb).1⟩⟩
  rcases hty with rfl | rfl
  .exact (Walks.strAscii (I.ok.hd hc) it x t).item i s _ _ hg st fun v h' tk hv st' kk=>fin v h' tk hv ⟨_,t, .inl rfl,st'⟩ kk
  .exact (Walks.strWide (I.ok.hd hc) it x t).item i s _ _ hg st fun v h' tk hv st' kk=>fin v h' tk hv ⟨_,t, .inr rfl,st'⟩ kk
 done:=by
  intro X hP hw hK hc i pins s U H E I hf ⟨ty,t,hty,st⟩ hg;subst hP hw hK;obtain ⟨f0,f1,_,f3,f4,f5⟩:=hf it (by simp)
  have none':x.cps[i]?=none:=by
   have z:x.cps.size<=i:=hg;simp [z]
  rcases hty with rfl | rfl
  .exact wpAny_pyNext_ascii_end (I.ok.hd hc) st none' fun h' eb=>⟨rfl,I.turned (t':=s.toks) (fun b o hb e=>eb b o hb e) f0 f1 f3 f4 f5⟩
  .exact wpAny_pyNext_wide_end (I.ok.hd hc) st none' fun h' eb=>⟨rfl,I.turned (t':=s.toks) (fun b o hb e=>eb b o hb e) f0 f1 f3 f4 f5⟩
 self:=fun _ _ _ _ _ ⟨ty,t,hty,st⟩ h=>by
  rcases hty with rfl | rfl
  .exact wpAny_pyIter_striter_ascii st h
  .exact wpAny_pyIter_striter_wide st h
section
def PJ(tl:TE):TI:=fun U H R=>tl U H fun v H1=> ∃ x,v= .str x/\R (Its x) H1
theorem LW(hl:PE X l tl):PI X tg l (PJ tl):=by
 intro pins s U H R I h;refine thn (hl pins s U H _ I h) fun v s1 ⟨y,H1,I1,r1,x,e,q⟩=>?_;subst e;obtain ⟨t,rfl⟩:=r1
 have fp:∀ b∈ [s1.heap.objs.size],Vh X pins H1 b:=fun b hb=>by
  cases List.mem_singleton.mp hb;exact I1.fpOk (Nat.le_refl _) (I1.hok.fresh (Nat.le_refl _))
 have go:∀ (ty:String),(ty="str_ascii_iterator" \/ ty="str_iterator")->PIE X pins U tg R (.ref s1.heap.objs.size) {s1 with heap:=s1.heap.push {cls:= .type ty,data:= .fields #[.str x t, .int 0 0]}}:=fun ty hty=>
  ⟨_, [s1.heap.objs.size],_,_,H1,rfl,I1.kept (t':=s1.toks) (fun b o e=>Heap.get?_push_of_some _ e),Bp _ x,⟨ty,t,hty,_,Heap.get?_push_size _ rfl,rfl,rfl⟩,fp,q⟩
 cases ha:x.cps.all (fun c=>c < 128)
 .exact wpAny_pyIter_wide ha (go _ (.inr rfl))
 .exact wpAny_pyIter_ascii ha (go _ (.inl rfl))
end
theorem Z5.dk_ex(x:Z5 P w H h d (.dK kvs)):∃ u,h.get? d=some u:=let ⟨_,_,_,_,o,_,_,e,_⟩:=x;⟨o,e⟩
def epO(o:Obj):Nat:=match o.data with | .dict _ ep=>ep | _=>0
section
theorem Inv.freeze(I:Inv X pins U H s)(hd:H d=some (.dK kvs))(ho:s.heap.get? d=some o):Inv X pins U (upd H d (.frz o (.dK kvs))) s:=by
 have ne:∀ b u,H b=some u->(∀ l,u≠ .dK l)->b≠d:=fun b u e n z=>by subst z;rw [hd] at e;cases e;exact n kvs rfl
 have nd:∀ b,H b=none->b≠d:=fun b e z=>by subst z;rw [hd] at e;cases e
 have J:=I.un (H':=upd H d (.frz o (.dK kvs))) (h':=s.heap) (t':=s.toks)
  ⟨fun b u q _ _ _=>q,fun b u q _ _ _=>⟨u.slots,q⟩,fun b u q n _=>by rw [ZI (nd b n)];exact n,fun b u q _=>⟨u,q⟩,fun b xs q=>by rw [ZI (ne b _ q (fun l=>by intro z;cases z))];exact q,
   fun b u v q=>by rw [ZI (ne b _ q (fun l=>by intro z;cases z))];exact q,fun b ps q=>⟨#[],by rw [ZI (ne b _ q (fun l=>by intro z;cases z)),q];simp⟩⟩ ?_
 .exact J
 .intro a u e
  by_cases z:a=d
  .subst z
   rw [ZD] at e;cases e;exact ⟨ho,I.hok a _ hd⟩
  .rw [ZI z] at e
   exact (I.hok a u e).stay (fun b v _ q=>q) (fun b q=>by rw [ZI (ne b _ q (fun l=>by intro z;cases z))];exact q) fun b xs q=>by rw [ZI (ne b _ q (fun l=>by intro z;cases z))];exact q
end
def Itd(d:Addr)(o:Obj)(kvs:List (Key × V)):It:=
 ⟨fun i H=>H d=some (.frz o (.dK kvs))/\i < kvs.length,fun i H x H'=>H'=H/\∃ kv,kvs[i]?=some kv/\x=kV kv.1,fun i H=>H d=some (.frz o (.dK kvs))/\kvs.length=i⟩
theorem Im(h:Y0 k v=true):RelV (kV k) v:=by
 rcases Z4 h with ⟨i,t,rfl,rfl⟩ | ⟨x,t,rfl,rfl⟩
 .exact ⟨t,rfl⟩
 .exact ⟨t,rfl⟩
theorem Lr(hk:Y0 k v=true)(h:Q () s):wpAny M A (letOwnedTupleGo tg it v) Q E s:=by
 rcases Z4 hk with ⟨i,t,rfl,rfl⟩ | ⟨x,t,rfl,rfl⟩
 .unfold letOwnedTupleGo
  cases tg <;> cases it <;> exact wpAny_pure h
 .exact Em h
section
theorem Inv.dict_at(I:Inv X pins U H s)(hd:H d=some (.frz o (.dK kvs))):∃ vs,s.heap.DictAt (Zq X.prog X.w) d vs (epO o)/\KV kvs vs/\(d==sysModules)=false:=by
 obtain ⟨ho,_,hm,vs,rv,o',es,ep,ho',r1,r2,r3⟩:=(show Z5 X.prog X.w H s.heap d (.frz o (.dK kvs)) from I.hok d _ hd);rw [ho] at ho';cases ho';have e:epO o=ep:=by unfold epO;rw [r2]
 exact ⟨vs,⟨o,es,ho,r1,by rw [e];exact r2,r3⟩,rv,hm⟩
end
theorem Mb{kvs:List (κ × V)}{vs:List (κ × Value)}(r:KV kvs vs):kvs.length=vs.length:=Paired.length r
theorem Ec:∀ {kvs:List (κ × V)}{vs:List (κ × Value)}(i:Nat) (k:κ) (u:Value),KV kvs vs->vs[i]?=some (k,u)->∃ v,kvs[i]?=some (k,v)
 | _,_,i,k,u, .nil,e=>by simp at e
 | _,_,0,k,u, .cons (a:=p) (b:=q) r _,e=>by
  have e':some q=some (k,u):=e;cases e';obtain ⟨k',v⟩:=p;have z:k'=k:=r.1;subst z;exact ⟨v,rfl⟩
 | _,_,i + 1,k,u, .cons _ t,e=>Ec i k u t e
theorem Nn{P:Program}{w:World}{K:W.Frag}{tg:Expr}(it d:Addr)(o:Obj)(kvs:List (Key × V)):Turn P w K tg (Itd d o kvs) [it] it (fun i h=>h.IsKeyIter it d i kvs.length (epO o)) where
 mem:=by simp
 obj:=fun i h ⟨ob,ho,_,hd⟩ b hb=>by
  cases List.mem_singleton.mp hb;exact ⟨ob,ho,fun v z=>by rw [hd] at z;cases z⟩
 keep:=fun i h h' ⟨ob,ho,r⟩ k=>⟨ob,k it (by simp) ob ho,r⟩
 item:=by
  intro X hP hw hK hc i pins s U H E I hf st hg;subst hP hw hK;obtain ⟨f0,f1,_,f3,f4,f5⟩:=hf it (by simp);obtain ⟨vs,hat,rv,_⟩:=I.dict_at hg.1;have hl:=Mb rv;rw [hl] at st;have hi:i < vs.length:=by have z:i < kvs.length:=hg.2;omega
  have hx:vs[i]?=some (vs[i].1,vs[i].2):=List.getElem?_eq_getElem hi;obtain ⟨v',hk'⟩:=Ec i _ _ rv hx;refine wpAny_pyNext_dict_item st hat hx fun key h' hkey st' sb=>?_;rw [<-hl] at st';exact ⟨key,rfl,Lr hkey ⟨_,H,I.turned (t':=s.toks) (fun b o hb e=>(sb.2 b hb).trans e) f0 f1 f3 f4 f5,Im hkey,⟨rfl,_,hk',rfl⟩,st',fun b hb=>(hf b hb).1⟩⟩
 done:=by
  intro X hP hw hK hc i pins s U H E I hf st hg;subst hP hw hK;obtain ⟨f0,f1,_,f3,f4,f5⟩:=hf it (by simp);obtain ⟨vs,hat,rv,_⟩:=I.dict_at hg.1;have hl:=Mb rv;rw [hl] at st;have hi:kvs.length=i:=hg.2;exact wpAny_pyNext_dict_end (I.ok.hd hc) st hat (List.getElem?_eq_none_iff.mpr (by omega)) fun h' eb=>⟨rfl,I.turned (t':=s.toks) (fun b o hb e=>eb b o hb e) f0 f1 f3 f4 f5⟩
 self:=fun _ _ _ _ _ st h=>wpAny_pyIter_keyiter st h
section
theorem Z0{st:Stmt}:PS X st (fun _ _ _=>False):=fun _ _ _ _ _ _ h=>h.elim
end
inductive Bd where
 | tag (t:Str) | name (x:Str) | pair (a b:Bd) | one (e:Bd) | other (e:Bd)
 | choose (e:Bd) (ts:List Str) (bs:List Bd) | ask (f:Str) (as:List Bd) | letb (x k:Str) (e b:Bd)
mutual
def Bd.dat:Bd->Dat
 | .tag t=> .tup [.str "tag", .str t]
 | .name x=> .tup [.str "name", .str x]
 | .pair a b=> .tup [.str "pair",a.dat,b.dat]
 | .one e=> .tup [.str "one",e.dat]
 | .other e=> .tup [.str "other",e.dat]
 | .choose e ts bs=> .tup [.str "choose",e.dat, .tup (Bd.brs bs ts)]
 | .ask f as=> .tup [.str "ask", .str f, .tup (Bd.dats as)]
 | .letb x k e b=> .tup [.str "let", .str x, .str k,e.dat,b.dat]
def Bd.dats:List Bd->List Dat
 | []=> []
 | b::bs=>b.dat::Bd.dats bs
def Bd.brs:List Bd->List Str->List Dat
 | [],_=> []
 | b::bs,t::ts=> .tup [.str t,b.dat]::Bd.brs bs ts
 | _::_, []=> []
end
def Bd.parts:Bd->List Bd
 | .tag _=> []
 | .name _=> []
 | .pair a b=> [a,b]
 | .one e=> [e]
 | .other e=> [e]
 | .choose e _ bs=>e::bs
 | .ask _ as=>as
 | .letb _ _ e b=> [e,b]
end L2
namespace L2
open PySem PySem.W PyProof.Rows
end L2
namespace L2
open PySem PySem.Spec PyProof.Rows
theorem E2:typeLookup (.type "tuple") (Str.ofString "keys")=pure none:=am_miss_of_fast (by decide +kernel)
section
theorem E3(pl:XT s.heap a its)(hA:A.handled=none)(h:∀ h' tk,(∀ b o,s.heap.get? b=some o->h'.get? b=some o)->Q none {s with heap:=h',toks:=tk}):
  wpAny (model prog w) A (getAttr? (.ref a) (Str.ofString "keys")) Q E s:=by
 obtain ⟨⟨c,dct,dat,sl⟩,hx,hd,hc,k,hdat⟩:=pl;simp only at hc hdat hd;subst hc hdat hd;obtain ⟨h0,gs,dr,tk,os⟩:=s;have sl':=F.slot_tuple_getattribute;have lk':=sl'.lookup;have bd':=sl'.bind (.ref a);have no':=am_tuple_getattr_none;have ae':=sub_AttributeError;have hT:∀ n,(Shared.mk h0 gs dr n os).TypeIs (.ref a) "tuple" :=fun n=>⟨_,hx,rfl⟩;simp only [getAttr?,getAttrBy?,getAttrBy]
 repeat (any_goals (first | assumption | exact hT _ | ((with_reducible show wpAny _ _ (call (Value.builtin "tuple.__getattribute__") _ _) _ _ _);refine call_meets F.slot_tuple_getattribute (hT _) am_entry_tuple_getattribute (F.args_tuple_getattribute_2 _ _) (meets_getattribute_miss_tuple a its k sl (Str.ofString "keys") _ E2 (by decide +kernel) (by size_fits)) ⟨hx,hA,fun h' tk' e hx'=>?_⟩) | wp_step))
 have there:=hx'.there;obtain ⟨_,_,he⟩:=there;refine (?_:wpAny _ _ (getattributeRaised _ _ _ _ _ _ _) _ _ _);simp only [getattributeRaised]
 repeat any_goals first | assumption | wp_step
 exact h _ _ hx'.keeps
end
section
theorem JG(hc:X.calm=true):Y9 X (.type "dict") (fun xs H Q=> ∃ (p:Addr) (ts:List Addr) (kvs:List (Key × V)),xs= [.ref p]/\H p=some (.tup (ts.map V.ref))/\WV X.K H ts kvs/\(kvs.map (·.1)).Nodup/\∀ l,H l=none->Q (.ref l) (upd H l (.dK kvs))):=by
 intro pins s U H xs us Q I r h;obtain ⟨p,ts,kvs,rfl,hq,hp,hn,q⟩:=h;obtain ⟨u,rfl,ru⟩:=vals1 r;cases ru;obtain ⟨hz,its,r',pl⟩:=(show Z5 X.prog X.w H s.heap p (.tup (ts.map V.ref)) from I.hok p _ hq);rw [List.length_map] at hz
 have hlts:its.length=ts.length:=by
  have:=r'.length;rw [List.length_map] at this;exact this.symm
 have hat:∀ (i:Nat) (a:Addr),ts[i]?=some a->its[i]?=some (Value.ref a):=fun i a e=>by
  obtain ⟨u,hu,ru⟩:=r'.get (show (ts.map V.ref)[i]?=some (V.ref a) by rw [List.getElem?_map,e];rfl);rw [hu,show u=Value.ref a from ru]
 obtain ⟨vs,rel,hvs⟩:=WB s.heap ts kvs hp.1 fun i a k y e1 e2=>by
  obtain ⟨its2,r2,p2,_⟩:=I.tuple (hp.2 i a k y e1 e2)
  cases r2 with
  | cons r1 t1=>
   cases t1 with
   | cons r3 t3=>
    cases t3;exact ⟨_,_,p2,r1,r3⟩
 have hlv:vs.length=its.toArray.size:=by rw [List.size_toArray,hlts,hp.1,<-rel.length]
 have hkeys:vs.map (·.1)=kvs.map (·.1):=by
  have all:∀ {l:List (Key × V)}{m:List (Key × Value)},KV l m->m.map (·.1)=l.map (·.1):=by
   intro l m q
   induction q with
   | nil=>rfl
   | cons hq t ih=>rw [List.map_cons,List.map_cons,ih,hq.1]
  exact all rel
 have hpl:p < s.heap.objs.size:=by
  obtain ⟨o,e,_⟩:=pl;exact Heap.lt_size e
 refine callType_codes (Q₁:=fun ob t=>ob= .ref s.heap.objs.size/\t={s with heap:=s.heap.push {cls:= .type "dict",data:= .dict #[]}}) F.kt_called_dict (F.kt_typeCall_dict_1 _) F.entry_dict_init (kt_code_dict_new _ ⟨rfl,rfl⟩) fun ob t ht=>?_;obtain ⟨rfl,rfl⟩:=ht;have hnew:(s.heap.push {cls:= .type "dict",data:= .dict #[]}).DictOf (Zq X.prog X.w) s.heap.objs.size []:=Heap.DictOf.new s.heap;have k0:∀ b o,s.heap.get? b=some o->(s.heap.push {cls:= .type "dict",data:= .dict #[]}).get? b=some o:=fun b o e=>Heap.get?_push_of_some _ e;refine And.intro hnew.typeIs (And.intro (F.args_dict_init_2 _ _) ?_);delta Builtin.«dict.__init__» Builtin.Dict.selfAndRest;refine wpAny_bind (wpAny_bind (wpAny_notOrdered_dict hnew.typeIs (wpAny_pure (?_:wpAny _ _ (Builtin.Dict.updateFrom "dict.__init__" s.heap.objs.size (.ref p) [] .none) _ _ _))));delta Builtin.Dict.updateFrom;have pl':=pl.keeps k0;refine wpAny_bind (wpAny_typeOf (T:="tuple") (show Shared.TypeIs _ _ _ from let ⟨o,h1,_,h2,_⟩:=pl';⟨o,h1,h2⟩) ?_);rw [if_pos (by decide)];refine wpAny_bind (E3 pl' (I.ok.hd hc) fun h1 tk1 hk1=>?_);simp only [Option.isNone_none,if_true];refine wpAny_bind (wpAny_rule ?_);refine wpAny_bind (wpAny_pyIter_tuple (show Heap.IsTuple _ _ _ from (pl'.keeps hk1).is) ?_)
 have ld:s.heap.objs.size < h1.objs.size:=by
  obtain ⟨o,es,ep,ho,_⟩:=hnew;exact Heap.lt_size (hk1 _ _ ho)
 have k1:∀ b o,s.heap.get? b=some o->(h1.push {cls:= .type "tuple_iterator",data:= .fields #[.ref p, .int 0 0]}).get? b=some o:=fun b o e=>Heap.get?_push_of_some _ (hk1 b o (k0 b o e));refine wpAny_pure ⟨plainId_quiet Jq _,Nf (Walks.tuple (A:=X.A.in1.in1) (I.ok.hd hc) h1.objs.size p (Nat.ne_of_lt (Nat.lt_trans hpl ld)) its.toArray) (h₀:=s.heap) (vs:=vs) hlv (by rw [<-rel.length,<-hp.1];exact hz) (by rw [hkeys];exact hn) ?_ s.heap.objs.size ?_ ?_ .none _ 0 _ 0 0 rfl (Nat.zero_le _) ?_ ?_ k1 ?_⟩
 .intro i v hv
  have hi:i < its.length:=by
   have:=(Array.getElem?_eq_some_iff.mp hv).1
   rwa [List.size_toArray] at this
  have ht:i < ts.length:=by omega
  obtain ⟨k,ku,vu,e1,e2,e3⟩:=hvs i ts[i] (List.getElem?_eq_getElem ht);refine ⟨ts[i],k,ku,vu,?_,e1,e2,UD e3⟩;have:=hat i ts[i] (List.getElem?_eq_getElem ht);have hv':its[i]?=some v:=by simpa using hv
  rw [this] at hv';exact (Option.some.inj hv').symm
 .intro hm
  have two:s.heap.objs.size=h1.objs.size \/ s.heap.objs.size=p:=by simpa using hm
  rcases two with e | e
  .exact absurd e (Nat.ne_of_lt ld)
  .exact absurd e (Nat.ne_of_gt hpl)
 .intro b o e
  have hb:=Heap.lt_size e;refine ⟨fun hm=>?_,Nat.ne_of_lt hb⟩;have e':b=h1.objs.size:=by simpa using hm
  rw [e'] at hb;exact absurd ld (Nat.not_lt_of_lt hb)
 .exact ⟨⟨_,Heap.get?_push_size _ rfl,rfl,rfl⟩,(show Heap.IsTuple _ _ _ from (pl.keeps k1).is)⟩
 .obtain ⟨o,es,ep,ho,rest⟩:=hnew
  exact ⟨o,es,ep,Heap.get?_push_of_some _ (hk1 _ _ ho),rest⟩
 .intro h' tk hd' hk'
  refine ⟨rfl, .ref s.heap.objs.size,_,I.laid (a:=s.heap.objs.size) (o:= .dK kvs) (fun b o e=>?_) (Nat.le_refl _) (WO (by rw [<-hp.1];exact hz) (beq_eq_false_iff_ne.mpr (Ne.symm (Nat.ne_of_lt I.big))) rel hd'),rfl,q _ (I.hok.fresh (Nat.le_refl _))⟩;have hb:=Heap.lt_size e;refine hk' b o (fun hm=>?_) (Nat.ne_of_lt hb) (k1 b o e);have e':b=h1.objs.size:=by simpa using hm
  rw [e'] at hb;exact absurd ld (Nat.not_lt_of_lt hb)
end
theorem Zn(h:Has H v (.tup ds)):∃ p xs,v= .ref p/\H p=some (.tup xs)/\HasL H xs ds:=by unfold Has at h;exact h
theorem Zr(h:H p=some (.tup xs))(t:HasL H xs ds):Has H (.ref p) (.tup ds):=by unfold Has;exact ⟨p,xs,rfl,h,t⟩
theorem has_str(h:Has H v (.str x)):v= .str x:=by unfold Has at h;exact h
theorem YG:Has H (.str x) (.str x):=by unfold Has;rfl
theorem ZP(h:HasL H xs (d::ds)):∃ x r,xs=x::r/\Has H x d/\HasL H r ds:=by
 match xs,h with
 | [],h=>unfold HasL at h;exact h.elim
 | x::r,h=>unfold HasL at h;exact ⟨x,r,rfl,h.1,h.2⟩
theorem YK(h:HasL H xs []):xs= []:=by
 match xs,h with
 | [],_=>rfl
 | _::_,h=>unfold HasL at h;exact h.elim
theorem Bd.dats_map:∀ bs:List Bd,Bd.dats bs=bs.map Bd.dat
 | []=>by unfold Bd.dats;rfl
 | b::bs=>by unfold Bd.dats;rw [Bd.dats_map bs];rfl
theorem Bd.brs_len:∀ {bs:List Bd}{ts:List Str},bs.length=ts.length->(Bd.brs bs ts).length=ts.length
 | [], [],_=>by unfold Bd.brs;rfl
 | [],_::_,e=>by simp at e
 | _::_, [],e=>by simp at e
 | b::bs,t::ts,e=>by
  unfold Bd.brs;rw [List.length_cons,Bd.brs_len (by simpa using e),List.length_cons]
theorem Bd.brs_get:∀ {bs:List Bd}{ts:List Str}{j:Nat}{d:Dat},(Bd.brs bs ts)[j]?=some d->∃ b t,bs[j]?=some b/\ts[j]?=some t/\d= .tup [.str t,b.dat]
 | [],ts,j,d,e=>by unfold Bd.brs at e;simp at e
 | _::_, [],j,d,e=>by unfold Bd.brs at e;simp at e
 | b::bs,t::ts,0,d,e=>by
  unfold Bd.brs at e;have e':some _=some d:=e;cases e';exact ⟨b,t,rfl,rfl,rfl⟩
 | b::bs,t::ts,j + 1,d,e=>by
  unfold Bd.brs at e;exact Bd.brs_get (bs:=bs) (ts:=ts) (j:=j) e
mutual
def Bd.ok:Bd->Prop
 | .tag _=>True
 | .name _=>True
 | .pair a b=>a.ok/\b.ok
 | .one e=>e.ok
 | .other e=>e.ok
 | .choose e ts bs=>e.ok/\bs.length=ts.length/\ts.length<=4/\Bd.oks bs
 | .ask _ as=>as.length<=3/\Bd.oks as
 | .letb _ _ e b=>e.ok/\b.ok
def Bd.oks:List Bd->Prop
 | []=>True
 | b::bs=>b.ok/\Bd.oks bs
end
theorem Bd.oks_mem:∀ {bs:List Bd}{b:Bd},Bd.oks bs->b∈bs->b.ok
 | [],_,_,h=>nomatch h
 | c::bs,b,w,h=>by
  unfold Bd.oks at w;rcases List.mem_cons.mp h with rfl | h
  .exact w.1
  .exact Bd.oks_mem w.2 h
theorem Bd.ok_parts{b:Bd}(h:b.ok):∀ c∈b.parts,c.ok:=by
 intro c hc
 cases b with
 | tag t=>cases hc
 | name x=>cases hc
 | pair a e=>
  unfold Bd.ok at h;simp only [Bd.parts,List.mem_cons,List.mem_nil_iff,or_false] at hc;rcases hc with rfl | rfl
  .exact h.1
  .exact h.2
 | one e=>unfold Bd.ok at h;simp only [Bd.parts,List.mem_singleton] at hc;rw [hc];exact h
 | other e=>unfold Bd.ok at h;simp only [Bd.parts,List.mem_singleton] at hc;rw [hc];exact h
 | choose e ts bs=>
  unfold Bd.ok at h;simp only [Bd.parts,List.mem_cons] at hc;rcases hc with rfl | hc
  .exact h.1
  .exact Bd.oks_mem h.2.2.2 hc
 | ask f as=>unfold Bd.ok at h;exact Bd.oks_mem h.2 hc
 | letb x k e g=>
  unfold Bd.ok at h;simp only [Bd.parts,List.mem_cons,List.mem_nil_iff,or_false] at hc;rcases hc with rfl | rfl
  .exact h.1
  .exact h.2
theorem Bd.few{b:Bd}(h:b.ok):b.parts.length<=5:=by
 cases b <;> (try (simp [Bd.parts];done)) <;> (unfold Bd.ok at h;simp only [Bd.parts,List.length_cons,List.length_nil];omega)
end L2
namespace K4
open PySem L2
theorem NC:ZX ["body","word"] ["body"] (ZL Ru):=Zl
theorem Ks:List.Nodup [("tag" :Str),"branch"]:=by decide +kernel
section
def Xa:Sp:=fun vs H Q _=> ∃ (v:V) (b:Bd),vs= [v]/\Has H v b.dat/\b.ok/\∀ u H',Same H H'->Has H' u (.tup (Bd.dats b.parts))->Q u H'
theorem ok_parts(B:Blt mg)(F:Fun K "parts" "parts" Ru f fd):ZN P w K mg base CX0 (n + 1) f fd ["body"] Xa:=by
 refine F.ok NC (fun vs H Q E h=>?_) (fun cdv A outer s H vs Q E hr h=>?_)
 .obtain ⟨v,b,rfl,_⟩:=h
  rfl
 obtain ⟨v,b,rfl,hv,ok,q⟩:=h;refine ⟨_,ZC (ZZ 1 NC.nd (ZY Za (pv 0) ZG))
  (ZC (Zh (ZV Wp (pv 1) (Zs (ZA Zf (ZA Zf ZE))) (by rfl)) (ZH (ZW (Zs ZE))) ZU)
  (ZC (Zh (ZV YL (pv 1) Zf (Zb _)) (ZH (ZW (Zi NO (Zs (ZA (ZY Za (pv 0) ZG) ZE)) (Zo Yn rfl B.tuple YZ (ZA
    (Yd ["tag","branch"] [] (Vc (ZY Za (pv 0) ZG)) TR (fun cl C fp s H=>YR (n:=2) rfl (Zc (ZO 0 Ks rfl (Or.inl rfl) (Or.inr rfl)) (Zc (ZO 1 Ks rfl (Or.inl rfl) (Or.inr rfl)) Z9)))
     (fun cl C fp s H=>pv 1)) ZE))))) ZU)
  (ZC (Zh (ZV YL (pv 1) Zf (Zb _)) (ZH (ZW (ZY Za (pv 0) ZG))) ZU)
  (ZC (Zh (ZV YL (pv 1) Zf (Zb _)) (ZH (ZW (Yw Rk (pv 0) (Y2 ZG) VU))) ZU)
  (ZH (ZW (Yw Rk (pv 0) (Y2 ZG) VU))))))),?_⟩
 show let a:=_;let b:=_;let c:=ZQ (Zw _ b _) a;let d:=_;let e:=ZQ (Zw _ d _) c;let f:=_;let g:=ZQ (Zw _ f _) e;let h:=_;let i:=ZQ (Zw _ h _) g;ZQ _ i _ _ _
 intros
 cases b with
 | tag t=>
  unfold Bd.dat at hv;obtain ⟨p,xs,rfl,hp,hl⟩:=Zn hv;obtain ⟨x1,r1,rfl,h1,hlA⟩:=ZP hl;obtain rfl:=has_str h1;refine ⟨_,_,SqT.of hp,Z7 (j:=0) rfl,?_⟩;refine ⟨sl 2,fun t1 ht1=>?_⟩;refine ⟨t1,_,rfl, .inr (SqT.of ZD),rfl,rfl,_,rfl,Yb (by decide +kernel) ?_⟩;exact ⟨sl 0,fun t2 ht2=>q _ _ ((ZF ht1 _).trans (ZF ht2 _)) (Zr ZD (by simp only [Bd.parts,Bd.dats];exact HasL.nil))⟩
 | name x=>
  unfold Bd.dat at hv;obtain ⟨p,xs,rfl,hp,hl⟩:=Zn hv;obtain ⟨x1,r1,rfl,h1,hlA⟩:=ZP hl;obtain rfl:=has_str h1;refine ⟨_,_,SqT.of hp,Z7 (j:=0) rfl,?_⟩;refine ⟨sl 2,fun t1 ht1=>?_⟩;refine ⟨t1,_,rfl, .inr (SqT.of ZD),rfl,rfl,_,rfl,Yb (by decide +kernel) ?_⟩;exact ⟨sl 0,fun t2 ht2=>q _ _ ((ZF ht1 _).trans (ZF ht2 _)) (Zr ZD (by simp only [Bd.parts,Bd.dats];exact HasL.nil))⟩
 | pair a e=>
  unfold Bd.dat at hv;obtain ⟨p,xs,rfl,hp,hl⟩:=Zn hv;obtain ⟨x1,r1,rfl,h1,hlA⟩:=ZP hl;obtain rfl:=has_str h1;refine ⟨_,_,SqT.of hp,Z7 (j:=0) rfl,?_⟩;refine ⟨sl 2,fun t1 ht1=>?_⟩;have s1:=ZF ht1 (.tup [V.str "tag",V.str "name"]);refine ⟨t1,_,rfl, .inr (SqT.of ZD),rfl,rfl,_,rfl,Zk (by decide +kernel) ?_⟩;refine ⟨rfl,_,rfl,Zk (by decide +kernel) ?_⟩;refine ⟨rfl,_,rfl,Zk (by decide +kernel) ?_⟩;refine ⟨rfl,_,rfl,Zk (by decide +kernel) ?_⟩;refine ⟨1,rfl,p,_,rfl,SqT.of (s1 _ _ hp),by simp [HT.sIx],fun t2 ht2=>q _ _ (s1.trans (ZF ht2 _)) (Zr (xs:=r1) (by rw [ZD];simp [JE,HT.sIx]) ?_)⟩;exact (hlA.mono s1).mono (ZF ht2 _)
 | one e=>
  unfold Bd.dat at hv;obtain ⟨p,xs,rfl,hp,hl⟩:=Zn hv;obtain ⟨x1,r1,rfl,h1,hlA⟩:=ZP hl;obtain rfl:=has_str h1;refine ⟨_,_,SqT.of hp,Z7 (j:=0) rfl,?_⟩;refine ⟨sl 2,fun t1 ht1=>?_⟩;have s1:=ZF ht1 (.tup [V.str "tag",V.str "name"]);refine ⟨t1,_,rfl, .inr (SqT.of ZD),rfl,rfl,_,rfl,Zk (by decide +kernel) ?_⟩;refine ⟨rfl,_,rfl,Zk (by decide +kernel) ?_⟩;refine ⟨rfl,_,rfl,Zk (by decide +kernel) ?_⟩;refine ⟨rfl,_,rfl,Zk (by decide +kernel) ?_⟩;refine ⟨1,rfl,p,_,rfl,SqT.of (s1 _ _ hp),by simp [HT.sIx],fun t2 ht2=>q _ _ (s1.trans (ZF ht2 _)) (Zr (xs:=r1) (by rw [ZD];simp [JE,HT.sIx]) ?_)⟩;exact (hlA.mono s1).mono (ZF ht2 _)
 | other e=>
  unfold Bd.dat at hv;obtain ⟨p,xs,rfl,hp,hl⟩:=Zn hv;obtain ⟨x1,r1,rfl,h1,hlA⟩:=ZP hl;obtain rfl:=has_str h1;refine ⟨_,_,SqT.of hp,Z7 (j:=0) rfl,?_⟩;refine ⟨sl 2,fun t1 ht1=>?_⟩;have s1:=ZF ht1 (.tup [V.str "tag",V.str "name"]);refine ⟨t1,_,rfl, .inr (SqT.of ZD),rfl,rfl,_,rfl,Zk (by decide +kernel) ?_⟩;refine ⟨rfl,_,rfl,Zk (by decide +kernel) ?_⟩;refine ⟨rfl,_,rfl,Zk (by decide +kernel) ?_⟩;refine ⟨rfl,_,rfl,Zk (by decide +kernel) ?_⟩;refine ⟨1,rfl,p,_,rfl,SqT.of (s1 _ _ hp),by simp [HT.sIx],fun t2 ht2=>q _ _ (s1.trans (ZF ht2 _)) (Zr (xs:=r1) (by rw [ZD];simp [JE,HT.sIx]) ?_)⟩;exact (hlA.mono s1).mono (ZF ht2 _)
 | choose e ts bs=>
  unfold Bd.dat at hv;obtain ⟨p,xs,rfl,hp,hl⟩:=Zn hv;obtain ⟨x1,r1,rfl,h1,hlA⟩:=ZP hl;obtain rfl:=has_str h1;obtain ⟨x2,r2,rfl,h2,hlB⟩:=ZP hlA;obtain ⟨x3,r3,rfl,h3,hlC⟩:=ZP hlB;obtain rfl:=YK hlC;obtain ⟨pz,zs,rfl,hpz,hzl⟩:=Zn h3;unfold Bd.ok at ok;obtain ⟨o1,o2,o3,o4⟩:=ok;have lz:=hzl.length;rw [Bd.brs_len o2] at lz;refine ⟨_,_,SqT.of hp,Z7 (j:=0) rfl,?_⟩;refine ⟨sl 2,fun t1 ht1=>?_⟩;have s1:=ZF ht1 (.tup [V.str "tag",V.str "name"]);refine ⟨t1,_,rfl, .inr (SqT.of ZD),rfl,rfl,_,rfl,Zk (by decide +kernel) ?_⟩;refine ⟨rfl,_,rfl,Yb (by decide +kernel) ?_⟩;refine ⟨_,_,SqT.of (s1 _ _ hp),rfl,sl 1,fun t2 ht2=>?_⟩;have s2:=ZF ht2 (.tup [x2]);have sA:=s1.trans s2;refine ⟨_,_,SqT.of (sA _ _ hp),rfl,⟨_,SqT.of (sA _ _ hpz)⟩,?_⟩;have hpz2:=sA _ _ hpz;refine YE zs.length (ZK (by omega)) (fun j vs H'=>H'=upd (upd H t1 (.tup [V.str "tag",V.str "name"])) t2 (.tup [x2])/\vs.length=j/\HasL H vs ((bs.map Bd.dat).take j)) ⟨rfl,rfl,HasL.nil⟩ (fun j vs H' z=>z.2.1) ?_ ?_ ?_ ?_
  .rintro j vs H' hj ⟨rfl,_⟩
   exact ⟨zs,zs[j],SqT.of hpz2,by simp [hj]⟩
  .rintro vs H' ⟨rfl,_⟩
   exact ⟨zs,SqT.of hpz2,Nat.le_refl _⟩
  .rintro j vs H' x H3 R hj ⟨rfl,z2,z3⟩ yl hR
   obtain ⟨rfl,y⟩:=yl;obtain ⟨d,hd,hx1⟩:=hzl.get (y zs (SqT.of hpz2));obtain ⟨b,t0,hb0,ht0,rfl⟩:=Bd.brs_get hd;obtain ⟨pp,ys,rfl,hpp,hyl⟩:=Zn hx1;obtain ⟨y1,r4,rfl,h4,hyA⟩:=ZP hyl;obtain ⟨y2,r5,rfl,h5,hyB⟩:=ZP hyA;obtain rfl:=YK hyB;refine ⟨_,SqT.of (sA _ _ hpp),rfl,?_⟩;refine hR _ _ ⟨rfl,by rw [List.length_append,z2];rfl,?_⟩;rw [List.take_add_one,List.getElem?_map,hb0];exact HasL.append z3 (HasL.one h5)
  .rintro vs H' l ⟨rfl,z2,z3⟩ hl3
   have s3:=ZF hl3 (.lst vs);refine ⟨l,_,rfl, .inl ⟨SqL.of ZD,fun l4 hl4=>?_⟩⟩;have s4:=ZF hl4 (.tup vs);have sB:=(sA.trans s3).trans s4;rw [List.take_of_length_le (by rw [List.length_map];omega)] at z3;have e1:Bd.dats (Bd.choose e ts bs).parts=e.dat::bs.map Bd.dat:=by rw [Bd.dats_map];rfl
   refine ⟨t2,l4, [x2],vs,rfl,rfl,SqT.of (s4 _ _ (s3 _ _ ZD)),SqT.of ZD,by simp,Nat.le_of_lt (ZK (by simp only [List.length_singleton];omega)),fun e0=>?_,fun _ p5 hp5=>?_⟩
   .refine q _ _ sB ?_
    rw [e1];subst e0
    have hb:bs= []:=by
     have:=z3.length;simpa using this.symm
    rw [hb];exact Zr (s4 _ _ (s3 _ _ ZD)) (HasL.one (h2.mono sB))
   .have s5:=ZF hp5 (.tup ([x2]++ vs))
    refine q _ _ (sB.trans s5) ?_;rw [e1];exact Zr ZD (HasL.cons (h2.mono (sB.trans s5)) (z3.mono (sB.trans s5)))
 | ask g as=>
  unfold Bd.dat at hv;obtain ⟨p,xs,rfl,hp,hl⟩:=Zn hv;obtain ⟨x1,r1,rfl,h1,hlA⟩:=ZP hl;obtain rfl:=has_str h1;obtain ⟨x2,r2,rfl,h2,hlB⟩:=ZP hlA;obtain ⟨x3,r3,rfl,h3,hlC⟩:=ZP hlB;refine ⟨_,_,SqT.of hp,Z7 (j:=0) rfl,?_⟩;refine ⟨sl 2,fun t1 ht1=>?_⟩;have s1:=ZF ht1 (.tup [V.str "tag",V.str "name"]);refine ⟨t1,_,rfl, .inr (SqT.of ZD),rfl,rfl,_,rfl,Zk (by decide +kernel) ?_⟩;refine ⟨rfl,_,rfl,Zk (by decide +kernel) ?_⟩;refine ⟨rfl,_,rfl,Yb (by decide +kernel) ?_⟩;exact ⟨_,_,SqT.of (s1 _ _ hp),Z7 (j:=2) rfl,q _ _ s1 (h3.mono s1)⟩
 | letb x k e g=>
  unfold Bd.dat at hv;obtain ⟨p,xs,rfl,hp,hl⟩:=Zn hv;obtain ⟨x1,r1,rfl,h1,hlA⟩:=ZP hl;obtain rfl:=has_str h1;obtain ⟨x2,r2,rfl,h2,hlB⟩:=ZP hlA;obtain ⟨x3,r3,rfl,h3,hlC⟩:=ZP hlB;have lr:=hlC.length;refine ⟨_,_,SqT.of hp,Z7 (j:=0) rfl,?_⟩;refine ⟨sl 2,fun t1 ht1=>?_⟩;have s1:=ZF ht1 (.tup [V.str "tag",V.str "name"]);refine ⟨t1,_,rfl, .inr (SqT.of ZD),rfl,rfl,_,rfl,Zk (by decide +kernel) ?_⟩;refine ⟨rfl,_,rfl,Zk (by decide +kernel) ?_⟩;refine ⟨rfl,_,rfl,Zk (by decide +kernel) ?_⟩;refine ⟨rfl,_,rfl,Yb (by decide +kernel) ?_⟩;refine ⟨3,rfl,p,_,rfl,SqT.of (s1 _ _ hp),by simp [HT.sIx],fun t2 ht2=>q _ _ (s1.trans (ZF ht2 _)) (Zr (xs:=r3) (by rw [ZD];simp [JE,HT.sIx]) ?_)⟩;exact (hlC.mono s1).mono (ZF ht2 _)
end
end K4
namespace L2
open PySem
theorem IH(hK:X.K=K)(hg:Gl X "isinstance")(hm:X.mg "isinstance" =none)(hg':Gl X x)(hm':X.mg x=none)(hv:bootBuiltins x=some (.type T))(he:PE X e te)(hn:x≠"__name__" :=by decide)(hdb:(x==("__debug__" :Str))=false:=by decide)(hs:starEach [e, .Name x p'] X.env=(false,eval e X.env)::starEach [.Name x p'] X.env:=by rfl):
  PE X (.Call (.Name "isinstance" p) [e, .Name x p'] [] pos) (tCB (LQ K) (Ve te (Ve (tC (.ty T)) W9))):=by
 subst hK;exact VD hg hm hg' hm' hv he hn hdb hs
theorem Bd.dat_tup:∀ b:Bd,∃ ds,b.dat= .tup ds
 | .tag _=>⟨_,by unfold Bd.dat;rfl⟩
 | .name _=>⟨_,by unfold Bd.dat;rfl⟩
 | .pair _ _=>⟨_,by unfold Bd.dat;rfl⟩
 | .one _=>⟨_,by unfold Bd.dat;rfl⟩
 | .other _=>⟨_,by unfold Bd.dat;rfl⟩
 | .choose _ _ _=>⟨_,by unfold Bd.dat;rfl⟩
 | .ask _ _=>⟨_,by unfold Bd.dat;rfl⟩
 | .letb _ _ _ _=>⟨_,by unfold Bd.dat;rfl⟩
def Bd.Plain(b:Bd):Prop:= ∃ (wd:Str) (ds:List Dat),b.dat= .tup (.str wd::ds)/\wd≠"choose" /\wd≠"ask" /\1<=ds.length/\ds.length<=4/\(ds.filter fun d=>isD "tuple" d)=Bd.dats b.parts
theorem Bd.is_tup(b:Bd):isD "tuple" b.dat=true:=by
 obtain ⟨ds,e⟩:=b.dat_tup;rw [e];rfl
theorem Bd.form(b:Bd):(∃ e ts bs,b= .choose e ts bs) \/ (∃ f as,b= .ask f as) \/ b.Plain:=by
 have hs:∀ x:Str,isD "tuple" (.str x)=false:=fun x=>rfl
 cases b with
 | tag t=>exact .inr (.inr ⟨"tag", [.str t],by unfold Bd.dat;rfl,by decide +kernel,by decide +kernel,by simp,by simp,by simp [hs,Bd.parts,Bd.dats]⟩)
 | name x=>exact .inr (.inr ⟨"name", [.str x],by unfold Bd.dat;rfl,by decide +kernel,by decide +kernel,by simp,by simp,by simp [hs,Bd.parts,Bd.dats]⟩)
 | pair a e=>exact .inr (.inr ⟨"pair", [a.dat,e.dat],by conv=>lhs;unfold Bd.dat,by decide +kernel,by decide +kernel,by simp,by simp,by simp [Bd.is_tup,Bd.parts,Bd.dats]⟩)
 | one e=>exact .inr (.inr ⟨"one", [e.dat],by conv=>lhs;unfold Bd.dat,by decide +kernel,by decide +kernel,by simp,by simp,by simp [Bd.is_tup,Bd.parts,Bd.dats]⟩)
 | other e=>exact .inr (.inr ⟨"other", [e.dat],by conv=>lhs;unfold Bd.dat,by decide +kernel,by decide +kernel,by simp,by simp,by simp [Bd.is_tup,Bd.parts,Bd.dats]⟩)
 | choose e ts bs=>exact .inl ⟨e,ts,bs,rfl⟩
 | ask f as=>exact .inr (.inl ⟨f,as,rfl⟩)
 | letb x k e g=>exact .inr (.inr ⟨"let", [.str x, .str k,e.dat,g.dat],by conv=>lhs;unfold Bd.dat,by decide +kernel,by decide +kernel,by simp,by simp,by simp [hs,Bd.is_tup,Bd.parts,Bd.dats]⟩)
end L2
namespace K4
open PySem L2
theorem B4:ZX ["body"] ["body"] (ZL Gj):=Zl
theorem Le:List.Nodup [("row" :Str)]:=by decide +kernel
theorem NT:List.Nodup [("part" :Str)]:=by decide +kernel
section
def UU:Sp:=fun vs H Q _=> ∃ (v:V) (b:Bd),vs= [v]/\Has H v b.dat/\b.ok/\∀ (r:Addr) (H':Hp),Same H H'->H r=none->Has H' (.ref r) (.lst (Bd.dats b.parts))->Q (.ref r) H'
theorem N7(B:Blt mg)(F:Fun K "_law_parts" "_law_parts" Gj f fd):ZN P w K mg base CX0 (n + 1) f fd ["body"] UU:=by
 refine F.ok B4 (fun vs H Q E h=>?_) (fun cdv A outer s H vs Q E hr h=>?_)
 .obtain ⟨v,b,rfl,_⟩:=h
  rfl
 obtain ⟨v,b,rfl,hv,ok,q⟩:=h;refine ⟨_,ZC (Zh (ZV YL (ZY Za (pv 0) ZG) Zf (Zb _)) (ZH (ZW (Zi JN (Z8 (ZA (ZY Za (pv 0) ZG) ZE))
    (Yd ["row"] [] (Vc (ZY Za (pv 0) ZG)) (YI (i:=0) (by decide)) (fun cl C fp s H=>ZO 0 Le rfl (Or.inl rfl) (Or.inr rfl)) (fun cl C fp s H=>ZY (r:=UY K) Za (pv 0) ZG))))) ZU)
  (ZC (Zh (ZV YL (ZY Za (pv 0) ZG) Zf (Zb _)) (ZH (ZW (Zo YY rfl B.list YF (ZA (ZY Za (pv 0) ZG) ZE)))) ZU)
  (ZH (ZW (IK ["part"] [] (Vc (Yw Rk (pv 0) (Y2 ZG) VU)) (YI (i:=0) (by decide)) (fun cl C fp s H=>ZO 0 NT rfl (Or.inl rfl) (Or.inr rfl))
    (fun cl C fp s H=>YN (IH (K:=K) rfl rfl B.isi rfl B.tuple YZ (pv 0))) (fun cl C fp s H=>pv 0))))),?_⟩
 show let a:=_;let b:=_;let c:=ZQ (Zw _ b _) a;let d:=_;ZQ (Zw _ d _) c _ _ _
 intros
 rcases Bd.form b with ⟨e,ts,bs,rfl⟩ | ⟨g,as,rfl⟩ | ⟨wd,ds,ed,n1,n2,d1,d4,efl⟩
 .unfold Bd.dat at hv
  obtain ⟨p,xs,rfl,hp,hl⟩:=Zn hv;obtain ⟨x1,r1,rfl,h1,hlA⟩:=ZP hl;obtain rfl:=has_str h1;obtain ⟨x2,r2,rfl,h2,hlB⟩:=ZP hlA;obtain ⟨x3,r3,rfl,h3,hlC⟩:=ZP hlB;obtain rfl:=YK hlC;obtain ⟨pz,zs,rfl,hpz,hzl⟩:=Zn h3;unfold Bd.ok at ok;obtain ⟨o1,o2,o3,o4⟩:=ok;have lz:=hzl.length;rw [Bd.brs_len o2] at lz;refine ⟨_,_,SqT.of hp,rfl,rfl,_,rfl,Yb (by decide +kernel) ?_⟩;refine ⟨_,_,SqT.of hp,rfl,sl 1,fun t1 ht1=>?_⟩;have s1:=ZF ht1 (.lst [x2]);refine ⟨_,_,SqT.of (s1 _ _ hp),rfl,⟨_,SqT.of (s1 _ _ hpz)⟩,?_⟩;have hpz2:=s1 _ _ hpz;refine YE zs.length (ZK (by omega)) (fun j vs H'=>H'=upd H t1 (.lst [x2])/\vs.length=j/\HasL H vs ((bs.map Bd.dat).take j)) ⟨rfl,rfl,HasL.nil⟩ (fun j vs H' z=>z.2.1) ?_ ?_ ?_ ?_
  .rintro j vs H' hj ⟨rfl,_⟩
   exact ⟨zs,zs[j],SqT.of hpz2,by simp [hj]⟩
  .rintro vs H' ⟨rfl,_⟩
   exact ⟨zs,SqT.of hpz2,Nat.le_refl _⟩
  .rintro j vs H' x H3 R hj ⟨rfl,z2,z3⟩ yl hR
   obtain ⟨rfl,y⟩:=yl;obtain ⟨d,hd,hx1⟩:=hzl.get (y zs (SqT.of hpz2));obtain ⟨b,t0,hb0,ht0,rfl⟩:=Bd.brs_get hd;obtain ⟨pp,ys,rfl,hpp,hyl⟩:=Zn hx1;obtain ⟨y1,r4,rfl,h4,hyA⟩:=ZP hyl;obtain ⟨y2,r5,rfl,h5,hyB⟩:=ZP hyA;obtain rfl:=YK hyB;refine ⟨_,_,SqT.of (s1 _ _ hpp),rfl,hR _ _ ⟨rfl,by rw [List.length_append,z2];rfl,?_⟩⟩;rw [List.take_add_one,List.getElem?_map,hb0];exact HasL.append z3 (HasL.one h5)
  .rintro vs H' l ⟨rfl,z2,z3⟩ hl3
   have s3:=ZF hl3 (.lst vs);rw [List.take_of_length_le (by rw [List.length_map];omega)] at z3;have e1:Bd.dats (Bd.choose e ts bs).parts=e.dat::bs.map Bd.dat:=by rw [Bd.dats_map];rfl
   refine ⟨t1,l, [x2],vs,rfl,rfl,s3 _ _ ZD,ZD,Nat.le_of_lt (ZK (by simp only [List.length_singleton];omega)),fun l4 hl4=>?_⟩;have s4:=ZF hl4 (.lst ([x2]++ vs));have sB:=(s1.trans s3).trans s4;refine q l4 _ sB ((s1.trans s3).free hl4) (Zx ZD ?_);rw [e1];exact HasL.cons (h2.mono sB) (z3.mono sB)
 .unfold Bd.dat at hv
  obtain ⟨p,xs,rfl,hp,hl⟩:=Zn hv;obtain ⟨x1,r1,rfl,h1,hlA⟩:=ZP hl;obtain rfl:=has_str h1;obtain ⟨x2,r2,rfl,h2,hlB⟩:=ZP hlA;obtain ⟨x3,r3,rfl,h3,hlC⟩:=ZP hlB;obtain rfl:=YK hlC;obtain ⟨pz,zs,rfl,hpz,hzl⟩:=Zn h3;refine ⟨_,_,SqT.of hp,rfl,rfl,_,rfl,Zk (by decide +kernel) ?_⟩;refine ⟨_,_,SqT.of hp,rfl,rfl,_,rfl,Yb (by decide +kernel) ?_⟩;refine ⟨_,_,SqT.of hp,rfl,pz,_,rfl, .inr (SqT.of hpz),fun l hl3=>?_⟩;exact q l _ (ZF hl3 _) hl3 (Zx ZD (hzl.mono (ZF hl3 _)))
 .rw [ed] at hv
  obtain ⟨p,xs,rfl,hp,hl⟩:=Zn hv;obtain ⟨x1,r1,rfl,h1,hlA⟩:=ZP hl;obtain rfl:=has_str h1;have lr:=hlA.length;refine ⟨_,_,SqT.of hp,Z7 (j:=0) rfl,rfl,_,rfl,Zk (by simpa using n1) ?_⟩;refine ⟨_,_,SqT.of hp,Z7 (j:=0) rfl,rfl,_,rfl,Zk (by simpa using n2) ?_⟩;refine ⟨1,rfl,p,_,rfl,SqT.of hp,by simp [HT.sIx],fun t2 ht2=>?_⟩;have ec:JE (V.str wd::r1) (some 1) none=r1:=by simp [JE,HT.sIx]
  rw [ec];have s2:=ZF ht2 (.tup r1);refine ⟨⟨_,SqT.of ZD⟩,?_⟩;refine Vr r1.length (ZK (by omega)) (fun j vs H'=>H'=upd H t2 (.tup r1)/\vs.length<=j/\HasL H vs ((ds.take j).filter fun d=>isD "tuple" d)) ⟨rfl,Nat.le_refl _,HasL.nil⟩ (fun j vs H' z=>z.2.1) ?_ ?_ ?_ ?_
  .rintro j vs H' hj ⟨rfl,_⟩
   exact ⟨r1,r1[j],SqT.of ZD,by simp [hj]⟩
  .rintro vs H' ⟨rfl,_⟩
   exact ⟨r1,SqT.of ZD,Nat.le_refl _⟩
  .rintro j vs H' x H3 R hj ⟨rfl,z2,z3⟩ yl hT hF
   obtain ⟨rfl,y⟩:=yl;obtain ⟨d,hd,hx1⟩:=hlA.get (y r1 (SqT.of ZD))
   have sn:(ds.take (j + 1)).filter (fun d=>isD "tuple" d)=(ds.take j).filter (fun d=>isD "tuple" d)++ (if isD "tuple" d=true then [d] else []):=by
    rw [List.take_add_one,hd,Option.toList_some,List.filter_append]
    congr 1
    by_cases e:isD "tuple" d=true <;> simp [e]
   refine ⟨_,_,_,_,rfl,Mf (K:=K) (hx1.mono s2),VF K d (by simp),_,rfl,?_⟩
   by_cases e:isD "tuple" d=true
   .refine Yb e (hT _ _ ⟨rfl,by rw [List.length_append];simp;exact z2,?_⟩)
    rw [sn,if_pos e];exact HasL.append z3 (HasL.one hx1)
   .refine Zk e (hF _ ⟨rfl,Nat.le_succ_of_le z2,?_⟩)
    rw [sn,if_neg e,List.append_nil];exact z3
  .rintro vs H' l ⟨rfl,z2,z3⟩ hl3
   have s3:=ZF hl3 (.lst vs);rw [lr,List.take_length,efl] at z3;exact q l _ (s2.trans s3) (s2.free hl3) (Zx ZD (z3.mono (s2.trans s3)))
end
end K4
namespace L2
open PySem PySem.Spec PyProof.Rows
section
theorem Iq{ns:List Int}(r:Vals (ns.map V.int) its){i:Nat}(e:its[i]?=some v):∃ t,v= .int (ns.getD i 0) t:=by
 have hi:=(List.getElem?_eq_some_iff.mp e).1;have l:=r.length;rw [List.length_map] at l;have hi':i < ns.length:=by omega
 obtain ⟨u,hu,t,rfl⟩:=r.get (show (ns.map V.int)[i]?=some (V.int ns[i]) by rw [List.getElem?_map,List.getElem?_eq_getElem hi'];rfl);rw [hu] at e;cases e;exact ⟨t,by rw [List.getD_eq_getElem?_getD,List.getElem?_eq_getElem hi'];rfl⟩
theorem Be(hc:X.calm=true):Y9 X (.builtin "sum") (fun xs H Q=> ∃ (p:Addr) (ns:List Int),xs= [.ref p]/\SqL X.K H p (ns.map V.int)/\PyProof.Rows.SumFits ns/\Q (.int ns.sum) H):=by
 intro pins s U H xs us Q I r h;obtain ⟨p,ns,rfl,hq,fit,q⟩:=h;obtain ⟨u,rfl,ru⟩:=vals1 r;cases ru;obtain ⟨its,r',pl,hz⟩:=I.list hq
 have hp:p < s.heap.objs.size:=by
  obtain ⟨o,n,e,_⟩:=pl;exact Heap.lt_size e
 have hlen:its.length=ns.length:=by
  have:=r'.length;rw [List.length_map] at this;exact this.symm
 refine call_sum_walk (wpAny_pyIter_list pl.isList ?_);refine ⟨s.heap.objs.size,_,_,its.toArray.size,_,_,fun i=>ns.getD i 0,rfl,Walks.list (A:=X.A.in1) (I.ok.hd hc) _ p (Nat.ne_of_lt hp) its.toArray,?_,?_,?_,?_,?_⟩
 .exact ⟨⟨_,Heap.get?_push_size _ rfl,rfl,rfl⟩,pl.isList.push _⟩
 .intro b hb
  have e:b=s.heap.objs.size \/ b=p:=by simpa using hb
  have hsz:∀ o:Obj,(s.heap.push o).objs.size=s.heap.objs.size + 1:=fun o=>Heap.size_push _ _;show b < (s.heap.push _).objs.size;rw [hsz];rcases e with e | e
  .rw [e];exact Nat.lt_succ_self _
  .rw [e];exact Nat.lt_succ_of_lt hp
 .intro i v hv
  exact Iq r' (by simpa using hv)
 .intro j hj
  rw [List.size_toArray,hlen] at hj;rw [preSum_getD];exact fit j hj
 .intro h' tk t' hk
  rw [List.size_toArray,hlen,preSum_getD,List.take_length];refine ⟨.int ns.sum,H,I.kept fun b o e=>hk b o (fun hm=>?_) (Heap.get?_push_of_some _ e),⟨t',rfl⟩,q⟩;have e':b=s.heap.objs.size:=by simpa using hm
  rw [e'] at e;exact Nat.lt_irrefl _ (Heap.lt_size e)
end
mutual
def Bd.size:Bd->Nat
 | .tag _=>1
 | .name _=>1
 | .pair a b=>1 + (a.size + b.size)
 | .one e=>1 + e.size
 | .other e=>1 + e.size
 | .choose e _ bs=>1 + (e.size + Bd.sizes bs)
 | .ask _ as=>1 + Bd.sizes as
 | .letb _ _ e b=>1 + (e.size + b.size)
def Bd.sizes:List Bd->Nat
 | []=>0
 | b::bs=>b.size + Bd.sizes bs
end
mutual
def Bd.dep:Bd->Nat
 | .tag _=>0
 | .name _=>0
 | .pair a b=>1 + max a.dep b.dep
 | .one e=>1 + e.dep
 | .other e=>1 + e.dep
 | .choose e _ bs=>1 + max e.dep (Bd.deps bs)
 | .ask _ as=>1 + Bd.deps as
 | .letb _ _ e b=>1 + max e.dep b.dep
def Bd.deps:List Bd->Nat
 | []=>0
 | b::bs=>max b.dep (Bd.deps bs)
end
theorem Bd.size_eq(b:Bd):b.size=1 + Bd.sizes b.parts:=by
 cases b <;> simp [Bd.size,Bd.sizes,Bd.parts]
theorem Bd.deps_mem:∀ {bs:List Bd}{b:Bd},b∈bs->b.dep<=Bd.deps bs
 | [],_,h=>nomatch h
 | c::bs,b,h=>by
  unfold Bd.deps;rcases List.mem_cons.mp h with rfl | h
  .exact Nat.le_max_left _ _
  .exact Nat.le_trans (Bd.deps_mem h) (Nat.le_max_right _ _)
theorem Bd.dep_mem{b c:Bd}(h:c∈b.parts):c.dep < b.dep:=by
 have hd:=Bd.deps_mem h;cases b <;> simp only [Bd.parts,Bd.deps,Bd.dep,List.mem_nil_iff] at * <;> first | exact h.elim | omega
theorem Bd.sizes_le:∀ {bs:List Bd},(∀ b∈bs,b.size<=m)->Bd.sizes bs<=bs.length * m
 | [],_=>by simp [Bd.sizes]
 | b::bs,h=>by
  have h1:=h b (by simp);have h2:=Bd.sizes_le (m:=m) (bs:=bs) fun c hc=>h c (List.mem_cons_of_mem _ hc);unfold Bd.sizes;rw [List.length_cons,Nat.succ_mul];omega
theorem Bd.size_le:∀ (n:Nat) (b:Bd),b.dep<=n->b.ok->b.size<=6 ^ n
 | 0,b,h,ok=>by
  cases b <;> simp [Bd.dep] at h <;> simp [Bd.size]
 | n + 1,b,h,ok=>by
  have h1:∀ c∈b.parts,c.size<=6 ^ n:=fun c hc=>Bd.size_le n c (by have:=Bd.dep_mem hc;omega) (Bd.ok_parts ok c hc);have h2:=Bd.sizes_le h1;have h3:=Bd.few ok;have h4:b.parts.length * 6 ^ n<=5 * 6 ^ n:=Nat.mul_le_mul_right _ h3;have h5:1<=6 ^ n:=Nat.one_le_pow _ _ (by decide);rw [Bd.size_eq,Nat.pow_succ];omega
theorem Bd.sizes_sum:∀ bs:List Bd,((bs.map fun b=>((b.size:Nat):Int))).sum=((Bd.sizes bs:Nat):Int)
 | []=>by simp [Bd.sizes]
 | b::bs=>by
  simp only [List.map_cons,List.sum_cons,Bd.sizes];rw [Bd.sizes_sum bs]
  push_cast
  rfl
theorem Bd.sizes_take:∀ (bs:List Bd) (j:Nat),Bd.sizes (bs.take j)<=Bd.sizes bs
 | [],j=>by simp [Bd.sizes]
 | b::bs,0=>by simp [Bd.sizes]
 | b::bs,j + 1=>by
  simp only [List.take_succ_cons,Bd.sizes];have:=Bd.sizes_take bs j;omega
theorem Bd.sizes_mem:∀ {bs:List Bd}{b:Bd},b∈bs->b.size<=Bd.sizes bs
 | [],_,h=>nomatch h
 | c::bs,b,h=>by
  unfold Bd.sizes;rcases List.mem_cons.mp h with rfl | h
  .omega
  .have:=Bd.sizes_mem h
   omega
theorem Nq(h:Bd.sizes bs < 2 ^ 62):PyProof.Rows.SumFits (bs.map fun b=>((b.size:Nat):Int)):=by
 intro j hj;rw [List.length_map] at hj;have e1:(bs.map fun b=>((b.size:Nat):Int)).getD j 0=((bs[j].size:Nat):Int):=by rw [List.getD_eq_getElem?_getD,List.getElem?_map,List.getElem?_eq_getElem hj];rfl
 have h1:=Bd.sizes_mem (List.getElem_mem hj);have h2:=Bd.sizes_take bs (j + 1);rw [e1,<-List.map_take,Bd.sizes_sum]
 constructor
 .unfold InLong;omega
 .unfold InLong;omega
end L2
namespace K4
open PySem L2
theorem LG:ZX ["body"] ["body"] (ZL NG):=Zl
theorem Bj:bootBuiltins "sum" =some (.builtin "sum"):=by decide +kernel
section
def Uo(n:Nat):Sp:=fun vs H Q _=> ∃ (v:V) (b:Bd),vs= [v]/\Has H v b.dat/\b.ok/\b.dep < n/\b.dep<=20/\∀ H',Same H H'->Q (.int (b.size:Nat)) H'
theorem IQ(B:Blt mg)(ms:mg "sum" =none)(F:Fun K "_law_size" "_law_size" NG f fd)(G:ZN P w K mg base CX0 m f fd ["body"] (Uo n))(bG:Binds K fd ["body"] [])(mG:mg "_law_size" =some (.ref f))(GL:ZN P w K mg base CX0 m g gd ["body"] UU)(bL:Binds K gd ["body"] [])(kL:W.keepIn K (.ref g)=true)(mL:mg "_law_parts" =some (.ref g)):
  ZN P w K mg base CX0 (m + 1) f fd ["body"] (Uo (n + 1)):=by
 refine F.ok LG (fun vs H Q E h=>?_) (fun cdv A outer s H vs Q E hr h=>?_)
 .obtain ⟨v,b,rfl,_⟩:=h
  rfl
 obtain ⟨v,b,rfl,hv,ok,dn,d20,q⟩:=h;refine ⟨_,ZH (ZW (Zi YT ZG (Zj (Be rfl) rfl ms Bj (ZA (Yd ["part"] [] (Z6 (ZM GL hr rfl mL kL bL .nil ZT (ZA (pv 0) ZE))) (YI (i:=0) (by decide)) (fun cl C fp s H=>ZO 0 NT rfl (Or.inl rfl) (Or.inr rfl))
   (fun cl C fp s H=>ZM G hr rfl mG F.kp bG .nil ZT (ZA (pv 0) ZE))) ZE)))),?_⟩
 refine ⟨v,b,rfl,hv,ok,fun r H1 s1 fr h1=>?_⟩;obtain ⟨_,xs,er,hx,hl⟩:=JT h1;cases er;have lx:=hl.length;rw [Bd.dats_map,List.length_map] at lx;have few:=Bd.few ok;refine ⟨⟨_,SqL.of hx⟩,?_⟩;refine YE xs.length (ZK (by omega)) (fun j vs H'=>Same H1 H'/\vs.length=j/\vs=((b.parts.take j).map fun c=>((c.size:Nat):Int)).map V.int) ⟨Same.refl _,rfl,rfl⟩ (fun j vs H' z=>?_) ?_ ?_ ?_ ?_
 .exact z.2.1
 .intro j vs H' hj z
  exact ⟨xs,xs[j],SqL.of (z.1 _ _ hx),by simp [hj]⟩
 .intro vs H' z
  exact ⟨xs,SqL.of (z.1 _ _ hx),Nat.le_refl _⟩
 .intro j vs H' x H3 R hj z yl hR
  obtain ⟨rfl,y⟩:=yl;obtain ⟨d,hd,hx1⟩:=hl.get (y xs (SqL.of (z.1 _ _ hx)));rw [Bd.dats_map,List.getElem?_map] at hd
  cases hp:b.parts[j]? with
  | none=>rw [hp] at hd;cases hd
  | some c=>
   rw [hp] at hd;cases hd;have hm:=List.mem_of_getElem? hp;have hdm:=Bd.dep_mem hm;refine ⟨x,c,rfl,hx1.mono z.1,Bd.ok_parts ok c hm,by omega,by omega,fun H4 s4=>hR _ _ ⟨z.1.trans s4,by rw [List.length_append,z.2.1];rfl,?_⟩⟩;rw [z.2.2,List.take_add_one,hp,Option.toList_some,List.map_append,List.map_append]
   rfl
 .intro vs H' l z hl3
  obtain ⟨z1,_,rfl⟩:=z;rw [lx,List.take_length]
  have big:Bd.sizes b.parts < 2 ^ 62:=by
   have h2:=Bd.size_le 20 b d20 ok;rw [Bd.size_eq] at h2;have:(6:Nat) ^ 20 < 2 ^ 62:=by decide
   omega
  refine ⟨l,_,rfl,SqL.of ZD,Nq big,?_⟩
  have e:(1:Int) + (b.parts.map fun c=>((c.size:Nat):Int)).sum=((b.size:Nat):Int):=by
   rw [Bd.sizes_sum,Bd.size_eq];push_cast;rfl
  show Q (.int (1 + (b.parts.map fun c=>((c.size:Nat):Int)).sum)) _;rw [e];exact q _ ((s1.trans z1).trans (ZF hl3 _))
end
end K4
namespace L2
open PySem
section
def Lp(tl:TE):TI:=fun U H R=>tl U H fun v H1=> ∃ d o kvs,v= .ref d/\H1 d=some (.frz o (.dK kvs))/\R (Itd d o kvs) H1
theorem Jk(hl:PE X l tl):PI X tg l (Lp tl):=by
 intro pins s U H R I h;refine thn (hl pins s U H _ I h) fun v s1 ⟨y,H1,I1,r1,d,o,kvs,e,hd,q⟩=>?_;subst e;cases r1;obtain ⟨vs,hat,rv,hm⟩:=I1.dict_at hd;refine wpAny_pyIter_dict hm hat ?_;rw [<-Mb rv];refine ⟨_, [s1.heap.objs.size],_,_,_,rfl,I1.kept (t':=s1.toks) (fun b o e=>Heap.get?_push_of_some _ e),Nn _ d o kvs,⟨_,Heap.get?_push_size _ rfl,rfl,rfl⟩,fun b hb=>?_,q⟩;cases List.mem_singleton.mp hb;exact I1.fpOk (Nat.le_refl _) (I1.hok.fresh (Nat.le_refl _))
def Ow(t:TS):TS:=fun D U H=>t {D with nx:=fun U H1=> ∃ d kvs,H1 d=some (.dK kvs)/\∀ o,D.nx U (upd H1 d (.frz o (.dK kvs)))} U H
theorem Gz(h:PS X st t):PS X st (Ow t):=by
 intro pins s U H D I q;refine thn (h pins s U H _ I q) fun f s1 z=>?_
 cases f with
 | next=>
  obtain ⟨U',H1,I1,d,kvs,hd,q2⟩:=z;obtain ⟨o,ho⟩:=(show Z5 X.prog X.w H1 s1.heap d (.dK kvs) from I1.hok d _ hd).dk_ex;exact ⟨U',_,I1.freeze hd ho,q2 o⟩
 | brk=>exact z
 | cont=>exact z
 | ret u=>exact z
end
def SF(H:Hp)(a:Addr)(ks:List (Str × Shp)):Prop:= ∃ o kvs,H a=some (.frz o (.dK kvs))/\kvs.map (·.1)=ks.map (fun k=>(Sum.inr k.1:Key))/\∀ y s,YQ ks y=some s->∃ v,Zp kvs (Sum.inr y)=some v/\Has H v s.dat
theorem SF.mono(h:SF H a ks)(e:Same H H'):SF H' a ks:=by
 obtain ⟨o,kvs,h1,h2,h3⟩:=h;exact ⟨o,kvs,e _ _ h1,h2,fun y s hs=>let ⟨v,g1,g2⟩:=h3 y s hs;⟨v,g1,g2.mono e⟩⟩
theorem NB(nd:(ks.map (·.1)).Nodup)(h:(y,s)∈ks):YQ ks y=some s:=by
 induction ks with
 | nil=>simp at h
 | cons k ks ih=>
  rw [List.map_cons,List.nodup_cons] at nd;unfold YQ;rw [List.find?_cons];rcases List.mem_cons.mp h with e | e
  .subst e;simp
  .have ne: ¬ k.1=y:=fun q=>nd.1 (by rw [q];exact List.mem_map.mpr ⟨_,e,rfl⟩)
   rw [decide_eq_false ne];exact ih nd.2 e
theorem Ex{g:TG}{tb:TS}{D:Ends}(Pv:Nat->St->Hp->Prop)(h0:Pv 0 U H)(hl:∀ i U H,i<=kvs.length->Pv i U H->H d=some (.frz o (.dK kvs)))(hs:∀ i kv U H,kvs[i]?=some kv->Pv i U H->g (kV kv.1) U H fun σ2 H2=>tb {D with nx:=Pv (i + 1),ct:=Pv (i + 1),bk:=D.nx} σ2 H2)(hd:∀ U H,Pv kvs.length U H->D.nx U H):
  ∃ W:Nat->Nat->St->Hp->Prop,(∃ m,W 0 m U H)/\∀ i m U H,W i m U H->
   ((Itd d o kvs).stop i H/\D.nx U H) \/ ((Itd d o kvs).go i H/\∃ N:St->Hp->Prop,(∀ U' H',N U' H'->∃ m',m' < m/\W (i + 1) m' U' H')/\∀ x H',(Itd d o kvs).yld i H x H'->g x U H' fun σ2 H2=>tb {D with nx:=N,ct:=N,bk:=D.nx} σ2 H2):=by
 refine ⟨fun i m U H=>m=kvs.length - i/\i<=kvs.length/\Pv i U H,⟨kvs.length,by simp,Nat.zero_le _,h0⟩,fun i m U H z=>?_⟩;obtain ⟨rfl,hi,p⟩:=z;have q:=hl i U H hi p;rcases Nat.lt_or_ge i kvs.length with hlt | hge
 .refine .inr ⟨⟨q,hlt⟩,Pv (i + 1),fun U' H' p'=>⟨kvs.length - (i + 1),by omega,rfl,hlt,p'⟩,fun x H' y=>?_⟩
  obtain ⟨e,kv,ek,ex⟩:=y;subst e ex;exact hs i kv U _ ek p
 .have e:kvs.length=i:=by omega
  exact .inl ⟨⟨q,e⟩,by subst e;exact hd U H p⟩
theorem NZ{g:TG}{tb:TS}{D:Ends}(Pv:Nat->St->Hp->Prop)(h0:Pv 0 U H)(hl:∀ i U H,i<=kvs.length->Pv i U H->H d=some (.frz o (.dK kvs)))(hs:∀ (B:St->Hp->Prop) (R:VK) i kv U H,kvs[i]?=some kv->Pv i U H->g (kV kv.1) U H fun σ2 H2=>tb {nx:=Pv (i + 1),rt:=R,bk:=B,ct:=Pv (i + 1)} σ2 H2)(hd:∀ U H,Pv kvs.length U H->D.nx U H):
  ∃ W:Nat->Nat->St->Hp->Prop,(∃ m,W 0 m U H)/\∀ i m U H,W i m U H->
   ((Itd d o kvs).stop i H/\D.nx U H) \/ ((Itd d o kvs).go i H/\∃ N:St->Hp->Prop,(∀ U' H',N U' H'->∃ m',m' < m/\W (i + 1) m' U' H')/\∀ x H',(Itd d o kvs).yld i H x H'->g x U H' fun σ2 H2=>tb {D with nx:=N,ct:=N,bk:=D.nx} σ2 H2):=
 Ex Pv h0 hl (fun i kv U H hx p=>hs _ _ i kv U H hx p) hd
theorem Mc{ks:List (Str × Shp)}{kvs:List (Key × V)}(e:kvs.map (·.1)=ks.map (fun k=>(Sum.inr k.1:Key))){i:Nat}(h:kvs[i]?=some kv):∃ y s,ks[i]?=some (y,s)/\kv.1=Sum.inr y:=by
 have q:=congrArg (fun l=>l[i]?) e;simp only [List.getElem?_map,h,Option.map_some] at q
 cases hk:ks[i]? with
 | none=>rw [hk] at q;cases q
 | some k=>
  rw [hk] at q;obtain ⟨y,s⟩:=k;exact ⟨y,s,rfl,Option.some.inj q⟩
theorem TH{ks:List (Str × Shp)}{kvs:List (Key × V)}(e:kvs.map (·.1)=ks.map (fun k=>(Sum.inr k.1:Key))):kvs.length=ks.length:=by
 have:=congrArg List.length e
 rwa [List.length_map,List.length_map] at this
abbrev Hds:=Str->Option (List (Str × Str) × Str)
inductive Kd(ks:List (Str × Shp))(hd:Hds):List (Key × V)->Str->Bd->Prop
 | tag {g:List (Key × V)}{y t:Str}{ts:List Str}:YQ ks y=some (.tags ts)->t∈ts->Kd ks hd g y (.tag t)
 | name {g:List (Key × V)}{y x:Str}:Zp g (Sum.inr x)=some (.str y)->Kd ks hd g y (.name x)
 | pair {g:List (Key × V)}{y a b:Str}{A B:Bd}:YQ ks y=some (.pair a b)->Kd ks hd g a A->Kd ks hd g b B->Kd ks hd g y (.pair A B)
 | one {g:List (Key × V)}{y z b:Str}{e:Bd}:YQ ks z=some (.pair y b)->Kd ks hd g z e->Kd ks hd g y (.one e)
 | other {g:List (Key × V)}{y z a:Str}{e:Bd}:YQ ks z=some (.pair a y)->Kd ks hd g z e->Kd ks hd g y (.other e)
 | choose {g:List (Key × V)}{y z:Str}{ts:List Str}{e:Bd}{bs:List Bd}:YQ ks z=some (.tags ts)->Kd ks hd g z e->bs.length=ts.length->(∀ b∈bs,Kd ks hd g y b)->Kd ks hd g y (.choose e ts bs)
 | ask {g:List (Key × V)}{y f:Str}{ps:List (Str × Str)}{as:List Bd}:hd f=some (ps,y)->as.length=ps.length->(∀ (i:Nat) (a:Bd) (p:Str × Str),as[i]?=some a->ps[i]?=some p->Kd ks hd g p.2 a)->Kd ks hd g y (.ask f as)
 | letb {g:List (Key × V)}{y x z:Str}{e b:Bd}:Zp g (Sum.inr x)=none->z∈ks.map (·.1)->Kd ks hd (putK g (Sum.inr x) (.str z)) z e->Kd ks hd (putK g (Sum.inr x) (.str z)) y b->Kd ks hd g y (.letb x z e b)
theorem FG{P:Bd->Prop}(h:∀ x∈bs,P x)(hb:P b):∀ x∈bs++ [b],P x:=fun x hx=>by
 rcases List.mem_append.mp hx with q | q
 .exact h x q
 .cases List.mem_singleton.mp q
  exact hb
theorem Eo{α:Type}{P:Nat->α->Prop}{bs:List α}{b:α}(h:∀ i x,bs[i]?=some x->P i x)(hb:P bs.length b):∀ i x,(bs++ [b])[i]?=some x->P i x:=fun i x e=>by
 rcases Nat.lt_trichotomy i bs.length with l | l | l
 .rw [List.getElem?_append_left l] at e;exact h i x e
 .subst l
  rw [List.getElem?_append_right (Nat.le_refl _),Nat.sub_self] at e;cases Option.some.inj e;exact hb
 .rw [List.getElem?_eq_none_iff.mpr (by rw [List.length_append];exact l)] at e
  cases e
def GB(p w:Addr)(H H':Hp):Prop:= ∀ b o,b≠p->b≠w->H b=some o->H' b=some o
theorem GB.refl(p w:Addr)(H:Hp):GB p w H H:=fun _ _ _ _ h=>h
theorem GB.trans(a:GB p w H H1)(b:GB p w H1 H2):GB p w H H2:=fun c o n1 n2 h=>b c o n1 n2 (a c o n1 n2 h)
theorem SameB.gb(a:SameB p H H'):GB p w H H':=fun b o n _ h=>a b o n h
theorem Same.gb(a:Same H H'):GB p w H H':=fun b o _ _ h=>a b o h
def AF(H:Hp)(a:Addr)(ns:List Str)(m:Nat)(kvs:List (Key × V)):Prop:= ∃ o,H a=some (.frz o (.dK kvs))/\kvs.length<=m/\∀ kv∈kvs,∃ (x k:Str),kv=(Sum.inr x,V.str k)/\k∈ns
def hdD(ps:List (Str × Str))(k:Str):Dat:= .tup [.tup (ps.map fun p=> .tup [.str p.1, .str p.2]), .str k]
def HF(H:Hp)(a:Addr)(ns:List Str)(hds:Hds):Prop:= ∃ o kvs,H a=some (.frz o (.dK kvs))/\kvs.length<=8/\∀ kv∈kvs,∃ (f:Str) (ps:List (Str × Str)) (k:Str),kv.1=Sum.inr f/\Has H kv.2 (hdD ps k)/\ps.length<=3/\(∀ p∈ps,p.2∈ns)/\k∈ns/\hds f=some (ps,k)
def wrD(sA hA lA:Addr)(n:Int):HO:= .dK [(Sum.inr "shapes", .ref sA),(Sum.inr "heads", .ref hA),(Sum.inr "lets", .ref lA),(Sum.inr "left", .int n)]
def Wr(H:Hp)(w:Addr)(ks:List (Str × Shp))(hds:Hds)(lA:Addr):Prop:= ∃ (sA hA:Addr) (ls:List Str) (n:Int),H w=some (wrD sA hA lA n)/\SF H sA ks/\HF H hA (ks.map (·.1)) hds/\H lA=some (.lst (ls.map V.str))/\ls.length<=3
theorem V3(ps:List (Str × Str))(k:Str):(hdD ps k).st=true:=by
 have:∀ ps:List (Str × Str),Dat.sts (ps.map fun p=>Dat.tup [.str p.1, .str p.2])=true:=by
  intro ps
  induction ps with
  | nil=>unfold List.map Dat.sts;rfl
  | cons p ps ih=>rw [List.map_cons];unfold Dat.sts;rw [ih];simp [Dat.st,Dat.sts]
 simp [hdD,Dat.st,Dat.sts,this]
theorem Yv(s:Zy H p)(h:H a=some (.frz o u)):a≠p:=fun e=>by
 obtain ⟨_,_,_,_,h2⟩:=s;rw [e,h2] at h;cases h
theorem Rf(s:Zy H p)(h:H a=some (.dK kvs)):a≠p:=fun e=>by
 obtain ⟨_,_,_,_,h2⟩:=s;rw [e,h2] at h;cases h
theorem YX{ls:List Str}(s:Zy H p)(h:H a=some (.lst (ls.map V.str))):a≠p:=fun e=>by
 obtain ⟨_,_,_,_,h2⟩:=s;rw [e,h2] at h;have h':=Option.some.inj h;injection h' with h3
 cases ls with
 | nil=>cases h3
 | cons l ls=>rw [List.map_cons] at h3;injection h3 with h4 _;cases h4
theorem Wr.ne(g:Wr H w ks hds lA)(s:Zy H p):w≠p:=by
 obtain ⟨_,_,_,_,h,_⟩:=g;exact Rf s h
theorem GB.tk(a:GB p w H H')(s:Zy H p)(g:Wr H w ks hds lA):TK H H':=fun b xs h=>a b _ (Z3 s h) (fun e=>by
 obtain ⟨_,_,_,_,h2,_⟩:=g;rw [e,h2] at h;cases h) h
theorem Wr.ne_frz(g:Wr H w ks hds lA)(h:H a=some (.frz o u)):a≠w:=fun e=>by
 obtain ⟨_,_,_,_,h2,_⟩:=g;rw [e,h2] at h;cases h
theorem Wr.ne_lst(g:Wr H w ks hds lA)(h:H a=some (.lst xs)):a≠w:=fun e=>by
 obtain ⟨_,_,_,_,h2,_⟩:=g;rw [e,h2] at h;cases h
theorem SF.gb(h:SF H a ls)(b:GB p w H H')(s:Zy H p)(g:Wr H w ks hds lA):SF H' a ls:=by
 obtain ⟨o,kvs,h1,h2,h3⟩:=h;exact ⟨o,kvs,b _ _ (Yv s h1) (g.ne_frz h1) h1,h2,fun y sh hs=>let ⟨v,g1,g2⟩:=h3 y sh hs;⟨v,g1,Yh (b.tk s g) _ (Shp.st _) g2⟩⟩
theorem HF.gb(h:HF H a ns hds)(b:GB p w H H')(s:Zy H p)(g:Wr H w ks hds lA):HF H' a ns hds:=by
 obtain ⟨o,kvs,h1,h2,h3⟩:=h;exact ⟨o,kvs,b _ _ (Yv s h1) (g.ne_frz h1) h1,h2,fun kv hk=>let ⟨f,ps,k,e1,e2,e3⟩:=h3 kv hk;⟨f,ps,k,e1,Yh (b.tk s g) _ (V3 _ _) e2,e3⟩⟩
theorem AF.gb(h:AF H a ns m kv)(b:GB p w H H')(s:Zy H p)(g:Wr H w ks hds lA):AF H' a ns m kv:=by
 obtain ⟨o,h1,h2⟩:=h;exact ⟨o,b _ _ (Yv s h1) (g.ne_frz h1) h1,h2⟩
theorem AF.mono(h:AF H a ns m kv)(e:Same H H')(l:m<=m'):AF H' a ns m' kv:=by
 obtain ⟨o,h1,h2,h3⟩:=h;exact ⟨o,e _ _ h1,Nat.le_trans h2 l,h3⟩
theorem HF.mono(h:HF H a ns hds)(e:Same H H'):HF H' a ns hds:=by
 obtain ⟨o,kvs,h1,h2,h3⟩:=h;exact ⟨o,kvs,e _ _ h1,h2,fun kv hk=>let ⟨f,ps,k,e1,e2,e3⟩:=h3 kv hk;⟨f,ps,k,e1,e2.mono e,e3⟩⟩
theorem Wr.mono(g:Wr H w ks hds lA)(e:Same H H'):Wr H' w ks hds lA:=by
 obtain ⟨sA,hA,ls,n,h1,h2,h3,h4,h5⟩:=g;exact ⟨sA,hA,ls,n,e _ _ h1,h2.mono e,h3.mono e,e _ _ h4,h5⟩
theorem Wr.sb(g:Wr H w ks hds lA)(b:SameB p H H')(s:Zy H p):Wr H' w ks hds lA:=by
 have gb:GB p w H H':=b.gb;obtain ⟨sA,hA,ls,n,h1,h2,h3,h4,h5⟩:=id g;exact ⟨sA,hA,ls,n,b _ _ (g.ne s) h1,h2.gb gb s g,h3.gb gb s g,b _ _ (YX s h4) h4,h5⟩
def LN(H:Hp)(l l':Addr):Prop:=l'=l \/ H l'=none
theorem GB.free(a:GB p w H H')(n1:r≠p)(n2:r≠w)(h:H' r=none):H r=none:=by
 cases e:H r with
 | none=>rfl
 | some o=>rw [a r o n1 n2 e] at h;cases h
theorem Wr.la(g:Wr H w ks hds lA):∃ ls:List Str,H lA=some (.lst (ls.map V.str)):=let ⟨_,_,ls,_,_,_,_,h,_⟩:=g;⟨ls,h⟩
theorem LN.trans(a:LN H l l1)(b:LN H1 l1 l2)(g:GB p w H H1)(s:Zy H2 p)(r:Wr H2 w ks hds l2):LN H l l2:=by
 rcases b with b | b
 .rw [b];exact a
 .obtain ⟨ls,h⟩:=r.la
  exact .inr (g.free (YX s h) (r.ne_lst h) b)
theorem Te:∀ {bs:List Bd}{ts:List Str},Dat.sts (Bd.dats bs)=true->Dat.sts (Bd.brs bs ts)=true
 | [],_,_=>by unfold Bd.brs Dat.sts;rfl
 | b::bs, [],_=>by unfold Bd.brs Dat.sts;rfl
 | b::bs,t::ts,h=>by
  unfold Bd.dats Dat.sts at h;rw [Bool.and_eq_true] at h;unfold Bd.brs Dat.sts;rw [Te h.2];simp [Dat.st,Dat.sts,h.1]
mutual
theorem Bd.st:∀ b:Bd,b.dat.st=true
 | .tag t=>by simp [Bd.dat,Dat.st,Dat.sts]
 | .name t=>by simp [Bd.dat,Dat.st,Dat.sts]
 | .pair a b=>by simp [Bd.dat,Dat.st,Dat.sts,Bd.st a,Bd.st b]
 | .one a=>by simp [Bd.dat,Dat.st,Dat.sts,Bd.st a]
 | .other a=>by simp [Bd.dat,Dat.st,Dat.sts,Bd.st a]
 | .choose e ts bs=>by simp [Bd.dat,Dat.st,Dat.sts,Bd.st e,Te (Bd.sts bs)]
 | .ask f as=>by simp [Bd.dat,Dat.st,Dat.sts,Bd.sts as]
 | .letb x k e b=>by simp [Bd.dat,Dat.st,Dat.sts,Bd.st e,Bd.st b]
theorem Bd.sts:∀ bs:List Bd,Dat.sts (Bd.dats bs)=true
 | []=>by unfold Bd.dats Dat.sts;rfl
 | b::bs=>by unfold Bd.dats Dat.sts;rw [Bd.st b,Bd.sts bs];rfl
end
theorem Tl{kvs:List (Key × V)}(h:Zp kvs k=some v):∃ kv∈kvs,kv.1=k/\kv.2=v:=by
 unfold Zp at h
 cases e:kvs.find? (fun kv=>decide (kv.1=k)) with
 | none=>rw [e] at h;cases h
 | some kv=>
  rw [e] at h;exact ⟨kv,List.mem_of_find?_eq_some e,by simpa using List.find?_some e,Option.some.inj h⟩
theorem RC{kvs:List (Key × V)}(h:kv∈kvs):∃ v,Zp kvs kv.1=some v:=by
 unfold Zp
 cases e:kvs.find? (fun q=>decide (q.1=kv.1)) with
 | none=>exact absurd (List.find?_eq_none.mp e kv h) (by simp)
 | some q=>exact ⟨q.2,rfl⟩
theorem Jv:∀ ns:List Str,HasL H (ns.map V.str) (ns.map Dat.str)
 | []=>HasL.nil
 | n::ns=>HasL.cons YG (Jv ns)
theorem Ea{ns:List Str}(h:H a=some (.lst (ns.map V.str))):Has H (.ref a) (.lst (ns.map Dat.str)):=Zx h (Jv ns)
theorem Jc(ns:List Str):(Dat.lst (ns.map Dat.str)).dep<=1:=by
 have:∀ ns:List Str,Dat.deps (ns.map Dat.str)=0:=by
  intro ns
  induction ns with
  | nil=>unfold List.map Dat.deps;rfl
  | cons n ns ih=>rw [List.map_cons];unfold Dat.deps;rw [ih];unfold Dat.dep;rfl
 unfold Dat.dep;rw [this];decide
theorem G5(ds:List Dat):(Dat.lst ds).pq (.lst [])=ds.isEmpty:=by
 unfold Dat.pq
 cases ds with
 | nil=>unfold Dat.pqs;rfl
 | cons d ds=>unfold Dat.pqs;rfl
def GQ(p w:Addr)(ks:List (Str × Shp))(hds:Hds)(kv:List (Key × V))(y:Str)(lA:Addr)(H:Hp)(Q:VK)(m:Nat):Prop:= ∀ (u:V) (H':Hp) (b:Bd) (l':Addr),GB p w H H'->Zy H' p->Wr H' w ks hds l'->LN H lA l'->Has H' u b.dat->b.ok->b.dep<=m->Kd ks hds kv y b->Q u H'
theorem XW(h:H r=some (.tup [.str a, .str b])):Has H (.ref r) (.tup [.str a, .str b]):=Zr h (HasL.cons YG (HasL.cons YG HasL.nil))
theorem JW{r:Int}(r0:0<=r)(r1:r < (xs.length:Nat)):∃ (m:Nat) (v:V),xs[m]?=some v/\atI xs r=some v:=by
 obtain ⟨m,rfl⟩:∃ m:Nat,r=m:=⟨r.toNat,by omega⟩;have hm:m < xs.length:=by omega
 exact ⟨m,xs[m],List.getElem?_eq_getElem hm,Z7 (List.getElem?_eq_getElem hm)⟩
theorem Um{ys:List Str}{m:Nat}(h:(ys.map V.str)[m]?=some v):∃ y,y∈ys/\v= .str y:=by
 rw [List.getElem?_map] at h
 cases e:ys[m]? with
 | none=>rw [e] at h;cases h
 | some y=>rw [e] at h;exact ⟨y,List.mem_of_getElem? e,(Option.some.inj h).symm⟩
theorem Zy.sm(s:Zy H p)(e:Same H H'):Zy H' p:=let ⟨a,b,c,d,h⟩:=s;⟨a,b,c,d,e _ _ h⟩
theorem wr1:Zp [((Sum.inr "shapes" :Key),a),(Sum.inr "heads",b),(Sum.inr "lets",c),(Sum.inr "left",d)] (Sum.inr "shapes")=some a:=rfl
theorem wr2:Zp [((Sum.inr "shapes" :Key),a),(Sum.inr "heads",b),(Sum.inr "lets",c),(Sum.inr "left",d)] (Sum.inr "heads")=some b:=rfl
theorem wr3:Zp [((Sum.inr "shapes" :Key),a),(Sum.inr "heads",b),(Sum.inr "lets",c),(Sum.inr "left",d)] (Sum.inr "lets")=some c:=rfl
theorem wr4:Zp [((Sum.inr "shapes" :Key),a),(Sum.inr "heads",b),(Sum.inr "lets",c),(Sum.inr "left",d)] (Sum.inr "left")=some d:=rfl
theorem Wr.shapes(h:H w=some (wrD sA hA lA n)):Zz H w (.str "shapes") (some (.ref sA)):= .inl ⟨_,Sum.inr "shapes", .inl h,rfl,wr1.symm⟩
theorem Wr.heads(h:H w=some (wrD sA hA lA n)):Zz H w (.str "heads") (some (.ref hA)):= .inl ⟨_,Sum.inr "heads", .inl h,rfl,wr2.symm⟩
theorem Wr.lets(h:H w=some (wrD sA hA lA n)):Zz H w (.str "lets") (some (.ref lA)):= .inl ⟨_,Sum.inr "lets", .inl h,rfl,wr3.symm⟩
theorem Wr.left(h:H w=some (wrD sA hA lA n)):Zz H w (.str "left") (some (.int n)):= .inl ⟨_,Sum.inr "left", .inl h,rfl,wr4.symm⟩
end L2
namespace K4
open PySem L2
section
variable{P:Program}{w:World}{K:W.Frag}{mg:Str->Option Value}{base:Heap}
def Df(P:Program)(w:World)(K:W.Frag)(mg:Str->Option Value)(base:Heap)(n:Nat)(x:Str)(ps:List Str)(sp:Sp):Prop:=
 ∃ (g:Addr) (gd:FuncData),mg x=some (.ref g)/\W.keepIn K (.ref g)=true/\Binds K gd ps []/\ZN P w K mg base CX0 n g gd ps sp
theorem Df.up(d:Df P w K mg base n x ps sp)(h:n<=m):Df P w K mg base m x ps sp:=
 let ⟨g,gd,h1,h2,h3,h4⟩:=d;⟨g,gd,h1,h2,h3,h4.mono h⟩
theorem Xd:ZX ["stream","world","around","kind","names","shape","one"] ["stream","world","around","kind"] (ZL X6):=Zl
theorem Lg:List.Nodup [("name" :Str),"around","kind"]:=by decide +kernel
def VB(n:Nat):Sp:=fun vs H Q _=> ∃ (p w a lA:Addr) (y:Str) (ks:List (Str × Shp)) (hds:Hds) (kv:List (Key × V)) (c d:Str->Nat),vs= [.ref p, .ref w, .ref a, .str y]/\Zy H p/\Wr H w ks hds lA/\AF H a (ks.map (·.1)) 100 kv/\KK 30 c d ks/\y∈ks.map (·.1)/\d y < n/\GQ p w ks hds kv y lA H Q (d y)
theorem Dz(B:Blt mg)(F:Fun K "_law_plain" "_law_plain" X6 f fd)(DT:Df P w K mg base (L + 3 + n) "_law_take" ["stream","many"] Yo)(G:ZN P w K mg base CX0 (L + 3 + n) f fd ["stream","world","around","kind"] (VB n))(bG:Binds K fd ["stream","world","around","kind"] [])(mG:mg "_law_plain" =some (.ref f)):
  ZN P w K mg base CX0 (L + 3 + n + 1) f fd ["stream","world","around","kind"] (VB (n + 1)):=by
 obtain ⟨gt,td',mT,kT,bT,GT⟩:=DT;refine F.ok Xd (fun vs H Q E h=>?_) (fun cdv A outer s H vs Q E hr h=>?_)
 .obtain ⟨p,w,a,lA,y,ks,hds,kv,c,d,rfl,_⟩:=h
  rfl
 obtain ⟨p,wA,a,lA,y,ks,hds,kv,c,d,rfl,hs,hw,ha,kk,hy,hd,q⟩:=h;have hu:=Yg hr;have hr2:=hr.mono (show 2<=L + 3 + n by omega);refine ⟨_,ZC (Xh (i0:=4) ["name"] [2,3] Xd.nd rfl (Or.inl rfl) (Jk (pv 2)) (YI (i:=0) (by decide)) (fun cl C fp s H=>ZO 0 Lg rfl (Or.inl rfl) (Or.inr rfl))
   (fun cl C fp s H=>ZV YL (Ze hu (pv 1) (pv 0) (fun _ _=>rfl)) (pv 2) (Zb _)) (fun cl C fp s H=>pv 0))
  (ZC (Zh (PW.pt (Vn (ZV (G8 hr2) (pv 4) (Z8 ZE) (Zb _)) (VT (ZV Jl (ZM GT hr rfl mT kT bT .nil ZT (ZA (pv 0) (ZA ZG ZE))) ZG (Zb _)))))
   (ZH (ZW (Zs (ZA Zf (ZA (ZY Zm (pv 4) (ZM GT hr rfl mT kT bT .nil ZT (ZA (pv 0) (ZA (Zj Zg rfl B.len PySem.boot_len (ZA (pv 4) ZE)) ZE))) (fun _ _=>rfl)) ZE))))) ZU)
  (ZC (ZZ 5 Xd.nd (Ze hu (Ze hu (pv 1) Zf (fun _ _=>rfl)) (pv 3) (fun _ _=>rfl)))
  (ZC (Zh (ZV YL (ZY Za (pv 5) ZG) Zf (Zb _))
   (ZH (ZW (Zs (ZA Zf (ZA (ZY Za (ZY Za (pv 5) ZG) (ZM GT hr rfl mT kT bT .nil ZT (ZA (pv 0) (ZA (Zj Zg rfl B.len PySem.boot_len (ZA (ZY Za (pv 5) ZG) ZE)) ZE))) (fun _ _=>rfl)) ZE))))) ZU)
  (ZC (ZZ 6 Xd.nd (ZM G hr rfl mG F.kp bG .nil ZT (ZA (pv 0) (ZA (pv 1) (ZA (pv 2) (ZA (ZY Za (pv 5) ZG) ZE))))))
  (ZH (ZW (Zs (ZA Zf (ZA (pv 6) (ZA (ZM G hr rfl mG F.kp bG .nil ZT (ZA (pv 0) (ZA (pv 1) (ZA (pv 2) (ZA (ZY Za (pv 5) ZG) ZE))))) ZE)))))))))),?_⟩
 dsimp only [Ys,Cx.nox,Cx.wish];show let a:=_;let b:=ZQ _ a;let c:=_;let d:=ZQ (Zw _ c _) b;let e:=ZQ _ d;let f:=_;let g:=ZQ (Zw _ f _) e;ZQ _ g _ _ _
 intros
 obtain ⟨o,ha1,ha2,ha3⟩:=id ha;refine ⟨a,o,kv,rfl,ha1,?_⟩;refine Vr kv.length (ZK (by omega)) (fun i vs H'=>H'=H/\vs.length<=i/\∃ ns:List Str,vs=ns.map V.str/\∀ z∈ns,Zp kv (Sum.inr z)=some (.str y)) ⟨rfl,Nat.le_refl _, [],rfl,fun z hz=>nomatch hz⟩ (fun i vs H' z=>z.2.1) ?_ ?_ ?_ ?_
 .rintro i vs H' hi ⟨rfl,_⟩
  exact ⟨ha1,hi⟩
 .rintro vs H' ⟨rfl,_⟩
  exact ⟨ha1,rfl⟩
 .rintro i vs H' x H'' R hi ⟨rfl,z2,ns,rfl,z4⟩ yl rT rF
  obtain ⟨rfl,kv1,hkv,rfl⟩:=yl;have hm:=List.mem_of_getElem? hkv;obtain ⟨x,k,rfl,hk⟩:=ha3 kv1 hm;obtain ⟨v,hv⟩:=RC hm;obtain ⟨kv2,m2,e2,e3⟩:=Tl hv;obtain ⟨x2,k2,rfl,hk2⟩:=ha3 kv2 m2;subst e3;refine ⟨_, .inl ⟨kv,Sum.inr x, .inr ⟨o,ha1⟩,rfl,hv.symm⟩,rfl,_,rfl,?_⟩;refine Yr (fun c1=>rT _ _ ⟨rfl,by simp at z2 |-;omega,ns++ [x],by rw [List.map_append];rfl,fun z hz=>?_⟩) (fun c1=>rF _ ⟨rfl,by omega,ns,rfl,z4⟩);rcases List.mem_append.mp hz with hz | hz
  .exact z4 z hz
  .cases List.mem_singleton.mp hz
   have c2:=of_decide_eq_true c1;rw [hv];exact congrArg some c2
 rintro vs H' r1 ⟨rfl,z2,ns,rfl,z4⟩ hr1;have s1:=ZF hr1 (.lst (ns.map V.str));have g1:upd H' r1 (.lst (ns.map V.str)) r1=some (.lst (ns.map V.str)):=ZD;generalize upd H' r1 (.lst (ns.map V.str))=H1 at s1 g1 |-;dsimp only [Yi];refine Vi (fun U' H2=>GB p wA H' H2/\Zy H2 p/\Wr H2 wA ks hds lA/\AF H2 a (ks.map (·.1)) 100 kv/\U'= [some (.ref p),some (.ref wA),some (.ref a),some (.str y),some (.ref r1),none,none]) ?_ ?_
 .rintro U' H2 ⟨gb,st,wr,af,rfl⟩
  obtain ⟨sA,hA,ls,nn,hW,hS,_⟩:=id wr;obtain ⟨sh,hsh⟩:=Yj hy;have k1:=kk.at hsh;obtain ⟨o2,kvs2,h1,h2,h3⟩:=hS;obtain ⟨v,hv,hvd⟩:=h3 y sh hsh;refine ⟨_,Wr.shapes hW,v, .inl ⟨kvs2,Sum.inr y, .inr ⟨o2,h1⟩,rfl,hv.symm⟩,?_⟩
  cases sh with
  | tags ts=>
   obtain ⟨t1,t2,t3,t4,t5⟩:=k1;obtain ⟨ps,l,rfl,hp,hl⟩:=Va hvd;have ll:(ts.map V.str).length=ts.length:=List.length_map _;refine ⟨_,_,SqT.of hp,rfl,rfl,_,rfl,Yb (by decide +kernel) ?_⟩;refine ⟨_,_,SqT.of hp,rfl,_,_,SqT.of hp,rfl,l,_,rfl, .inr (SqT.of hl),p,_,rfl,st,by omega,by omega,fun r H3 r0 r1' b3 s3=>?_⟩;obtain ⟨m,v,hv1,hv2⟩:=JW r0 r1';obtain ⟨z,hz,rfl⟩:=Um hv1;have gb3:GB p wA H2 H3:=b3.sb.gb;refine ⟨_,_,SqT.of (gb3.tk st wr _ _ hl),hv2,sl 2,fun t ht=>?_⟩;have s4:=ZF ht (.tup [.str "tag", .str z]);exact (fun kd=>q _ _ (.tag z) lA ((gb.trans gb3).trans s4.gb) (s3.sm s4) ((wr.sb b3.sb st).mono s4) (.inl rfl) (by unfold Bd.dat;exact XW ZD) (by unfold Bd.ok;trivial) (by unfold Bd.dep;exact Nat.zero_le _) kd) (Kd.tag hsh hz)
  | pair e g=>
   obtain ⟨t1,t2,t3,t4,t5,t6⟩:=k1;obtain ⟨ps,rfl,hp⟩:=Y5 hvd;refine ⟨_,_,SqT.of hp,rfl,rfl,_,rfl,Zk (by decide +kernel) ?_⟩;refine ⟨_,_,SqT.of hp,rfl,p,wA,a,lA,e,ks,hds,kv,c,d,rfl,st,wr,af,kk,t1,by omega,fun u1 H3 b1 l1 gb1 st1 wr1 ln1 hu1 ok1 dp1 kd1=>?_⟩;refine ⟨_,_,SqT.of (gb1.tk st wr _ _ hp),rfl,p,wA,a,l1,g,ks,hds,kv,c,d,rfl,st1,wr1,af.gb gb1 st wr,kk,t2,by omega,fun u2 H4 b2 l2 gb2 st2 wr2 ln2 hu2 ok2 dp2 kd2=>?_⟩;refine ⟨sl 3,fun t ht=>?_⟩;have s5:=ZF ht (.tup [.str "pair",u1,u2]);refine q _ _ (.pair b1 b2) l2 (((gb.trans gb1).trans gb2).trans s5.gb) (st2.sm s5) (wr2.mono s5) (LN.trans (.inl rfl) (ln1.trans ln2 gb1 st2 wr2) gb st2 wr2) ?_ (by unfold Bd.ok;exact ⟨ok1,ok2⟩) (by unfold Bd.dep;omega) (Kd.pair hsh kd1 kd2);unfold Bd.dat;exact Zr ZD (HasL.cons YG (HasL.cons ((Yh (gb2.tk st1 wr1) _ (Bd.st _) hu1).mono s5) (HasL.one (hu2.mono s5))))
 .intro N key
  refine ⟨sl 0,fun e1 he1=>?_⟩;have s2:=ZF he1 (.lst []);have g2:=s2 _ _ g1;have ge:upd H1 e1 (.lst []) e1=some (.lst []):=ZD;generalize upd H1 e1 (.lst [])=H2 at s2 g2 ge |-;have s02:=s1.trans s2;refine ⟨.lst (ns.map Dat.str), .lst [],Ea g2,Zx ge HasL.nil,Jc _,_,rfl,?_⟩;rw [G5]
  cases ns with
  | nil=>exact Zk (by simp) (Zk (by simp) (key _ _ ⟨s02.gb,hs.sm s02,hw.mono s02,ha.mono s02 (Nat.le_refl _),rfl⟩))
  | cons n1 ns=>
   have ll:((n1::ns).map V.str).length=ns.length + 1:=by simp
   have lk:ns.length + 1<=100:=by rw [ll] at z2;omega
   refine Yb (by simp) ?_;refine ⟨p,3,rfl,hs.sm s02,by decide,by decide,fun r H3 r0 r1' b3 s3=>?_⟩;have st2:=hs.sm s02;have wr2:=hw.mono s02;have gb3:GB p wA H2 H3:=b3.sb.gb;refine ⟨_,rfl,?_⟩;have g3:=b3.sb _ _ (YX st2 g2) g2;refine Yr (fun c1=>?_) (fun c1=>key _ _ ⟨s02.gb.trans gb3,s3,wr2.sb b3.sb st2,(ha.mono s02 (Nat.le_refl _)).gb gb3 st2 wr2,rfl⟩);refine ⟨r1,_,rfl, .inl (SqL.of g3),p,_,rfl,s3,by omega,by omega,fun r' H4 r4 r5 b4 s4=>?_⟩;obtain ⟨m,v,hv1,hv2⟩:=JW r4 r5;obtain ⟨z,hz,rfl⟩:=Um hv1;have wr3':=wr2.sb b3.sb st2;refine ⟨_,_,SqL.of (b4.sb _ _ (YX s3 g3) g3),hv2,sl 2,fun t ht=>?_⟩;have s5:=ZF ht (.tup [.str "name", .str z]);exact q _ _ (.name z) lA (((s02.gb.trans gb3).trans b4.sb.gb).trans s5.gb) (s4.sm s5) ((wr3'.sb b4.sb s3).mono s5) (.inl rfl) (by unfold Bd.dat;exact XW ZD) (by unfold Bd.ok;trivial) (by unfold Bd.dep;exact Nat.zero_le _) (Kd.name (z4 z hz))
end
end K4
namespace L2
open PySem
theorem GQ.le(q:GQ p w ks hds kv y lA H Q m)(h:m'<=m):GQ p w ks hds kv y lA H Q m':=fun u H' b l h1 h2 h3 h4 h5 h6 h7 h8=>q u H' b l h1 h2 h3 h4 h5 h6 (Nat.le_trans h7 h) h8
theorem GQ.go(q:GQ p w ks hds kv y lA H Q m)(g:GB p w H H1)(ln:LN H lA l1):GQ p w ks hds kv y l1 H1 Q m:=fun u H' b l h1 h2 h3 h4 h5 h6 h7 h8=>q u H' b l (g.trans h1) h2 h3 (ln.trans h4 g h2 h3) h5 h6 h7 h8
theorem RT:∀ {bs:List Bd}{ts:List Str}{b:Bd}{t:Str},bs.length=ts.length->Bd.brs (bs++ [b]) (ts++ [t])=Bd.brs bs ts++ [.tup [.str t,b.dat]]
 | [], [],b,t,_=>by simp [Bd.brs]
 | [],_::_,_,_,h=>by simp at h
 | _::_, [],_,_,h=>by simp at h
 | c::bs,s::ts,b,t,h=>by
  have ih:=RT (bs:=bs) (ts:=ts) (b:=b) (t:=t) (by simpa using h);simp only [List.cons_append,Bd.brs,ih]
theorem WF:∀ {bs:List Bd}{b:Bd},Bd.oks bs->b.ok->Bd.oks (bs++ [b])
 | [],b,_,h=>by simp [Bd.oks,h]
 | c::bs,b,h,hb=>by
  unfold Bd.oks at h;simp only [List.cons_append,Bd.oks];exact ⟨h.1,WF h.2 hb⟩
theorem U6:∀ {bs:List Bd}{b:Bd}{m:Nat},Bd.deps bs<=m->b.dep<=m->Bd.deps (bs++ [b])<=m
 | [],b,m,_,h=>by simp [Bd.deps,h]
 | c::bs,b,m,h,hb=>by
  unfold Bd.deps at h;simp only [List.cons_append,Bd.deps];have:=U6 (bs:=bs) (b:=b) (m:=m) (by omega) hb;omega
theorem Wx:∀ {bs:List Bd}{b:Bd},Bd.dats (bs++ [b])=Bd.dats bs++ [b.dat]
 | [],b=>by simp [Bd.dats]
 | c::bs,b=>by simp only [List.cons_append,Bd.dats,Wx (bs:=bs)]
theorem Wr.put(g:Wr H w ks hds lA)(n1:lA≠bl)(n2:w≠bl)(h:H bl=some (.lst xs)):Wr (upd H bl (.lst ys)) w ks hds lA:=by
 obtain ⟨sA,hA,ls,n,h1,h2,h3,h4,h5⟩:=g;have tk:TK H (upd H bl (.lst ys)):=fun b zs e=>by rw [ZI (fun z=>by rw [z,h] at e;cases e)];exact e
 obtain ⟨o,kvs,a1,a2,a3⟩:=h2;obtain ⟨o',kvs',c1,c2,c3⟩:=h3;refine ⟨sA,hA,ls,n,by rw [ZI n2];exact h1,⟨o,kvs,?_,a2,fun y s e=>let ⟨v,e1,e2⟩:=a3 y s e;⟨v,e1,Yh tk _ (Shp.st _) e2⟩⟩,⟨o',kvs',?_,c2,fun kv hk=>let ⟨f,ps,k,e1,e2,e3⟩:=c3 kv hk;⟨f,ps,k,e1,Yh tk _ (V3 _ _) e2,e3⟩⟩,by rw [ZI n1];exact h4,h5⟩
 .rw [ZI (fun z=>by rw [z,h] at a1;cases a1)];exact a1
 .rw [ZI (fun z=>by rw [z,h] at c1;cases c1)];exact c1
theorem AF.put(g:AF H a ns m kv)(h:H bl=some (.lst xs)):AF (upd H bl (.lst ys)) a ns m kv:=by
 obtain ⟨o,a1,a2⟩:=g;exact ⟨o,by rw [ZI (fun z=>by rw [z,h] at a1;cases a1)];exact a1,a2⟩
end L2
namespace K4
open PySem L2
section
variable{w:World}
def spG(n:Nat):Sp:=fun vs H Q _=> ∃ (p w a lA:Addr) (y:Str) (ks:List (Str × Shp)) (hds:Hds) (kv:List (Key × V)) (c d:Str->Nat) (m:Nat),vs= [.ref p, .ref w, .ref a, .str y, .int (n:Nat)]/\Zy H p/\Wr H w ks hds lA/\AF H a (ks.map (·.1)) m kv/\m + n<=12/\KK 30 c d ks/\ks.length<=6/\y∈ks.map (·.1)/\GQ p w ks hds kv y lA H Q (n + 2)
abbrev gps:List Str:= ["stream","world","around","kind","deep"]
theorem LF:ZX ["stream","world","around","kind","deep"] ["stream","world","around","kind","deep"] (ZL NF):=Zl
theorem NQ(F:Fun K "_law_some" "_law_some" NF f fd)(DT:Df P w K mg base L "_law_take" ["stream","many"] Yo)(DP:Df P w K mg base L "_law_plain" ["stream","world","around","kind"] (VB 3))(DB:Df P w K mg base L "_law_body" gps (spG n)):
  ZN P w K mg base CX0 (L + 1) f fd gps (spG n):=by
 obtain ⟨gt,td',mT,kT,bT,GT⟩:=DT;obtain ⟨gp,pd',mP,kP,bP,GP⟩:=DP;obtain ⟨gb,bd',mB,kB,bB,GB'⟩:=DB;refine F.ok LF (fun vs H Q E h=>?_) (fun cdv A outer s H vs Q E hr h=>?_)
 .obtain ⟨p,w,a,lA,y,ks,hds,kv,c,d,m,rfl,_⟩:=h
  rfl
 obtain ⟨p,wA,a,lA,y,ks,hds,kv,c,d,m,rfl,hs,hw,ha,hm,kk,k6,hy,q⟩:=h;refine ⟨_,ZC (Zh (ZV Jl (ZM GT hr rfl mT kT bT .nil ZT (ZA (pv 0) (ZA ZG ZE))) ZG (Zb _))
   (ZH (ZW (ZM GP hr rfl mP kP bP .nil ZT (ZA (pv 0) (ZA (pv 1) (ZA (pv 2) (ZA (pv 3) ZE))))))) ZU)
  (ZH (ZW (ZM GB' hr rfl mB kB bB .nil ZT (ZA (pv 0) (ZA (pv 1) (ZA (pv 2) (ZA (pv 3) (ZA (pv 4) ZE)))))))),?_⟩
 refine ⟨p,3,rfl,hs,by decide,by decide,fun r H1 r0 r1 b1 s1=>?_⟩;have gb1:GB p wA H H1:=b1.sb.gb;have w1:=hw.sb b1.sb hs;have a1:=ha.gb gb1 hs hw;have dy:=kk.small hy;refine ⟨_,rfl,?_⟩;refine Yr (fun c1=>?_) (fun c1=>?_)
 .exact ⟨p,wA,a,lA,y,ks,hds,kv,c,d,rfl,s1,w1,a1.mono (Same.refl _) (by omega),kk,hy,by omega,(q.go gb1 (.inl rfl)).le (by omega)⟩
 .exact ⟨p,wA,a,lA,y,ks,hds,kv,c,d,m,rfl,s1,w1,a1,hm,kk,k6,hy,q.go gb1 (.inl rfl)⟩
theorem V8:ZX ["stream","world","around","kind","deep","flat","own","first","branches","tag"] ["stream","world","around","kind","deep"] (ZL Xg):=Zl
theorem Ob:List.Nodup [("name" :Str),"world"]:=by decide +kernel
theorem Mm{top:Nat}(kk:KK top c d ks)(h:0 < ks.length):∃ y ts,ks[0]?=some (y, .tags ts):=by
 cases ks with
 | nil=>simp at h
 | cons k ks=>
  obtain ⟨y,s⟩:=k;have k1:=kk 0 y s rfl
  cases s with
  | tags ts=>exact ⟨y,ts,rfl⟩
  | pair a b=>exact absurd k1.1 (by simp)
theorem BF(B:Blt mg)(F:Fun K "_law_choose" "_law_choose" Xg f fd)(DT:Df P w K mg base L "_law_take" ["stream","many"] Yo)(DS:Df P w K mg base L "_law_some" gps (spG n))(DB:Df P w K mg base L "_law_body" gps (spG n)):
  ZN P w K mg base CX0 (L + 1) f fd gps (spG (n + 1)):=by
 obtain ⟨gt,td',mT,kT,bT,GT⟩:=DT;obtain ⟨gs,sd',mS,kS,bS,GS⟩:=DS;obtain ⟨gb,bd',mB,kB,bB,GB'⟩:=DB;refine F.ok V8 (fun vs H Q E h=>?_) (fun cdv A outer s H vs Q E hr h=>?_)
 .obtain ⟨p,w,a,lA,y,ks,hds,kv,c,d,m,rfl,_⟩:=h
  rfl
 obtain ⟨p,wA,a,lA,y,ks,hds,kv,c,d,m,rfl,hs,hw,ha,hm,kk,k6,hy,q⟩:=h;have hu:=Yg hr;refine ⟨_,ZC (Xh (i0:=5) ["name"] [1] V8.nd rfl (Or.inl rfl) (Jk (Ze hu (pv 1) Zf (fun _ _=>rfl))) (YI (i:=0) (by decide)) (fun cl C fp s H=>ZO 0 Ob rfl (Or.inl rfl) (Or.inr rfl))
   (fun cl C fp s H=>ZV YL (ZY (r:=UY K) Za (Ze hu (Ze hu (pv 1) Zf (fun _ _=>rfl)) (pv 0) (fun _ _=>rfl)) ZG) Zf (Zb _)) (fun cl C fp s H=>pv 0))
  (ZC (ZZ 6 V8.nd (ZY Zm (pv 5) (ZM GT hr rfl mT kT bT .nil ZT (ZA (pv 0) (ZA (Zj Zg rfl B.len PySem.boot_len (ZA (pv 5) ZE)) ZE))) (fun _ _=>rfl)))
  (ZC (ZZ 7 V8.nd (ZM GS hr rfl mS kS bS .nil ZT (ZA (pv 0) (ZA (pv 1) (ZA (pv 2) (ZA (pv 6) (ZA (Zi Vp (pv 4) ZG) ZE)))))))
  (ZC (ZZ 8 V8.nd (Z8 ZE))
  (ZC (YO PassesOwn.never rfl (Vc (ZY Za (Ze hu (Ze hu (pv 1) Zf (fun _ _=>rfl)) (pv 6) (fun _ _=>rfl)) ZG)) (ZO 9 V8.nd)
   (ZH (YC (Vw PySem.F.plainAttrs_list PySem.F.slot_list_append PySem.F.type_list_append Yf (pv 8) (ZA (Zs (ZA (pv 9) (ZA (ZM GB' hr rfl mB kB bB .nil ZT (ZA (pv 0) (ZA (pv 1) (ZA (pv 2) (ZA (pv 3) (ZA (Zi Vp (pv 4) ZG) ZE)))))) ZE))) ZE)))))
  (ZH (ZW (Zs (ZA Zf (ZA (pv 7) (ZA (Zo Yn rfl B.tuple YZ (ZA (pv 8) ZE)) ZE)))))))))),?_⟩
 dsimp only [Ys,Cx.nox,Cx.wish];show let a:=_;let b:=_;let c:=ZQ (VX _ _ b) a;let d:=ZQ _ c;let e:=ZQ _ d;let f:=ZQ _ e;ZQ _ f _ _ _
 intros
 obtain ⟨sA,hA,ls,nn,hW,hS,_⟩:=id hw;obtain ⟨o,kvs,h1,h2,h3⟩:=id hS;have kl:=TH h2;have en:(((n + 1:Nat):Int) - 1)=((n:Nat):Int):=by omega
 refine ⟨_,Wr.shapes hW,sA,o,kvs,rfl,h1,?_⟩;refine Vr kvs.length (ZK (by omega)) (fun i vs H'=>H'=H/\vs.length<=i/\(0 < i->0 < vs.length)/\∃ ns:List Str,vs=ns.map V.str/\∀ z∈ns,∃ ts,YQ ks z=some (.tags ts)) ⟨rfl,Nat.le_refl _,fun z=>absurd z (by decide), [],rfl,fun z hz=>nomatch hz⟩ (fun i vs H' z=>z.2.1) ?_ ?_ ?_ ?_
 .rintro i vs H' hi ⟨rfl,_⟩
  exact ⟨h1,hi⟩
 .rintro vs H' ⟨rfl,_⟩
  exact ⟨h1,rfl⟩
 .rintro i vs H' x H'' R hi ⟨rfl,z2,z3,ns,rfl,z4⟩ yl rT rF
  obtain ⟨rfl,kv1,hkv,rfl⟩:=yl;obtain ⟨x,s,hx,ek⟩:=Mc h2 hkv;rw [ek];have hxm:x∈ks.map (·.1):=List.mem_map.mpr ⟨(x,s),List.mem_of_getElem? hx,rfl⟩;obtain ⟨sh,hsh⟩:=Yj hxm;obtain ⟨v,hv,hvd⟩:=h3 x sh hsh;refine ⟨_,Wr.shapes hW,v, .inl ⟨kvs,Sum.inr x, .inr ⟨o,h1⟩,rfl,hv.symm⟩,?_⟩
  cases sh with
  | tags ts=>
   obtain ⟨ps,l,rfl,hp,hl⟩:=Va hvd;refine ⟨_,_,SqT.of hp,rfl,rfl,_,rfl,Yb (by decide +kernel) (rT _ _ ⟨rfl,by simp at z2 |-;omega,fun _=>by simp,ns++ [x],by rw [List.map_append];rfl,fun z hz=>?_⟩)⟩;rcases List.mem_append.mp hz with hz | hz
   .exact z4 z hz
   .cases List.mem_singleton.mp hz
    exact ⟨ts,hsh⟩
  | pair e g=>
   obtain ⟨ps,rfl,hp⟩:=Y5 hvd;refine ⟨_,_,SqT.of hp,rfl,rfl,_,rfl,Zk (by decide +kernel) (rF _ ⟨rfl,by omega,fun _=>?_,ns,rfl,z4⟩)⟩
   cases i with
   | zero=>
    obtain ⟨y0,ts,h0⟩:=Mm kk (by omega);have hx2:=Option.some.inj (h0.symm.trans hx);injection hx2 with e1 e2
    have e0:YQ ks y0=some (.tags ts):=by
     cases ks with
     | nil=>simp at h0
     | cons k ks=>
      have h0':k=(y0,Shp.tags ts):=Option.some.inj h0;subst h0';unfold YQ;rw [List.find?_cons];simp
    rw [<-e1,e0] at hsh;cases hsh
   | succ i=>exact z3 (Nat.succ_pos _)
 rintro vs H' r1 ⟨rfl,z2,z3,ns,rfl,z4⟩ hr1;have ll:(ns.map V.str).length=ns.length:=List.length_map _;have l0:=z3 (by rw [kl];obtain ⟨k,hk,_⟩:=List.mem_map.mp hy;exact List.length_pos_of_mem hk);have s1:=ZF hr1 (.lst (ns.map V.str));have g1:upd H' r1 (.lst (ns.map V.str)) r1=some (.lst (ns.map V.str)):=ZD;generalize upd H' r1 (.lst (ns.map V.str))=H1 at s1 g1 |-;have st1:=hs.sm s1;have wr1:=hw.mono s1;have af1:=ha.mono s1 (Nat.le_refl _);refine ⟨r1,_,rfl, .inl (SqL.of g1),p,_,rfl,st1,by omega,by omega,fun r H2 r0 r1' b2 s2=>?_⟩;obtain ⟨mm,v,hv1,hv2⟩:=JW r0 r1';obtain ⟨own,hown,rfl⟩:=Um hv1;obtain ⟨ts,hts⟩:=z4 own hown;have k1:=kk.at hts;obtain ⟨t1,t2,_⟩:=k1;have ho:own∈ks.map (·.1):=List.mem_map.mpr ⟨_,Jg hts,rfl⟩;refine ⟨_,_,SqL.of (b2.sb _ _ (YX st1 g1) g1),hv2,?_⟩;have gb2:GB p wA H1 H2:=b2.sb.gb;have wr2:=wr1.sb b2.sb st1;have af2:=af1.gb gb2 st1 wr1;refine ⟨p,wA,a,lA,own,ks,hds,kv,c,d,m,by dsimp only;rw [en];rfl,s2,wr2,af2,by omega,kk,k6,ho,fun u1 H3 b1 l3 gb3 st3 wr3 ln3 hu3 ok3 dp3 kd3=>?_⟩;refine ⟨sl 0,fun bl hbl=>?_⟩;have s4:=ZF hbl (.lst []);have g4:upd H3 bl (.lst []) bl=some (.lst []):=ZD;have nbp:=st3.ne hbl
 have nbw:bl≠wA:=fun e=>by
  obtain ⟨_,_,_,_,h,_⟩:=id wr3;rw [e,h] at hbl;cases hbl
 have nbl:bl≠l3:=fun e=>by
  obtain ⟨ls,h⟩:=wr3.la;rw [e,h] at hbl;cases hbl
 have g03:GB p wA H' H3:=(s1.gb.trans gb2).trans gb3;have hn:H' bl=none:=g03.free nbp nbw hbl;have ln4:LN H' lA l3:=LN.trans (.inl rfl) ln3 (s1.gb.trans gb2) st3 wr3;generalize upd H3 bl (.lst [])=H4 at s4 g4 |-;have st4:=st3.sm s4;have wr4:=wr3.mono s4;have gb4:GB p wA H' H4:=((s1.gb.trans gb2).trans gb3).trans s4.gb;have af4:=(af2.gb gb3 s2 wr2).mono s4 (Nat.le_refl _);obtain ⟨sA4,hA4,ls4,nn4,hW4,hS4,_⟩:=id wr4;obtain ⟨o4,kvs4,q1,q2,q3⟩:=id hS4;obtain ⟨v4,hv4,hvd4⟩:=q3 own _ hts;obtain ⟨ps,l,rfl,hp,hl⟩:=Va hvd4;refine ⟨_,Wr.shapes hW4,_, .inl ⟨kvs4,Sum.inr own, .inr ⟨o4,q1⟩,rfl,hv4.symm⟩,_,_,SqT.of hp,rfl,⟨_,SqT.of hl⟩,?_⟩
 let I:Nat->St->Hp->Prop:=fun i U Hi=> ∃ li,li≠bl/\LN H' lA li/\GB p wA H' Hi/\Zy Hi p/\Wr Hi wA ks hds li/\AF Hi a (ks.map (·.1)) m kv/\Hi l=some (.tup (ts.map V.str))/\Has Hi u1 b1.dat/\∃ zs bs,Hi bl=some (.lst zs)/\zs.length=i/\HasL Hi zs (Bd.brs bs (ts.take i))/\bs.length=i/\Bd.oks bs/\Bd.deps bs<=n + 2/\(∀ b∈bs,Kd ks hds kv y b)/\∃ z9,
  U= [some (.ref p),some (.ref wA),some (.ref a),some (.str y),some (.int ((n + 1:Nat):Int)),some (.ref r1),some (.str own),some u1,some (.ref bl),z9]
 refine UO (xs:=ts.map V.str) I ⟨l3,Ne.symm nbl,ln4,gb4,st4,wr4,af4,hl,hu3.mono s4, [], [],g4,rfl,by simp [Bd.brs,HasL.nil],rfl,by unfold Bd.oks;trivial,by unfold Bd.deps;exact Nat.zero_le _,(fun b hb=>nomatch hb),_,rfl⟩ (fun i U Hi _ z=>let ⟨_,_,_,_,_,_,_,h,_⟩:=z;SqT.of h) ?_ ?_
 .rintro BB RR i x U Hi hx ⟨li,nli,lni,gi,si,wi,ai,hli,hui,zs,bs,hbl,lz,hzs,lb,okb,db,kdb,z9,rfl⟩
  rw [List.getElem?_map] at hx
  cases ht:ts[i]? with
  | none=>rw [ht] at hx;cases hx
  | some tg=>
   rw [ht] at hx;cases hx;have it:i < ts.length:=(List.getElem?_eq_some_iff.mp ht).1;refine ⟨.inl ⟨rfl,_,SqL.of hbl⟩,p,wA,a,li,y,ks,hds,kv,c,d,m,by dsimp only;rw [en];rfl,si,wi,ai,by omega,kk,k6,hy,fun u2 H5 b2 l5 gb5 st5 wr5 ln5 hu5 ok5 dp5 kd5=>?_⟩;refine ⟨sl 2,fun tt htt=>?_⟩;have s6:=ZF htt (.tup [.str tg,u2]);have g6:upd H5 tt (.tup [.str tg,u2]) tt=some (.tup [.str tg,u2]):=ZD;generalize upd H5 tt (.tup [.str tg,u2])=H6 at s6 g6 |-;have hb6:=s6 _ _ (gb5 _ _ nbp nbw hbl);refine ⟨bl,zs,_,rfl,rfl,hb6,ZK (by omega),?_⟩;have tk6:TK Hi H6:=fun b xs h=>s6 _ _ (gb5.tk si wi b xs h)
   have nl5:l5≠bl:=fun e=>by
    rcases ln5 with z | z
    .exact nli (z.symm.trans e)
    .rw [e,hbl] at z;cases z
   have gb7:GB p wA H' (upd H6 bl (.lst (zs++ [.ref tt]))):=fun b o n1 n2 e=>by
    rw [ZI (ZJ e hn)];exact ((gi.trans gb5).trans s6.gb) b o n1 n2 e
   have tk7:TK H6 (upd H6 bl (.lst (zs++ [.ref tt]))):=fun b xs h=>by rw [ZI (fun e=>by rw [e,hb6] at h;cases h)];exact h
   have wr6:=wr5.mono s6;have st6:=st5.sm s6;have wr7:Wr (upd H6 bl (.lst (zs++ [.ref tt]))) wA ks hds l5:=wr6.put nl5 (Ne.symm nbw) hb6;have af7:AF (upd H6 bl (.lst (zs++ [.ref tt]))) a (ks.map (·.1)) m kv:=((ai.gb gb5 si wi).mono s6 (Nat.le_refl _)).put hb6;have tk8:TK Hi (upd H6 bl (.lst (zs++ [.ref tt]))):=fun b xs h=>tk7 _ _ (tk6 _ _ h);refine ⟨l5,nl5,lni.trans ln5 gi st5 wr5,gb7,st6.keep (ZI (Ne.symm nbp)),wr7,af7,tk8 _ _ hli,Yh tk8 _ (Bd.st _) hui,zs++ [.ref tt],bs++ [b2],ZD,by simp [lz],?_,by simp [lb],WF okb ok5,U6 db dp5,FG kdb kd5,_,rfl⟩;rw [show ts.take (i + 1)=ts.take i++ [tg] from take_snoc ht,RT (by rw [lb,List.length_take];omega)];refine HasL.append (Zv tk8 _ (Te (Bd.sts bs)) hzs) (HasL.one (Zr (tk7 _ _ g6) (HasL.cons YG (HasL.one (Yh (fun b xs h=>tk7 _ _ (s6 _ _ h)) _ (Bd.st _) hu5)))))
 .rintro U Hi ⟨li,nli,lni,gi,si,wi,ai,hli,hui,zs,bs,hbl,lz,hzs,lb,okb,db,kdb,z9,rfl⟩
  rw [List.length_map] at lz lb hzs;rw [List.take_length] at hzs;refine ⟨bl,zs,rfl, .inl ⟨SqL.of hbl,fun t2 ht2=>?_⟩⟩;have s6:=ZF ht2 (.tup zs);have g6:upd Hi t2 (.tup zs) t2=some (.tup zs):=ZD;generalize upd Hi t2 (.tup zs)=H6 at s6 g6 |-;refine ⟨sl 3,fun t3 ht3=>?_⟩;have s7:=ZF ht3 (.tup [.str "choose",u1, .ref t2]);refine q _ _ (.choose b1 ts bs) li ((gi.trans s6.gb).trans s7.gb) ((si.sm s6).sm s7) ((wi.mono s6).mono s7) lni ?_ (by unfold Bd.ok;exact ⟨ok3,by omega,by omega,okb⟩) (by unfold Bd.dep;omega) (Kd.choose hts kd3 lb kdb);unfold Bd.dat;exact Zr ZD (HasL.cons YG (HasL.cons ((hui.mono s6).mono s7) (HasL.one (Zr (s7 _ _ g6) ((hzs.mono s6).mono s7)))))
end
end K4
namespace L2
open PySem
theorem Mg(h:Has H v (hdD ps k)):∃ t l xs,v= .ref t/\H t=some (.tup [.ref l, .str k])/\H l=some (.tup xs)/\HasL H xs (ps.map fun p=> .tup [.str p.1, .str p.2]):=by
 unfold hdD at h;obtain ⟨t,ys,rfl,ht,hl⟩:=Zn h;obtain ⟨x1,r1,rfl,h1,hlA⟩:=ZP hl;obtain ⟨x2,r2,rfl,h2,hlB⟩:=ZP hlA;obtain rfl:=YK hlB;obtain ⟨l,xs,rfl,h3,h4⟩:=Zn h1;obtain rfl:=has_str h2;exact ⟨t,l,xs,rfl,ht,h3,h4⟩
theorem JR(h:Has H v (.tup [.str a, .str b])):∃ t,v= .ref t/\H t=some (.tup [.str a, .str b]):=by
 obtain ⟨t,ys,rfl,ht,hl⟩:=Zn h;obtain ⟨x1,r1,rfl,h1,hlA⟩:=ZP hl;obtain ⟨x2,r2,rfl,h2,hlB⟩:=ZP hlA;obtain rfl:=YK hlB;obtain rfl:=has_str h1;obtain rfl:=has_str h2;exact ⟨t,rfl,ht⟩
end L2
namespace K4
open PySem L2
section
theorem Wn:ZX ["stream","world","around","kind","deep","some","f","given","name","own"] ["stream","world","around","kind","deep"] (ZL Fp):=Zl
theorem Li:List.Nodup [("f" :Str),"world","kind"]:=by decide +kernel
theorem Lc(B:Blt mg)(F:Fun K "_law_ask" "_law_ask" Fp f fd)(DT:Df P w K mg base (L + 2) "_law_take" ["stream","many"] Yo)(DP:Df P w K mg base (L + 2) "_law_plain" ["stream","world","around","kind"] (VB 3))(DS:Df P w K mg base (L + 2) "_law_some" gps (spG n)):
  ZN P w K mg base CX0 (L + 2 + 1) f fd gps (spG (n + 1)):=by
 obtain ⟨gt,td',mT,kT,bT,GT⟩:=DT;obtain ⟨gp,pd',mP,kP,bP,GP⟩:=DP;obtain ⟨gs,sd',mS,kS,bS,GS⟩:=DS;refine F.ok Wn (fun vs H Q E h=>?_) (fun cdv A outer s H vs Q E hr h=>?_)
 .obtain ⟨p,w,a,lA,y,ks,hds,kv,c,d,m,rfl,_⟩:=h
  rfl
 obtain ⟨p,wA,a,lA,y,ks,hds,kv,c,d,m,rfl,hs,hw,ha,hm,kk,k6,hy,q⟩:=h;have hu:=Yg hr;have hr2:=hr.mono (show 2<=L + 2 by omega);refine ⟨_,ZC (Xh (i0:=5) ["f"] [1,3] Wn.nd rfl (Or.inl rfl) (Jk (Ze hu (pv 1) Zf (fun _ _=>rfl))) (YI (i:=0) (by decide)) (fun cl C fp s H=>ZO 0 Li rfl (Or.inl rfl) (Or.inr rfl))
   (fun cl C fp s H=>ZV YL (ZY (r:=UY K) Za (Ze hu (Ze hu (pv 1) Zf (fun _ _=>rfl)) (pv 0) (fun _ _=>rfl)) ZG) (pv 2) (Zb _)) (fun cl C fp s H=>pv 0))
  (ZC (Zh (ZV (G9 hr2) (pv 5) (Z8 ZE) (Zb _)) (ZH (ZW (ZM GP hr rfl mP kP bP .nil ZT (ZA (pv 0) (ZA (pv 1) (ZA (pv 2) (ZA (pv 3) ZE))))))) ZU)
  (ZC (ZZ 6 Wn.nd (ZY Zm (pv 5) (ZM GT hr rfl mT kT bT .nil ZT (ZA (pv 0) (ZA (Zj Zg rfl B.len PySem.boot_len (ZA (pv 5) ZE)) ZE))) (fun _ _=>rfl)))
  (ZC (ZZ 7 Wn.nd (Z8 ZE))
  (ZC (YO PassesOwn.never rfl (Vc (ZY Za (Ze hu (Ze hu (pv 1) Zf (fun _ _=>rfl)) (pv 6) (fun _ _=>rfl)) ZG)) (YR (n:=2) rfl (Zc (ZO 8 Wn.nd) (Zc (ZO 9 Wn.nd) Z9)))
   (ZH (YC (Vw PySem.F.plainAttrs_list PySem.F.slot_list_append PySem.F.type_list_append Yf (pv 7) (ZA (ZM GS hr rfl mS kS bS .nil ZT (ZA (pv 0) (ZA (pv 1) (ZA (pv 2) (ZA (pv 9) (ZA (Zi Vp (pv 4) ZG) ZE)))))) ZE)))))
  (ZH (ZW (Zs (ZA Zf (ZA (pv 6) (ZA (Zo Yn rfl B.tuple YZ (ZA (pv 7) ZE)) ZE)))))))))),?_⟩
 dsimp only [Ys,Cx.nox,Cx.wish];show let a:=_;let b:=_;let c:=ZQ (VX _ _ b) a;let d:=ZQ _ c;let e:=ZQ _ d;let f:=_;let g:=ZQ (Zw _ f _) e;ZQ _ g _ _ _
 intros
 obtain ⟨sA,hA,ls,nn,hW,hS,hH,hL,l3⟩:=id hw;obtain ⟨o,kvs,h1,h2,h3⟩:=id hH;have en:(((n + 1:Nat):Int) - 1)=((n:Nat):Int):=by omega
 refine ⟨_,Wr.heads hW,hA,o,kvs,rfl,h1,?_⟩;refine Vr kvs.length (ZK (by omega)) (fun i vs H'=>H'=H/\vs.length<=i/\∃ ns:List Str,vs=ns.map V.str/\∀ z∈ns,∃ v ps,Zp kvs (Sum.inr z)=some v/\Has H v (hdD ps y)/\ps.length<=3/\(∀ p∈ps,p.2∈ks.map (·.1))/\hds z=some (ps,y)) ⟨rfl,Nat.le_refl _, [],rfl,(fun z hz=>nomatch hz)⟩ (fun i vs H' z=>z.2.1) ?_ ?_ ?_ ?_
 .rintro i vs H' hi ⟨rfl,_⟩
  exact ⟨h1,hi⟩
 .rintro vs H' ⟨rfl,_⟩
  exact ⟨h1,rfl⟩
 .rintro i vs H' x H'' R hi ⟨rfl,z2,ns,rfl,z4⟩ yl rT rF
  obtain ⟨rfl,kv1,hkv,rfl⟩:=yl;have hkm:=List.mem_of_getElem? hkv;obtain ⟨x,_,_,ek,_⟩:=h3 kv1 hkm;obtain ⟨v,hv⟩:=RC hkm;rw [ek] at hv |-;obtain ⟨kv2,m2,e2,e3⟩:=Tl hv;obtain ⟨x2,ps,k,e4,hh,p3,pk,_,hx2⟩:=h3 kv2 m2;rw [e3] at hh;rw [e2] at e4;cases e4;have hh0:=hh;obtain ⟨t,l,xs,rfl,ht,hl,hxs⟩:=Mg hh;refine ⟨_,Wr.heads hW,_, .inl ⟨kvs,Sum.inr x, .inr ⟨o,h1⟩,rfl,hv.symm⟩,_,_,SqT.of ht,rfl,rfl,_,rfl,?_⟩;refine Yr (fun c1=>rT _ _ ⟨rfl,by simp at z2 |-;omega,ns++ [x],by rw [List.map_append];rfl,fun z hz=>?_⟩) (fun c1=>rF _ ⟨rfl,by omega,ns,rfl,z4⟩);rcases List.mem_append.mp hz with hz | hz
  .exact z4 z hz
  .cases List.mem_singleton.mp hz
   have c2:=of_decide_eq_true c1;have c3:k=y:=by injection c2
   subst c3;exact ⟨_,ps,hv,hh0,p3,pk,hx2⟩
 rintro vs H' r1 ⟨rfl,z2,ns,rfl,z4⟩ hr1;have ll:(ns.map V.str).length=ns.length:=List.length_map _;have s1:=ZF hr1 (.lst (ns.map V.str));have g1:upd H' r1 (.lst (ns.map V.str)) r1=some (.lst (ns.map V.str)):=ZD;generalize upd H' r1 (.lst (ns.map V.str))=H1 at s1 g1 |-;refine ⟨sl 0,fun e1 he1=>?_⟩;have s2:=ZF he1 (.lst []);have g2:=s2 _ _ g1;have ge:upd H1 e1 (.lst []) e1=some (.lst []):=ZD;generalize upd H1 e1 (.lst [])=H2 at s2 g2 ge |-;have s02:=s1.trans s2;have st2:=hs.sm s02;have wr2:=hw.mono s02;have af2:=ha.mono s02 (Nat.le_refl _);have dy:=kk.small hy;refine ⟨.lst (ns.map Dat.str), .lst [],Ea g2,Zx ge HasL.nil,Jc _,_,rfl,?_⟩;rw [G5]
 cases ns with
 | nil=>
  refine Yb (by simp) ?_;exact ⟨p,wA,a,lA,y,ks,hds,kv,c,d,rfl,st2,wr2,af2.mono (Same.refl _) (by omega),kk,hy,by omega,(q.go s02.gb (.inl rfl)).le (by omega)⟩
 | cons n1 ns=>
  have l1:((n1::ns).map V.str).length=ns.length + 1:=by simp
  rw [l1] at z2;refine Zk (by simp) ?_;refine ⟨r1,_,rfl, .inl (SqL.of g2),p,_,rfl,st2,by omega,by omega,fun r H3 r0 r1' b3 s3=>?_⟩;obtain ⟨mm,v,hv1,hv2⟩:=JW r0 r1';obtain ⟨fn,hfn,rfl⟩:=Um hv1;obtain ⟨v,ps,hv,hh,p3,pk,hfd⟩:=z4 fn hfn;have gb3:GB p wA H2 H3:=b3.sb.gb;have wr3:=wr2.sb b3.sb st2;have af3:=af2.gb gb3 st2 wr2;refine ⟨_,_,SqL.of (b3.sb _ _ (YX st2 g2) g2),hv2,?_⟩;refine ⟨sl 0,fun bl hbl=>?_⟩;have s4:=ZF hbl (.lst []);have g4:upd H3 bl (.lst []) bl=some (.lst []):=ZD;have nbp:=s3.ne hbl
  have nbw:bl≠wA:=fun e=>by
   obtain ⟨_,_,_,_,h,_⟩:=id wr3;rw [e,h] at hbl;cases hbl
  have nbl:bl≠lA:=fun e=>by
   obtain ⟨ls,h⟩:=wr3.la;rw [e,h] at hbl;cases hbl
  have g03:GB p wA H' H3:=s02.gb.trans gb3;have hn:H' bl=none:=g03.free nbp nbw hbl;generalize upd H3 bl (.lst [])=H4 at s4 g4 |-;have tk4:TK H' H4:=fun b xs h=>s4 _ _ (g03.tk hs hw _ _ h);have hW4:=s4 _ _ (b3.sb _ _ (hw.ne hs) (s02 _ _ hW));have h14:=s4 _ _ (b3.sb _ _ (Yv hs h1) (s02 _ _ h1));obtain ⟨t,l,xs,rfl,ht,hl,hxs⟩:=Mg (Yh tk4 _ (V3 _ _) hh);have lx:=hxs.length;rw [List.length_map] at lx;refine ⟨_,Wr.heads hW4,_, .inl ⟨kvs,Sum.inr fn, .inr ⟨o,h14⟩,rfl,hv.symm⟩,_,_,SqT.of ht,rfl,⟨_,SqT.of hl⟩,?_⟩
  let I:Nat->St->Hp->Prop:=fun i U Hi=> ∃ li,li≠bl/\LN H' lA li/\GB p wA H' Hi/\Zy Hi p/\Wr Hi wA ks hds li/\AF Hi a (ks.map (·.1)) m kv/\Hi l=some (.tup xs)/\HasL Hi xs (ps.map fun p=> .tup [.str p.1, .str p.2])/\∃ zs bs,Hi bl=some (.lst zs)/\zs.length=i/\HasL Hi zs (Bd.dats bs)/\bs.length=i/\Bd.oks bs/\Bd.deps bs<=n + 2/\(∀ (j:Nat) (b:Bd),bs[j]?=some b->∀ p,ps[j]?=some p->Kd ks hds kv p.2 b)/\∃ z8 z9,
   U= [some (.ref p),some (.ref wA),some (.ref a),some (.str y),some (.int ((n + 1:Nat):Int)),some (.ref r1),some (.str fn),some (.ref bl),z8,z9]
  refine UO (xs:=xs) I ⟨lA,Ne.symm nbl, .inl rfl,g03.trans s4.gb,s3.sm s4,wr3.mono s4,af3.mono s4 (Nat.le_refl _),hl,hxs, [], [],g4,rfl,by simp [Bd.dats,HasL.nil],rfl,by unfold Bd.oks;trivial,by unfold Bd.deps;exact Nat.zero_le _,(fun j b e=>nomatch e),_,_,rfl⟩ (fun i U Hi _ z=>let ⟨_,_,_,_,_,_,_,h,_⟩:=z;SqT.of h) ?_ ?_
  .rintro BB RR i x U Hi hx ⟨li,nli,lni,gi,si,wi,ai,hli,hxi,zs,bs,hbl,lz,hzs,lb,okb,db,kdb,z8,z9,rfl⟩
   obtain ⟨dd,hd1,hd2⟩:=hxi.get hx;rw [List.getElem?_map] at hd1
   cases hp:ps[i]? with
   | none=>rw [hp] at hd1;cases hd1
   | some pr=>
    rw [hp] at hd1;cases hd1;have ip:i < ps.length:=(List.getElem?_eq_some_iff.mp hp).1;obtain ⟨t2,rfl,ht2⟩:=JR hd2;have ho:=pk pr (List.mem_of_getElem? hp);refine ⟨_,SqT.of ht2,rfl,?_⟩;refine ⟨.inl ⟨rfl,_,SqL.of hbl⟩,p,wA,a,li,pr.2,ks,hds,kv,c,d,m,by dsimp only;rw [en];rfl,si,wi,ai,by omega,kk,k6,ho,fun u2 H5 b2 l5 gb5 st5 wr5 ln5 hu5 ok5 dp5 kd5=>?_⟩;have hb5:=gb5 _ _ nbp nbw hbl;refine ⟨bl,zs,_,rfl,rfl,hb5,ZK (by omega),?_⟩
    have nl5:l5≠bl:=fun e=>by
     rcases ln5 with z | z
     .exact nli (z.symm.trans e)
     .rw [e,hbl] at z;cases z
    have gb7:GB p wA H' (upd H5 bl (.lst (zs++ [u2]))):=fun b o n1 n2 e=>by
     rw [ZI (ZJ e hn)];exact (gi.trans gb5) b o n1 n2 e
    have tk7:TK H5 (upd H5 bl (.lst (zs++ [u2]))):=fun b xs h=>by rw [ZI (fun e=>by rw [e,hb5] at h;cases h)];exact h
    have tk8:TK Hi (upd H5 bl (.lst (zs++ [u2]))):=fun b xs h=>tk7 _ _ (gb5.tk si wi _ _ h);refine ⟨l5,nl5,lni.trans ln5 gi st5 wr5,gb7,st5.keep (ZI (Ne.symm nbp)),wr5.put nl5 (Ne.symm nbw) hb5,(ai.gb gb5 si wi).put hb5,tk8 _ _ hli,?_,zs++ [u2],bs++ [b2],ZD,by simp [lz],?_,by simp [lb],WF okb ok5,U6 db dp5,Eo kdb (fun p e=>by rw [lb,hp] at e;cases Option.some.inj e;exact kd5),_,_,rfl⟩
    .have:=V3 ps y
     unfold hdD Dat.st Dat.sts at this;rw [Bool.and_eq_true] at this;refine Zv tk8 _ ?_ hxi;have t1:=this.1;unfold Dat.st at t1;exact t1
    .rw [Wx]
     exact HasL.append (Zv tk8 _ (Bd.sts bs) hzs) (HasL.one (Yh tk7 _ (Bd.st _) hu5))
  .rintro U Hi ⟨li,nli,lni,gi,si,wi,ai,hli,hxi,zs,bs,hbl,lz,hzs,lb,okb,db,kdb,z8,z9,rfl⟩
   refine ⟨bl,zs,rfl, .inl ⟨SqL.of hbl,fun t2 ht2=>?_⟩⟩;have s6:=ZF ht2 (.tup zs);have g6:upd Hi t2 (.tup zs) t2=some (.tup zs):=ZD;generalize upd Hi t2 (.tup zs)=H6 at s6 g6 |-;refine ⟨sl 3,fun t3 ht3=>?_⟩;have s7:=ZF ht3 (.tup [.str "ask", .str fn, .ref t2]);refine q _ _ (.ask fn bs) li ((gi.trans s6.gb).trans s7.gb) ((si.sm s6).sm s7) ((wi.mono s6).mono s7) lni ?_ (by unfold Bd.ok;exact ⟨by omega,okb⟩) (by unfold Bd.dep;omega) (Kd.ask hfd (by omega) (fun j b p e1 e2=>kdb j b e1 p e2));unfold Bd.dat;exact Zr ZD (HasL.cons YG (HasL.cons YG (HasL.one (Zr (s7 _ _ g6) ((hzs.mono s6).mono s7)))))
end
end K4
namespace L2
open PySem
theorem Same.putN(s:Same H0 H)(h:H0 p=none):Same H0 (upd H p o):=fun b u e=>by
 rw [ZI (ZJ e h)];exact s b u e
def sgD(q:Str × Str):Dat:= .tup [.str q.1, .str q.2]
theorem Bz:∀ qs:List (Str × Str),Dat.sts (qs.map sgD)=true
 | []=>by unfold List.map Dat.sts;rfl
 | q::qs=>by rw [List.map_cons];unfold Dat.sts;rw [Bz qs];simp [sgD,Dat.st,Dat.sts]
theorem LE(qs:List (Str × Str)):(Dat.lst (qs.map sgD)).dep<=2:=by
 have:∀ qs:List (Str × Str),Dat.deps (qs.map sgD)<=1:=by
  intro qs
  induction qs with
  | nil=>unfold List.map Dat.deps;exact Nat.zero_le _
  | cons q qs ih=>
   rw [List.map_cons];unfold Dat.deps;have e:(sgD q).dep=1:=by simp [sgD,Dat.dep,Dat.deps]
   omega
 have:=this qs;unfold Dat.dep;omega
def PtK(ks:List (Str × Shp))(y:Str)(q:Str × Str):Prop:=(q.1="one" /\∃ b,YQ ks q.2=some (.pair y b)) \/ (q.1="other" /\∃ a,YQ ks q.2=some (.pair a y))
def SM(ks:List (Str × Shp))(y:Str)(H:Hp)(bl:Addr)(ns:List Str)(k:Nat)(Hi:Hp):Prop:=Same H Hi/\∃ (zs:List V) (qs:List (Str × Str)),Hi bl=some (.lst zs)/\zs.length=qs.length/\zs.length<=k/\HasL Hi zs (qs.map sgD)/\∀ q∈qs,PtK ks y q/\q.2∈ns
theorem SM.app(s:SM ks y H bl ns k Hi)(hn:H bl=none)(h1:PtK ks y (sg,nm))(h2:nm∈ns)(ht:Hi tt=none)(hz:Hi bl=some (.lst zs)):
  SM ks y H bl ns (k + 1) (upd (upd Hi tt (.tup [.str sg, .str nm])) bl (.lst (zs++ [.ref tt]))):=by
 obtain ⟨sm,zs',qs,a1,a2,a3,a4,a5⟩:=s;rw [hz] at a1;have a1':=Option.some.inj a1;injection a1' with e;subst e;have s1:=ZF ht (.tup [.str sg, .str nm]);have g1:upd Hi tt (.tup [.str sg, .str nm]) tt=some (.tup [.str sg, .str nm]):=ZD;have hb:=s1 _ _ hz;generalize upd Hi tt (.tup [.str sg, .str nm])=H6 at s1 g1 hb |-;have tk7:TK H6 (upd H6 bl (.lst (zs++ [.ref tt]))):=fun b xs h=>by rw [ZI (fun e=>by rw [e,hb] at h;cases h)];exact h
 refine ⟨(sm.trans s1).putN hn,zs++ [.ref tt],qs++ [(sg,nm)],ZD,by simp [a2],by simp;omega,?_,fun q hq=>?_⟩
 .rw [List.map_append]
  exact HasL.append (Zv (fun b xs h=>tk7 _ _ (s1 _ _ h)) _ (Bz qs) a4) (HasL.one (XW (tk7 _ _ g1)))
 .rcases List.mem_append.mp hq with hq | hq
  .exact a5 q hq
  .cases List.mem_singleton.mp hq
   exact ⟨h1,h2⟩
theorem SM.up(s:SM ks y H bl ns k Hi)(h:k<=k'):SM ks y H bl ns k' Hi:=let ⟨a,zs,qs,b,c,d,e⟩:=s;⟨a,zs,qs,b,c,Nat.le_trans d h,e⟩
end L2
namespace K4
open PySem L2
section
theorem Jx:ZX ["stream","world","around","kind","deep","some","name","shape","sign","own"] ["stream","world","around","kind","deep"] (ZL Gk):=Zl
theorem D1(B:Blt mg)(F:Fun K "_law_part" "_law_part" Gk f fd)(DT:Df P w K mg base (L + 3) "_law_take" ["stream","many"] Yo)(DC:Df P w K mg base (L + 3) "_law_choose" gps (spG (n + 1)))(DB:Df P w K mg base (L + 3) "_law_body" gps (spG n)):
  ZN P w K mg base CX0 (L + 3 + 1) f fd gps (spG (n + 1)):=by
 obtain ⟨gt,td',mT,kT,bT,GT⟩:=DT;obtain ⟨gc,cd',mC,kC,bC,GC⟩:=DC;obtain ⟨gb,bd',mB,kB,bB,GB'⟩:=DB;refine F.ok Jx (fun vs H Q E h=>?_) (fun cdv A outer s H vs Q E hr h=>?_)
 .obtain ⟨p,w,a,lA,y,ks,hds,kv,c,d,m,rfl,_⟩:=h
  rfl
 obtain ⟨p,wA,a,lA,y,ks,hds,kv,c,d,m,rfl,hs,hw,ha,hm,kk,k6,hy,q⟩:=h;have hu:=Yg hr;have hr3:=hr.mono (show 3<=L + 3 by omega);refine ⟨_,ZC (ZZ 5 Jx.nd (Z8 ZE))
  (ZC (YO PassesOwn.never rfl (Jk (Ze hu (pv 1) Zf (fun _ _=>rfl))) (ZO 6 Jx.nd)
   (ZC (ZZ 7 Jx.nd (Ze hu (Ze hu (pv 1) Zf (fun _ _=>rfl)) (pv 6) (fun _ _=>rfl)))
   (ZC (Zh (PW.pt (Vn (ZV YL (ZY Za (pv 7) ZG) Zf (Zb _)) (VT (ZV YL (ZY Za (pv 7) ZG) (pv 3) (Zb _)))))
    (ZH (YC (Vw PySem.F.plainAttrs_list PySem.F.slot_list_append PySem.F.type_list_append Yf (pv 5) (ZA (Zs (ZA Zf (ZA (pv 6) ZE))) ZE)))) ZU)
   (ZH (Zh (PW.pt (Vn (ZV YL (ZY Za (pv 7) ZG) Zf (Zb _)) (VT (ZV YL (ZY Za (pv 7) ZG) (pv 3) (Zb _)))))
    (ZH (YC (Vw PySem.F.plainAttrs_list PySem.F.slot_list_append PySem.F.type_list_append Yf (pv 5) (ZA (Zs (ZA Zf (ZA (pv 6) ZE))) ZE)))) ZU)))))
  (ZC (Zh (ZV (G9 hr3) (pv 5) (Z8 ZE) (Zb _)) (ZH (ZW (ZM GC hr rfl mC kC bC .nil ZT (ZA (pv 0) (ZA (pv 1) (ZA (pv 2) (ZA (pv 3) (ZA (pv 4) ZE)))))))) ZU)
  (ZC (Vo (ZY Zm (pv 5) (ZM GT hr rfl mT kT bT .nil ZT (ZA (pv 0) (ZA (Zj Zg rfl B.len PySem.boot_len (ZA (pv 5) ZE)) ZE))) (fun _ _=>rfl)) (YR (n:=2) rfl (Zc (ZO 8 Jx.nd) (Zc (ZO 9 Jx.nd) Z9))))
  (ZH (ZW (Zs (ZA (pv 8) (ZA (ZM GB' hr rfl mB kB bB .nil ZT (ZA (pv 0) (ZA (pv 1) (ZA (pv 2) (ZA (pv 9) (ZA (Zi Vp (pv 4) ZG) ZE)))))) ZE)))))))),?_⟩
 dsimp only [Ys,Cx.nox,Cx.wish];show let a:=_;let b:=ZQ _ a;let c:=_;let d:=ZQ (Zw _ c _) b;let e:=_;let f:=Zw _ e _;let g:=_;let h:=ZQ (Zw _ g _) f;let i:=ZQ _ h;let j:=ZQ (VX _ _ i) d;ZQ _ j _ _ _
 intros
 have en:(((n + 1:Nat):Int) - 1)=((n:Nat):Int):=by omega
 refine ⟨sl 0,fun bl hbl=>?_⟩;have s1:=ZF hbl (.lst []);have g1:upd H bl (.lst []) bl=some (.lst []):=ZD;generalize upd H bl (.lst [])=H1 at s1 g1 |-;obtain ⟨sA,hA,ls,nn,hW,hS,hH,hL,l3⟩:=id hw;obtain ⟨o,kvs,h1,h2,h3⟩:=id hS;have kl:=TH h2;refine ⟨_,Wr.shapes (s1 _ _ hW),sA,o,kvs,rfl,s1 _ _ h1,?_⟩
 let I:Nat->St->Hp->Prop:=fun i U Hi=>SM ks y H bl (ks.map (·.1)) (2 * i) Hi/\∃ z6 z7,U= [some (.ref p),some (.ref wA),some (.ref a),some (.str y),some (.int ((n + 1:Nat):Int)),some (.ref bl),z6,z7,none,none]
 refine NZ I ⟨⟨s1, [], [],g1,rfl,Nat.le_refl _,HasL.nil,fun q hq=>nomatch hq⟩,_,_,rfl⟩ (fun i U Hi _ z=>z.1.1 _ _ h1) ?_ ?_
 .rintro BB RR i kv U Hi hkv ⟨sm,z6,z7,rfl⟩
  have si:=sm.1;obtain ⟨x,s,hx,ek⟩:=Mc h2 hkv;rw [ek];have hxm:x∈ks.map (·.1):=List.mem_map.mpr ⟨(x,s),List.mem_of_getElem? hx,rfl⟩;obtain ⟨sh,hsh⟩:=Yj hxm;obtain ⟨v,hv,hvd⟩:=h3 x sh hsh;have hvi:=hvd.mono si;have i6:i < 6:=by have:=(List.getElem?_eq_some_iff.mp hkv).1;omega
  refine ⟨_,Wr.shapes (si _ _ hW),v, .inl ⟨kvs,Sum.inr x, .inr ⟨o,si _ _ h1⟩,rfl,hv.symm⟩,?_⟩
  cases sh with
  | tags ts=>
   obtain ⟨ps,l,rfl,hp,hl⟩:=Va hvi;refine ⟨_,_,SqT.of hp,rfl,rfl,_,rfl,Zk (by decide +kernel) (Zk (by decide) ?_)⟩;refine ⟨_,_,SqT.of hp,rfl,rfl,_,rfl,Zk (by decide +kernel) (Zk (by decide) ?_)⟩;exact ⟨sm.up (by omega),_,_,rfl⟩
  | pair e g=>
   obtain ⟨ps,rfl,hp⟩:=Y5 hvi;dsimp only [Yi];refine Vi (fun U' H2=>SM ks y H bl (ks.map (·.1)) (2 * i + 1) H2/\H2 ps=some (.tup [.str "pair", .str e, .str g])/\U'= [some (.ref p),some (.ref wA),some (.ref a),some (.str y),some (.int ((n + 1:Nat):Int)),some (.ref bl),some (.str x),some (.ref ps),none,none]) ?_ ?_
   .rintro U' H2 ⟨sm2,hp2,rfl⟩
    refine ⟨_,_,SqT.of hp2,rfl,rfl,_,rfl,Yb (by decide +kernel) ?_⟩;refine ⟨_,_,SqT.of hp2,rfl,rfl,_,rfl,?_⟩;refine Yr (fun c1=>?_) (fun c1=>⟨sm2.up (by omega),_,_,rfl⟩);have c2:g=y:=by have:=of_decide_eq_true c1;injection this
    obtain ⟨_,zs,qs,a1,a2,a3,_⟩:=id sm2;refine ⟨.inl ⟨rfl,_,SqL.of a1⟩,sl 2,fun tt htt=>?_⟩;refine ⟨bl,zs,_,rfl,rfl,ZF htt _ _ _ a1,ZK (by omega),?_⟩;exact ⟨(sm2.app hbl (.inr ⟨rfl,e,c2 ▸ hsh⟩) hxm htt a1).up (by omega),_,_,rfl⟩
   .intro N key
    refine ⟨_,_,SqT.of hp,rfl,rfl,_,rfl,Yb (by decide +kernel) ?_⟩;refine ⟨_,_,SqT.of hp,rfl,rfl,_,rfl,?_⟩;refine Yr (fun c1=>?_) (fun c1=>key _ _ ⟨sm.up (by omega),hp,rfl⟩);have c2:e=y:=by have:=of_decide_eq_true c1;injection this
    obtain ⟨_,zs,qs,a1,a2,a3,_⟩:=id sm;refine ⟨.inl ⟨rfl,_,SqL.of a1⟩,sl 2,fun tt htt=>?_⟩;refine ⟨bl,zs,_,rfl,rfl,ZF htt _ _ _ a1,ZK (by omega),?_⟩;refine key _ _ ⟨(sm.app hbl (.inl ⟨rfl,g,c2 ▸ hsh⟩) hxm htt a1).up (by omega),?_,rfl⟩;have hp6:=ZF htt (.tup [.str "one", .str x]) _ _ hp;have a6:=ZF htt (.tup [.str "one", .str x]) _ _ a1;rw [ZI (fun z=>by rw [z,a6] at hp6;cases hp6)];exact hp6
 .rintro U Hi ⟨sm,z6,z7,rfl⟩
  obtain ⟨si,zs,qs,a1,a2,a3,a4,a5⟩:=id sm;refine ⟨sl 0,fun e1 he1=>?_⟩;have s2:=ZF he1 (.lst []);have ge:upd Hi e1 (.lst []) e1=some (.lst []):=ZD;generalize upd Hi e1 (.lst [])=H2 at s2 ge |-;have s02:=si.trans s2;have st2:=hs.sm s02;have wr2:=hw.mono s02;have af2:=ha.mono s02 (Nat.le_refl _);refine ⟨.lst (qs.map sgD), .lst [],Zx (s2 _ _ a1) (a4.mono s2),Zx ge HasL.nil,LE _,_,rfl,?_⟩;rw [G5]
  cases qs with
  | nil=>
   refine Yb (by simp) ?_;exact ⟨p,wA,a,lA,y,ks,hds,kv,c,d,m,rfl,st2,wr2,af2,hm,kk,k6,hy,q.go s02.gb (.inl rfl)⟩
  | cons q1 qs=>
   have l1:(q1::qs).length=qs.length + 1:=rfl;refine Zk (by simp) ?_;refine ⟨bl,_,rfl, .inl (SqL.of (s2 _ _ a1)),p,_,rfl,st2,by omega,by omega,fun r H3 r0 r1' b3 s3=>?_⟩;obtain ⟨mm,v,hv1,hv2⟩:=JW r0 r1';have gb3:GB p wA H2 H3:=b3.sb.gb
   have nbp:bl≠p:=fun e=>by
    obtain ⟨_,_,_,_,h⟩:=hs;rw [e,h] at hbl;cases hbl
   obtain ⟨dd,hd1,hd2⟩:=(a4.mono s2).get hv1;rw [List.getElem?_map] at hd1
   cases hq:(q1::qs)[mm]? with
   | none=>rw [hq] at hd1;cases hd1
   | some pr=>
    rw [hq] at hd1;cases hd1;obtain ⟨so,ho⟩:=a5 pr (List.mem_of_getElem? hq);obtain ⟨t2,rfl,ht2⟩:=JR hd2;have tk3:=gb3.tk st2 wr2;refine ⟨_,_,SqL.of (b3.sb _ _ nbp (s2 _ _ a1)),hv2,?_⟩;refine ⟨_,SqT.of (tk3 _ _ ht2),rfl,?_⟩;refine ⟨p,wA,a,lA,pr.2,ks,hds,kv,c,d,m,by dsimp only;rw [en];rfl,s3,wr2.sb b3.sb st2,af2.gb gb3 st2 wr2,by omega,kk,k6,ho,fun u5 H5 b5 l5 gb5 st5 wr5 ln5 hu5 ok5 dp5 kd5=>?_⟩;refine ⟨sl 2,fun t3 ht3=>?_⟩;have s7:=ZF ht3 (.tup [.str pr.1,u5]);have ln:LN H lA l5:=LN.trans (.inl rfl) ln5 (s02.gb.trans gb3) st5 wr5;have gb:GB p wA H (upd H5 t3 (.tup [.str pr.1,u5])):=((s02.gb.trans gb3).trans gb5).trans s7.gb;rcases so with ⟨so,sb⟩ | ⟨so,sb⟩
    .refine q _ _ (.one b5) l5 gb (st5.sm s7) (wr5.mono s7) ln ?_ (by unfold Bd.ok;exact ok5) (by unfold Bd.dep;omega) (let ⟨_,e⟩:=sb;Kd.one e kd5)
     unfold Bd.dat;rw [so];exact Zr ZD (HasL.cons YG (HasL.one (by rw [so] at s7;exact hu5.mono s7)))
    .refine q _ _ (.other b5) l5 gb (st5.sm s7) (wr5.mono s7) ln ?_ (by unfold Bd.ok;exact ok5) (by unfold Bd.dep;omega) (let ⟨_,e⟩:=sb;Kd.other e kd5)
     unfold Bd.dat;rw [so];exact Zr ZD (HasL.cons YG (HasL.one (by rw [so] at s7;exact hu5.mono s7)))
end
end K4
namespace L2
open PySem PySem.Spec PyProof.Rows
section
theorem Bg:Y9 X (.builtin "len") (fun xs H Q=> ∃ a kvs,xs= [V.ref a]/\Rd H a (.dK kvs)/\Q (.int kvs.length) H):=by
 intro pins s U H xs us Q I r h;obtain ⟨a,kvs,rfl,ha,q⟩:=h;obtain ⟨u,rfl,ru⟩:=vals1 r;cases ru;exact On I ha fun t s' I'=>⟨.int kvs.length,H,I',⟨t,rfl⟩,q⟩
theorem XR(hc:X.calm=true):Y9 X (.type "list") (fun xs H Q=> ∃ a kvs,xs= [.ref a]/\Rd H a (.dK kvs)/\∀ l,H l=none->Q (.ref l) (upd H l (.lst (kvs.map fun kv=>kV kv.1)))):=by
 intro pins s U H xs us Q I r h;obtain ⟨a,kvs,rfl,ha,q⟩:=h;obtain ⟨u,rfl,ru⟩:=vals1 r;cases ru;obtain ⟨hz,lo,vs,rv,hd⟩:=UE I.hok ha;obtain ⟨ep,hat⟩:=hd.dictAt;have hlen:=rv.length;refine W.kdl_call (W.kdl_dict (knd:=Zq X.prog X.w) (kvs:=vs) (ep:=ep) lo) (I.ok.hd hc) hat (by rw [<-hlen];exact hz) fun h' tk acc c hk hl hacc=>?_;refine ⟨.ref s.heap.objs.size,_,I.laid (o:= .lst (kvs.map fun kv=>kV kv.1)) hk (Nat.le_refl _) ⟨by rw [List.length_map];exact hz,acc.toList,c,?_,by rw [Array.toArray_toList];exact hl⟩,rfl,q _ (I.hok.fresh (Nat.le_refl _))⟩;obtain ⟨hn,hp⟩:=hacc;refine JZ (by simp [hn,hlen]) fun j x u e1 e2=>?_;obtain ⟨k,y,hy,hk'⟩:=hp j u (by rw [<-Array.getElem?_toList];exact e2);rw [List.getElem?_map] at e1
 cases hkv:kvs[j]? with
 | none=>rw [hkv] at e1;cases e1
 | some kv=>
  rw [hkv] at e1;cases e1;have hkeys:=rv.keys;have e3:(kvs.map (·.1))[j]?=(vs.map (·.1))[j]?:=by rw [hkeys]
  rw [List.getElem?_map,List.getElem?_map,hkv,hy] at e3;have e4:kv.1=k:=Option.some.inj e3;have hk2:Y0 kv.1 u=true:=by rw [e4];exact hk'
  rcases Z4 hk2 with ⟨i,t,e5,e6⟩ | ⟨z,t,e5,e6⟩
  .show RelV (kV kv.1) u
   rw [e5,e6];exact ⟨t,rfl⟩
  .show RelV (kV kv.1) u
   rw [e5,e6];exact ⟨t,rfl⟩
theorem WR:Y9 X (.type "dict") (fun xs H Q=> ∃ a kvs,xs= [.ref a]/\Rd H a (.dK kvs)/\∀ l,H l=none->Q (.ref l) (upd H l (.dK kvs))):=by
 intro pins s U H xs us Q I r h;obtain ⟨a,kvs,rfl,ha,q⟩:=h;obtain ⟨u,rfl,ru⟩:=vals1 r;cases ru;obtain ⟨hz,lo,vs,rv,hd⟩:=UE I.hok ha;have hlen:=rv.length;refine kt_call_dict (knd:=Zq X.prog X.w) lo hd (by rw [<-hlen];exact hz) fun h' hd' sb=>?_;refine ⟨.ref s.heap.objs.size,_,I.laid (a:=s.heap.objs.size) (o:= .dK kvs) (fun b o e=>?_) (Nat.le_refl _) (WO hz (beq_eq_false_iff_ne.mpr (Ne.symm (Nat.ne_of_lt I.big))) rv hd'),rfl,q _ (I.hok.fresh (Nat.le_refl _))⟩;exact (sb.2 b (Nat.ne_of_lt (Heap.lt_size e))).trans (Heap.get?_push_of_some _ e)
end
theorem Ld{o:Option V}(h:(!o.isSome)=true):o=none:=by
 cases o with
 | none=>rfl
 | some v=>cases h
theorem RJ:∀ {ls:List Str},nm∈ls->∃ j:Nat,ls[j]?=some nm/\∀ m:Nat,m < j->ls[m]?≠some nm
 | [],h=>nomatch h
 | l::ls,h=>by
  by_cases e:l=nm
  .exact ⟨0,by rw [e];rfl,fun m hm=>absurd hm (by omega)⟩
  .obtain ⟨j,h1,h2⟩:=RJ (ls:=ls) ((List.mem_cons.mp h).resolve_left fun z=>e z.symm)
   refine ⟨j + 1,h1,fun m hm=>?_⟩
   cases m with
   | zero=>exact fun z=>e (Option.some.inj z)
   | succ m=>exact h2 m (by omega)
theorem FO:putK [((Sum.inr "shapes" :Key),a),(Sum.inr "heads",b),(Sum.inr "lets",c),(Sum.inr "left",d)] (Sum.inr "lets") v= [((Sum.inr "shapes" :Key),a),(Sum.inr "heads",b),(Sum.inr "lets",v),(Sum.inr "left",d)]:=rfl
theorem Mz:putK [((Sum.inr "shapes" :Key),a),(Sum.inr "heads",b),(Sum.inr "lets",c),(Sum.inr "left",d)] (Sum.inr "left") v= [((Sum.inr "shapes" :Key),a),(Sum.inr "heads",b),(Sum.inr "lets",c),(Sum.inr "left",v)]:=rfl
theorem Wr.set(g:Wr H w ks hds lA)(e:H w=some (wrD sA hA lA n)){ls:List Str}(n':Int)(h:H l'=some (.lst (ls.map V.str)))(h3:ls.length<=3):Wr (upd H w (wrD sA hA l' n')) w ks hds l':=by
 obtain ⟨sA',hA',ls',m,a1,a2,a3,a4,a5⟩:=g;rw [e] at a1;have z:=Option.some.inj a1;unfold wrD at z;injection z with z1;injection z1 with z2 z3;injection z2 with _ z4;injection z4 with z5;injection z3 with z6 _;injection z6 with _ z7;injection z7 with z8;subst z5 z8;have tk:TK H (upd H w (wrD sA hA l' n')):=fun b zs q=>by rw [ZI (fun z=>by rw [z,e] at q;cases q)];exact q
 obtain ⟨o,kvs,b1,b2,b3⟩:=a2;obtain ⟨o',kvs',c1,c2,c3⟩:=a3;refine ⟨sA,hA,ls,n',ZD,⟨o,kvs,?_,b2,fun y s q=>let ⟨v,e1,e2⟩:=b3 y s q;⟨v,e1,Yh tk _ (Shp.st _) e2⟩⟩,⟨o',kvs',?_,c2,fun kv hk=>let ⟨f,ps,k,e1,e2,e3⟩:=c3 kv hk;⟨f,ps,k,e1,Yh tk _ (V3 _ _) e2,e3⟩⟩,?_,h3⟩
 .rw [ZI (fun z=>by rw [z,e] at b1;cases b1)];exact b1
 .rw [ZI (fun z=>by rw [z,e] at c1;cases c1)];exact c1
 .rw [ZI (fun z=>by rw [z,e] at h;cases h)];exact h
theorem BU:GB p w H (upd H w o):=fun b u _ n2 e=>by rw [ZI n2];exact e
theorem Di{kvs:List (Key × V)}(h:kv∈putK kvs k v):kv∈kvs \/ kv=(k,v):=by
 unfold putK at h
 split at h
 .obtain ⟨q,hq,e⟩:=List.mem_map.mp h
  by_cases z:q.1=k
  .rw [if_pos z] at e;exact .inr (by rw [<-e,z])
  .rw [if_neg z] at e;exact .inl (by rw [<-e];exact hq)
 .rcases List.mem_append.mp h with h | h
  .exact .inl h
  .exact .inr (List.mem_singleton.mp h)
theorem WA(kvs:List (Key × V))(k:Key)(v:V):(putK kvs k v).length<=kvs.length + 1:=by
 unfold putK
 split
 .rw [List.length_map];omega
 .rw [List.length_append];exact Nat.le_refl _
end L2
namespace K4
open PySem L2
section
theorem X2:ZX ["stream","world","around","kind","deep","names","name","lets","own","inner","first"] ["stream","world","around","kind","deep"] (ZL Fo):=Zl
theorem Oa:List.Nodup [("one" :Str),"around"]:=by decide +kernel
theorem La(B:Blt mg)(F:Fun K "_law_let" "_law_let" Fo f fd)(DT:Df P w K mg base (L + 3) "_law_take" ["stream","many"] Yo)(DC:Df P w K mg base (L + 3) "_law_choose" gps (spG (n + 1)))(DB:Df P w K mg base (L + 3) "_law_body" gps (spG n)):
  ZN P w K mg base CX0 (L + 3 + 1) f fd gps (spG (n + 1)):=by
 obtain ⟨gt,td',mT,kT,bT,GT⟩:=DT;obtain ⟨gc,cd',mC,kC,bC,GC⟩:=DC;obtain ⟨gb,bd',mB,kB,bB,GB'⟩:=DB;refine F.ok X2 (fun vs H Q E h=>?_) (fun cdv A outer s H vs Q E hr h=>?_)
 .obtain ⟨p,w,a,lA,y,ks,hds,kv,c,d,m,rfl,_⟩:=h
  rfl
 obtain ⟨p,wA,a,lA,y,ks,hds,kv,c,d,m,rfl,hs,hw,ha,hm,kk,k6,hy,q⟩:=h;have hu:=Yg hr;have hr3:=hr.mono (show 2<=L + 3 by omega);refine ⟨_,ZC (Xh (i0:=5) ["one"] [2] X2.nd rfl (Or.inl rfl) (Z6 (Ze hu (pv 1) Zf (fun _ _=>rfl))) (YI (i:=0) (by decide)) (fun cl C fp s H=>ZO 0 Oa rfl (Or.inl rfl) (Or.inr rfl))
   (fun cl C fp s H=>V0 (Jz hu (pv 0) (pv 1))) (fun cl C fp s H=>pv 0))
  (ZC (Zh (ZV (G9 hr3) (pv 5) (Z8 ZE) (Zb _)) (ZH (ZW (ZM GC hr rfl mC kC bC .nil ZT (ZA (pv 0) (ZA (pv 1) (ZA (pv 2) (ZA (pv 3) (ZA (pv 4) ZE)))))))) ZU)
  (ZC (ZZ 6 X2.nd (ZY Zm (pv 5) (ZM GT hr rfl mT kT bT .nil ZT (ZA (pv 0) (ZA (Zj Zg rfl B.len PySem.boot_len (ZA (pv 5) ZE)) ZE))) (fun _ _=>rfl)))
  (ZC (ZZ 7 X2.nd (Zo YY rfl B.list YF (ZA (Ze hu (pv 1) Zf (fun _ _=>rfl)) ZE)))
  (ZC (YC (Vw PySem.F.plainAttrs_list PySem.F.slot_list_remove PySem.F.type_list_remove BM (pv 7) (ZA (pv 6) ZE)))
  (ZC (YD hu (pv 1) Zf (pv 7) rfl)
  (ZC (ZZ 8 X2.nd (ZY Zm (Zo (XR rfl) rfl B.list YF (ZA (Ze hu (pv 1) Zf (fun _ _=>rfl)) ZE)) (ZM GT hr rfl mT kT bT .nil ZT (ZA (pv 0) (ZA (Zj Bg rfl B.len PySem.boot_len (ZA (Ze hu (pv 1) Zf (fun _ _=>rfl)) ZE)) ZE))) (fun _ _=>rfl)))
  (ZC (ZZ 9 X2.nd (Zo WR rfl B.dict Y6 (ZA (pv 2) ZE)))
  (ZC (Gz (YD hu (pv 9) (pv 6) (pv 8) rfl))
  (ZC (ZZ 10 X2.nd (ZM GB' hr rfl mB kB bB .nil ZT (ZA (pv 0) (ZA (pv 1) (ZA (pv 9) (ZA (pv 8) (ZA (Zi Vp (pv 4) ZG) ZE)))))))
  (ZH (ZW (Zs (ZA Zf (ZA (pv 6) (ZA (pv 8) (ZA (pv 10) (ZA (ZM GB' hr rfl mB kB bB .nil ZT (ZA (pv 0) (ZA (pv 1) (ZA (pv 9) (ZA (pv 3) (ZA (Zi Vp (pv 4) ZG) ZE)))))) ZE))))))))))))))))),?_⟩
 dsimp only [Ys,Cx.nox,Cx.wish];show let a:=_;let b:=ZQ _ a;let c:=ZQ _ b;let d:=ZQ _ c;let e:=ZQ _ d;let f:=ZQ _ e;let g:=ZQ _ f;let h:=ZQ _ g;let i:=ZQ _ h;let j:=_;let k:=ZQ (Zw _ j _) i;ZQ _ k _ _ _
 intros
 have en:(((n + 1:Nat):Int) - 1)=((n:Nat):Int):=by omega
 obtain ⟨sA,hA,ls,nn,hW,hS,hH,hL,l3⟩:=id hw;obtain ⟨o,kvs,h1,h2,h3⟩:=id hS;obtain ⟨oA,ha1,ha2,ha3⟩:=id ha;have kl:=TH h2;have lls:(ls.map V.str).length=ls.length:=List.length_map _;refine ⟨_,Wr.lets hW,⟨_,SqL.of hL⟩,?_⟩;refine Vr ls.length (ZK (by omega)) (fun i vs H'=>H'=H/\vs.length<=i/\∃ ns:List Str,vs=ns.map V.str/\∀ z∈ns,z∈ls/\Zp kv (Sum.inr z)=none) ⟨rfl,Nat.le_refl _, [],rfl,(fun z hz=>nomatch hz)⟩ (fun i vs H' z=>z.2.1) ?_ ?_ ?_ ?_
 .rintro i vs H' hi ⟨rfl,_⟩
  exact ⟨_, .str ls[i],SqL.of hL,by rw [List.getElem?_map,List.getElem?_eq_getElem hi];rfl⟩
 .rintro vs H' ⟨rfl,_⟩
  exact ⟨_,SqL.of hL,by omega⟩
 .rintro i vs H' x H'' R hi ⟨rfl,z2,ns,rfl,z4⟩ yl rT rF
  obtain ⟨rfl,yy⟩:=yl;obtain ⟨x,hxm,rfl⟩:=Um (yy _ (SqL.of hL));refine ⟨_, .inl ⟨kv,Sum.inr x, .inr ⟨oA,ha1⟩,rfl,rfl⟩,_,rfl,?_⟩;refine Yr (fun c1=>rT _ _ ⟨rfl,by simp at z2 |-;omega,ns++ [x],by rw [List.map_append];rfl,fun z hz=>?_⟩) (fun c1=>rF _ ⟨rfl,by omega,ns,rfl,z4⟩);rcases List.mem_append.mp hz with hz | hz
  .exact z4 z hz
  .cases List.mem_singleton.mp hz
   exact ⟨hxm,Ld c1⟩
 rintro vs H' r1 ⟨rfl,z2,ns,rfl,z4⟩ hr1;have ll:(ns.map V.str).length=ns.length:=List.length_map _;have s1:=ZF hr1 (.lst (ns.map V.str));have g1:upd H' r1 (.lst (ns.map V.str)) r1=some (.lst (ns.map V.str)):=ZD;generalize upd H' r1 (.lst (ns.map V.str))=H1 at s1 g1 |-;refine ⟨sl 0,fun e1 he1=>?_⟩;have s2:=ZF he1 (.lst []);have g2:=s2 _ _ g1;have ge:upd H1 e1 (.lst []) e1=some (.lst []):=ZD;generalize upd H1 e1 (.lst [])=H2 at s2 g2 ge |-;have s02:=s1.trans s2;have st2:=hs.sm s02;have wr2:=hw.mono s02;refine ⟨.lst (ns.map Dat.str), .lst [],Ea g2,Zx ge HasL.nil,Jc _,_,rfl,?_⟩;rw [G5]
 cases ns with
 | nil=>
  refine Yb (by simp) ?_;exact ⟨p,wA,a,lA,y,ks,hds,kv,c,d,m,rfl,st2,wr2,ha.mono s02 (Nat.le_refl _),hm,kk,k6,hy,q.go s02.gb (.inl rfl)⟩
 | cons n1 ns=>
  have l1:((n1::ns).map V.str).length=ns.length + 1:=by simp
  rw [l1] at z2;refine Zk (by simp) ?_;refine ⟨r1,_,rfl, .inl (SqL.of g2),p,_,rfl,st2,by omega,by omega,fun r H3 r0 r1' b3 s3=>?_⟩;obtain ⟨mm,v,hv1,hv2⟩:=JW r0 r1';obtain ⟨nm,hnm,rfl⟩:=Um hv1;have gb3:GB p wA H2 H3:=b3.sb.gb;have g03:GB p wA H' H3:=s02.gb.trans gb3;have wr3:=wr2.sb b3.sb st2;have hW3:=b3.sb _ _ (hw.ne hs) (s02 _ _ hW);have hL3:=b3.sb _ _ (YX hs hL) (s02 _ _ hL);refine ⟨_,_,SqL.of (b3.sb _ _ (YX st2 g2) g2),hv2,?_⟩;refine ⟨_,Wr.lets hW3,lA,_,rfl, .inl (SqL.of hL3),fun l4 hl4=>?_⟩;have s4:=ZF hl4 (.lst (ls.map V.str));have g4:upd H3 l4 (.lst (ls.map V.str)) l4=some (.lst (ls.map V.str)):=ZD;generalize upd H3 l4 (.lst (ls.map V.str))=H4 at s4 g4 |-;obtain ⟨j,hj,hno⟩:=RJ (z4 nm hnm).1;refine ⟨.inl ⟨rfl,_,SqL.of g4⟩,l4,ls,nm,j,rfl,rfl,g4,hj,hno,?_⟩;have s5:Same H3 (upd H4 l4 (.lst ((ls.eraseIdx j).map V.str))):=s4.putN hl4;have g5:upd H4 l4 (.lst ((ls.eraseIdx j).map V.str)) l4=some (.lst ((ls.eraseIdx j).map V.str)):=ZD;generalize upd H4 l4 (.lst ((ls.eraseIdx j).map V.str))=H5 at s5 g5 |-;have wr5:=wr3.mono s5;have hW5:=s5 _ _ hW3;refine ⟨_,VJ.k (k:=Sum.inr "lets") hW5 (ZK (by show 4<=1000;decide)),?_⟩;rw [FO];have wr6:Wr (upd H5 wA (wrD sA hA l4 nn)) wA ks hds l4:=wr5.set hW5 nn g5 (by have:=List.length_eraseIdx_le ls j;omega);have hW6:upd H5 wA (wrD sA hA l4 nn) wA=some (wrD sA hA l4 nn):=ZD;have gb6:GB p wA H5 (upd H5 wA (wrD sA hA l4 nn)):=BU;have st6:Zy (upd H5 wA (wrD sA hA l4 nn)) p:=(s3.sm s5).keep (ZI (Ne.symm (hw.ne hs)));show ZQ _ _ _ _ (upd H5 wA (wrD sA hA l4 nn));generalize upd H5 wA (wrD sA hA l4 nn)=H6 at wr6 hW6 gb6 st6 |-;have g06:GB p wA H' H6:=(g03.trans s5.gb).trans gb6;have np4:l4≠p:=s3.ne hl4;have nw4:l4≠wA:=fun e=>by rw [e,hW3] at hl4;cases hl4
  have ln6:LN H' lA l4:= .inr (g03.free np4 nw4 hl4);have h16:=g06 _ _ (Yv hs h1) (hw.ne_frz h1) h1;have ha6:=g06 _ _ (Yv hs ha1) (hw.ne_frz ha1) ha1;refine ⟨_,Wr.shapes hW6,sA,kvs,rfl, .inr ⟨o,h16⟩,fun l7 hl7=>?_⟩;have s7:=ZF hl7 (.lst (kvs.map fun kv=>kV kv.1));have g7:upd H6 l7 (.lst (kvs.map fun kv=>kV kv.1)) l7=some (.lst (kvs.map fun kv=>kV kv.1)):=ZD;have np7:l7≠p:=st6.ne hl7;generalize upd H6 l7 (.lst (kvs.map fun kv=>kV kv.1))=H7 at s7 g7 |-;have kpos:0 < ks.length:=by obtain ⟨k,hk,_⟩:=List.mem_map.mp hy;exact List.length_pos_of_mem hk
  refine ⟨_,Wr.shapes (s7 _ _ hW6),sA,kvs,rfl, .inr ⟨o,s7 _ _ h16⟩,p,_,rfl,st6.sm s7,by omega,by omega,fun r8 H8 r80 r81 b8 s8=>?_⟩;obtain ⟨m8,v8,hv3,hv4⟩:=JW (xs:=kvs.map fun kv=>kV kv.1) r80 (by rw [List.length_map];exact r81)
  obtain ⟨own,ho,rfl⟩:∃ own,own∈ks.map (·.1)/\v8= .str own:=by
   rw [List.getElem?_map] at hv3
   cases ek:kvs[m8]? with
   | none=>rw [ek] at hv3;cases hv3
   | some kv1=>
    rw [ek] at hv3;obtain ⟨x,s,hx,e2⟩:=Mc h2 ek;refine ⟨x,List.mem_map.mpr ⟨(x,s),List.mem_of_getElem? hx,rfl⟩,?_⟩;have:=(Option.some.inj hv3).symm;rw [this];show kV kv1.1=_;rw [e2];rfl
  refine ⟨_,_,SqL.of (b8.sb _ _ np7 g7),hv4,?_⟩;have gb8:GB p wA H7 H8:=b8.sb.gb;have wr8:=(wr6.mono s7).sb b8.sb (st6.sm s7);have ha8:=gb8 _ _ (Yv (st6.sm s7) (s7 _ _ ha6)) ((wr6.mono s7).ne_frz (s7 _ _ ha6)) (s7 _ _ ha6);refine ⟨a,kv,rfl, .inr ⟨oA,ha8⟩,fun i9 hi9=>?_⟩;have s9:=ZF hi9 (.dK kv);have g9:upd H8 i9 (.dK kv) i9=some (.dK kv):=ZD;generalize upd H8 i9 (.dK kv)=H9 at s9 g9 |-;refine ⟨_,VJ.k (k:=Sum.inr nm) g9 (ZK (by omega)),i9,_,ZD,fun o10=>?_⟩;have s10:Same H8 (upd (upd H9 i9 (.dK (putK kv (Sum.inr nm) (.str own)))) i9 (.frz o10 (.dK (putK kv (Sum.inr nm) (.str own))))):=(s9.putN hi9).putN hi9;have g10:upd (upd H9 i9 (.dK (putK kv (Sum.inr nm) (.str own)))) i9 (.frz o10 (.dK (putK kv (Sum.inr nm) (.str own)))) i9=some (.frz o10 (.dK (putK kv (Sum.inr nm) (.str own)))):=ZD;generalize upd (upd H9 i9 (.dK (putK kv (Sum.inr nm) (.str own)))) i9 (.frz o10 (.dK (putK kv (Sum.inr nm) (.str own))))=H10 at s10 g10 |-
  have af10:AF H10 i9 (ks.map (·.1)) (m + 1) (putK kv (Sum.inr nm) (.str own)):=⟨o10,g10,by have:=WA kv (Sum.inr nm) (.str own);omega,fun k1 hk=>by
   rcases Di hk with z | z
   .exact ha3 k1 z
   .exact ⟨nm,own,z,ho⟩⟩
  have st10:=s8.sm s10;have wr10:=wr8.mono s10;have g10b:GB p wA H' H10:=((g06.trans s7.gb).trans gb8).trans s10.gb;have lnA:LN H' lA l4:=ln6;refine ⟨p,wA,i9,l4,own,ks,hds,_,c,d,m + 1,by dsimp only;rw [en];rfl,st10,wr10,af10,by omega,kk,k6,ho,fun u1 H11 b1 l11 gb11 st11 wr11 ln11 hu11 ok11 dp11 kd11=>?_⟩;refine ⟨p,wA,i9,l11,y,ks,hds,_,c,d,m + 1,by dsimp only;rw [en];rfl,st11,wr11,af10.gb gb11 st10 wr10,by omega,kk,k6,hy,fun u2 H12 b2 l12 gb12 st12 wr12 ln12 hu12 ok12 dp12 kd12=>?_⟩;refine ⟨sl 5,fun t3 ht3=>?_⟩;have s13:=ZF ht3 (.tup [.str "let", .str nm, .str own,u1,u2]);refine q _ _ (.letb nm own b1 b2) l12 (((g10b.trans gb11).trans gb12).trans s13.gb) (st12.sm s13) (wr12.mono s13) (lnA.trans (ln11.trans ln12 gb11 st12 wr12) g10b st12 wr12) ?_ (by unfold Bd.ok;exact ⟨ok11,ok12⟩) (by unfold Bd.dep;omega) (Kd.letb (z4 nm hnm).2 ho kd11 kd12);unfold Bd.dat;exact Zr ZD (HasL.cons YG (HasL.cons YG (HasL.cons YG (HasL.cons ((Yh (gb12.tk st11 wr11) _ (Bd.st _) hu11).mono s13) (HasL.one (hu12.mono s13))))))
end
section
theorem X3:ZX ["stream","world","around","kind","deep","way","shape","one"] ["stream","world","around","kind","deep"] (ZL Tw):=Zl
theorem EH(F:Fun K "_law_body" "_law_body" Tw f fd)(DP:Df P w K mg base L "_law_plain" ["stream","world","around","kind"] (VB 3)):ZN P w K mg base CX0 (L + 1) f fd gps (spG 0):=by
 obtain ⟨gp,pd',mP,kP,bP,GP⟩:=DP;refine F.ok X3 (fun vs H Q E h=>?_) (fun cdv A outer s H vs Q E hr h=>?_)
 .obtain ⟨p,w,a,lA,y,ks,hds,kv,c,d,m,rfl,_⟩:=h
  rfl
 obtain ⟨p,wA,a,lA,y,ks,hds,kv,c,d,m,rfl,hs,hw,ha,hm,kk,k6,hy,q⟩:=h;have hu:=Yg hr;refine ⟨_,ZC (YD hu (pv 1) Zf (Zi Vp (Ze hu (pv 1) Zf (fun _ _=>rfl)) ZG) rfl)
  (ZC (Zh (PW.pt (Vm (ZV YL (pv 4) ZG (Zb _)) (VO (ZV Wo (Ze hu (pv 1) Zf (fun _ _=>rfl)) ZG (Zb _))))) (ZH (ZW (ZM GP hr rfl mP kP bP .nil ZT (ZA (pv 0) (ZA (pv 1) (ZA (pv 2) (ZA (pv 3) ZE))))))) ZU)
  (ZC Z0 (ZC Z0 (ZC Z0 (ZC Z0 (ZC Z0 (ZC Z0 (ZC Z0 (ZH Z0))))))))),?_⟩
 obtain ⟨sA,hA,ls,nn,hW,hS,hH,hL,l3⟩:=id hw;have dy:=kk.small hy;refine ⟨_,Wr.left hW,_,VJ.k (k:=Sum.inr "left") hW (ZK (by show 4<=1000;decide)),?_⟩;rw [Mz];have wr1:Wr (upd H wA (wrD sA hA lA (nn - 1))) wA ks hds lA:=hw.set hW (nn - 1) hL l3;have gb1:GB p wA H (upd H wA (wrD sA hA lA (nn - 1))):=BU;have st1:Zy (upd H wA (wrD sA hA lA (nn - 1))) p:=hs.keep (ZI (Ne.symm (hw.ne hs)));show ZQ _ _ _ _ (upd H wA (wrD sA hA lA (nn - 1)));generalize upd H wA (wrD sA hA lA (nn - 1))=H1 at wr1 gb1 st1 |-;refine ⟨rfl,_,rfl,Yb (by decide) (Yb rfl ?_)⟩;exact ⟨p,wA,a,lA,y,ks,hds,kv,c,d,rfl,st1,wr1,(ha.gb gb1 hs hw).mono (Same.refl _) (by omega),kk,hy,by omega,(q.go gb1 (.inl rfl)).le (by omega)⟩
theorem Ia(F:Fun K "_law_body" "_law_body" Tw f fd)(DT:Df P w K mg base L "_law_take" ["stream","many"] Yo)(DP:Df P w K mg base L "_law_plain" ["stream","world","around","kind"] (VB 3))(DC:Df P w K mg base L "_law_choose" gps (spG (n + 1)))(DR:Df P w K mg base L "_law_part" gps (spG (n + 1)))(DL:Df P w K mg base L "_law_let" gps (spG (n + 1)))(DA:Df P w K mg base L "_law_ask" gps (spG (n + 1)))(DB:Df P w K mg base L "_law_body" gps (spG n)):
  ZN P w K mg base CX0 (L + 1) f fd gps (spG (n + 1)):=by
 obtain ⟨gt,td',mT,kT,bT,GT⟩:=DT;obtain ⟨gp,pd',mP,kP,bP,GP⟩:=DP;obtain ⟨gc,cd',mC,kC,bC,GC⟩:=DC;obtain ⟨gr,rd',mR,kR,bR,GR⟩:=DR;obtain ⟨gl,ld',mL,kL,bL,GL⟩:=DL;obtain ⟨ga,ad',mA,kA,bA,GA⟩:=DA;obtain ⟨gb,bd',mB,kB,bB,GB'⟩:=DB;refine F.ok X3 (fun vs H Q E h=>?_) (fun cdv A outer s H vs Q E hr h=>?_)
 .obtain ⟨p,w,a,lA,y,ks,hds,kv,c,d,m,rfl,_⟩:=h
  rfl
 obtain ⟨p,wA,a,lA,y,ks,hds,kv,c,d,m,rfl,hs,hw,ha,hm,kk,k6,hy,q⟩:=h;have hu:=Yg hr;refine ⟨_,ZC (YD hu (pv 1) Zf (Zi Vp (Ze hu (pv 1) Zf (fun _ _=>rfl)) ZG) rfl)
  (ZC (Zh (PW.pt (Vm (ZV YL (pv 4) ZG (Zb _)) (VO (ZV Wo (Ze hu (pv 1) Zf (fun _ _=>rfl)) ZG (Zb _))))) (ZH (ZW (ZM GP hr rfl mP kP bP .nil ZT (ZA (pv 0) (ZA (pv 1) (ZA (pv 2) (ZA (pv 3) ZE))))))) ZU)
  (ZC (ZZ 5 X3.nd (ZM GT hr rfl mT kT bT .nil ZT (ZA (pv 0) (ZA ZG ZE))))
  (ZC (Zh (ZV YL (pv 5) ZG (Zb _)) (ZH (ZW (ZM GP hr rfl mP kP bP .nil ZT (ZA (pv 0) (ZA (pv 1) (ZA (pv 2) (ZA (pv 3) ZE))))))) ZU)
  (ZC (Zh (ZV Wo (pv 5) ZG (Zb _)) (ZH (ZW (ZM GC hr rfl mC kC bC .nil ZT (ZA (pv 0) (ZA (pv 1) (ZA (pv 2) (ZA (pv 3) (ZA (pv 4) ZE)))))))) ZU)
  (ZC (Zh (ZV Wo (pv 5) ZG (Zb _)) (ZH (ZW (ZM GR hr rfl mR kR bR .nil ZT (ZA (pv 0) (ZA (pv 1) (ZA (pv 2) (ZA (pv 3) (ZA (pv 4) ZE)))))))) ZU)
  (ZC (Zh (ZV YL (pv 5) ZG (Zb _)) (ZH (ZW (ZM GL hr rfl mL kL bL .nil ZT (ZA (pv 0) (ZA (pv 1) (ZA (pv 2) (ZA (pv 3) (ZA (pv 4) ZE)))))))) ZU)
  (ZC (ZZ 6 X3.nd (Ze hu (Ze hu (pv 1) Zf (fun _ _=>rfl)) (pv 3) (fun _ _=>rfl)))
  (ZC (Zh (PW.pt (Vn (ZV YL (ZY Za (pv 6) ZG) Zf (Zb _)) (VT (ZV YL (pv 5) ZG (Zb _)))))
   (ZC (ZZ 7 X3.nd (ZM GB' hr rfl mB kB bB .nil ZT (ZA (pv 0) (ZA (pv 1) (ZA (pv 2) (ZA (ZY Za (pv 6) ZG) (ZA (Zi Vp (pv 4) ZG) ZE)))))))
   (ZH (ZW (Zs (ZA Zf (ZA (pv 7) (ZA (ZM GB' hr rfl mB kB bB .nil ZT (ZA (pv 0) (ZA (pv 1) (ZA (pv 2) (ZA (ZY Za (pv 6) ZG) (ZA (Zi Vp (pv 4) ZG) ZE)))))) ZE))))))) ZU)
  (ZH (ZW (ZM GA hr rfl mA kA bA .nil ZT (ZA (pv 0) (ZA (pv 1) (ZA (pv 2) (ZA (pv 3) (ZA (pv 4) ZE)))))))))))))))),?_⟩
 dsimp only [Ys,Cx.nox,Cx.wish];show let a:=_;let b:=_;let c:=ZQ _ b;let d:=ZQ (Zw _ c _) a;let e:=ZQ _ d;let f:=_;let g:=ZQ (Zw _ f _) e;let h:=_;let i:=ZQ (Zw _ h _) g;let j:=_;let k:=ZQ (Zw _ j _) i;let l:=_;let m:=ZQ (Zw _ l _) k;let n:=ZQ _ m;let o:=_;let p:=ZQ (Zw _ o _) n;ZQ _ p _ _ _
 intros
 obtain ⟨sA,hA,ls,nn,hW,hS,hH,hL,l3⟩:=id hw;have en:(((n + 1:Nat):Int) - 1)=((n:Nat):Int):=by omega
 have dy:=kk.small hy;refine ⟨_,Wr.left hW,_,VJ.k (k:=Sum.inr "left") hW (ZK (by show 4<=1000;decide)),?_⟩;rw [Mz];have wr1:Wr (upd H wA (wrD sA hA lA (nn - 1))) wA ks hds lA:=hw.set hW (nn - 1) hL l3;have gb1:GB p wA H (upd H wA (wrD sA hA lA (nn - 1))):=BU;have st1:Zy (upd H wA (wrD sA hA lA (nn - 1))) p:=hs.keep (ZI (Ne.symm (hw.ne hs)));have hW1:upd H wA (wrD sA hA lA (nn - 1)) wA=some (wrD sA hA lA (nn - 1)):=ZD;show ZQ _ _ _ _ (upd H wA (wrD sA hA lA (nn - 1)));generalize upd H wA (wrD sA hA lA (nn - 1))=H1 at wr1 gb1 st1 hW1 |-;have af1:=ha.gb gb1 hs hw;refine ⟨rfl,_,rfl,Zk (fun z=>by have:=of_decide_eq_true z;injection this;omega) ?_⟩;refine ⟨_,Wr.left hW1,_,rfl,?_⟩;refine Yr (fun c0=>?_) (fun c0=>?_)
 .exact ⟨p,wA,a,lA,y,ks,hds,kv,c,d,rfl,st1,wr1,af1.mono (Same.refl _) (by omega),kk,hy,by omega,(q.go gb1 (.inl rfl)).le (by omega)⟩
 refine ⟨p,12,rfl,st1,by decide,by decide,fun r H2 r0 r1 b2 s2=>?_⟩;have gb2:GB p wA H1 H2:=b2.sb.gb;have wr2:=wr1.sb b2.sb st1;have af2:=af1.gb gb2 st1 wr1;have q2:=q.go (gb1.trans gb2) (.inl rfl);refine ⟨rfl,_,rfl,?_⟩;refine Yr (fun c1=>?_) (fun c1=>?_)
 .exact ⟨p,wA,a,lA,y,ks,hds,kv,c,d,rfl,s2,wr2,af2.mono (Same.refl _) (by omega),kk,hy,by omega,q2.le (by omega)⟩
 refine ⟨_,rfl,?_⟩;refine Yr (fun c2=>?_) (fun c2=>?_)
 .exact ⟨p,wA,a,lA,y,ks,hds,kv,c,d,m,rfl,s2,wr2,af2,hm,kk,k6,hy,q2⟩
 refine ⟨_,rfl,?_⟩;refine Yr (fun c3=>?_) (fun c3=>?_)
 .exact ⟨p,wA,a,lA,y,ks,hds,kv,c,d,m,rfl,s2,wr2,af2,hm,kk,k6,hy,q2⟩
 refine ⟨rfl,_,rfl,?_⟩;refine Yr (fun c4=>?_) (fun c4=>?_)
 .exact ⟨p,wA,a,lA,y,ks,hds,kv,c,d,m,rfl,s2,wr2,af2,hm,kk,k6,hy,q2⟩
 have ask:spG (n + 1) [.ref p, .ref wA, .ref a, .str y, .int ((n + 1:Nat):Int)] H2 Q E0:=⟨p,wA,a,lA,y,ks,hds,kv,c,d,m,rfl,s2,wr2,af2,hm,kk,k6,hy,q2⟩;obtain ⟨sh,hsh⟩:=Yj hy;obtain ⟨sA2,hA2,ls2,nn2,hW2,hS2,_⟩:=id wr2;obtain ⟨o,kvs,h1,h2,h3⟩:=id hS2;obtain ⟨v,hv,hvd⟩:=h3 y sh hsh;have k1:=kk.at hsh;refine ⟨_,Wr.shapes hW2,v, .inl ⟨kvs,Sum.inr y, .inr ⟨o,h1⟩,rfl,hv.symm⟩,?_⟩
 cases sh with
 | tags ts=>
  obtain ⟨ps,l,rfl,hp,hl⟩:=Va hvd;refine ⟨_,_,SqT.of hp,rfl,rfl,_,rfl,Zk (by decide +kernel) (Zk (by decide) ?_)⟩;exact ask
 | pair e g=>
  obtain ⟨t1,t2,t3,t4,t5,t6⟩:=k1;obtain ⟨ps,rfl,hp⟩:=Y5 hvd;refine ⟨_,_,SqT.of hp,rfl,rfl,_,rfl,Yb (by decide +kernel) ?_⟩;refine ⟨rfl,_,rfl,?_⟩;refine Yr (fun c5=>?_) (fun c5=>ask);refine ⟨_,_,SqT.of hp,rfl,p,wA,a,lA,e,ks,hds,kv,c,d,m,by dsimp only;rw [en];rfl,s2,wr2,af2,by omega,kk,k6,t1,fun u1 H3 b1 l3' gb3 st3 wr3 ln3 hu3 ok3 dp3 kd3=>?_⟩;refine ⟨_,_,SqT.of (gb3.tk s2 wr2 _ _ hp),rfl,p,wA,a,l3',g,ks,hds,kv,c,d,m,by dsimp only;rw [en];rfl,st3,wr3,af2.gb gb3 s2 wr2,by omega,kk,k6,t2,fun u2 H4 b2' l4' gb4 st4 wr4 ln4 hu4 ok4 dp4 kd4=>?_⟩;refine ⟨sl 3,fun t ht=>?_⟩;have s5:=ZF ht (.tup [.str "pair",u1,u2]);refine q2 _ _ (.pair b1 b2') l4' ((gb3.trans gb4).trans s5.gb) (st4.sm s5) (wr4.mono s5) (ln3.trans ln4 gb3 st4 wr4) ?_ (by unfold Bd.ok;exact ⟨ok3,ok4⟩) (by unfold Bd.dep;omega) (Kd.pair hsh kd3 kd4);unfold Bd.dat;exact Zr ZD (HasL.cons YG (HasL.cons ((Yh (gb4.tk st3 wr3) _ (Bd.st _) hu3).mono s5) (HasL.one (hu4.mono s5))))
end
section
theorem MO:ZN P w K mg base CX0 L f fd ["stream","world","around","kind"] (VB 0):= .none fun vs H Q E h=>by
 obtain ⟨_,_,_,_,_,_,_,_,_,_,_,_,_,_,_,_,hd,_⟩:=h;exact Nat.not_lt_zero _ hd
theorem WC(B:Blt mg)(DT:∀ n,Df P w K mg base (n + 2) "_law_take" ["stream","many"] Yo)(F:Fun K "_law_plain" "_law_plain" X6 f fd)(bG:Binds K fd ["stream","world","around","kind"] [])(mG:mg "_law_plain" =some (.ref f)):
  ∀ n,ZN P w K mg base CX0 (0 + 3 + n) f fd ["stream","world","around","kind"] (VB n)
 | 0=>MO
 | n + 1=>Dz (L:=0) B F ((DT (1 + n)).up (by omega)) (WC B DT F bG mG n) bG mG
theorem KM(B:Blt mg)(DT:∀ n,Df P w K mg base (n + 2) "_law_take" ["stream","many"] Yo)(FP:Fun K "_law_plain" "_law_plain" X6 fP dP)(bP:Binds K dP ["stream","world","around","kind"] [])(mP:mg "_law_plain" =some (.ref fP))(FS:Fun K "_law_some" "_law_some" NF fS dS)(bS:Binds K dS gps [])(mS:mg "_law_some" =some (.ref fS))(FC:Fun K "_law_choose" "_law_choose" Xg fC dC)(bC:Binds K dC gps [])(mC:mg "_law_choose" =some (.ref fC))(FA:Fun K "_law_ask" "_law_ask" Fp fA dA)(bA:Binds K dA gps [])(mA:mg "_law_ask" =some (.ref fA))(FR:Fun K "_law_part" "_law_part" Gk fR dR)(bR:Binds K dR gps [])(mR:mg "_law_part" =some (.ref fR))(FL:Fun K "_law_let" "_law_let" Fo fL dL)(bL:Binds K dL gps [])(mL:mg "_law_let" =some (.ref fL))(FB:Fun K "_law_body" "_law_body" Tw fB dB)(bB:Binds K dB gps [])(mB:mg "_law_body" =some (.ref fB)):
  ∀ n,Df P w K mg base (8 + 4 * n) "_law_some" gps (spG n)/\Df P w K mg base (8 + 4 * n) "_law_body" gps (spG n):=by
 have DP:Df P w K mg base 6 "_law_plain" ["stream","world","around","kind"] (VB 3):=⟨fP,dP,mP,FP.kp,bP,WC B DT FP bP mP 3⟩;intro n
 induction n with
 | zero=>
  have DB:Df P w K mg base 7 "_law_body" gps (spG 0):=⟨fB,dB,mB,FB.kp,bB,EH FB DP⟩;exact ⟨⟨fS,dS,mS,FS.kp,bS,NQ FS (DT 5) (DP.up (by decide)) DB⟩,DB.up (by decide)⟩
 | succ n ih=>
  obtain ⟨iS,iB⟩:=ih;have DC:Df P w K mg base (8 + 4 * n + 1) "_law_choose" gps (spG (n + 1)):=⟨fC,dC,mC,FC.kp,bC,BF B FC ((DT (6 + 4 * n)).up (by omega)) iS iB⟩;have DA:Df P w K mg base (6 + 4 * n + 2 + 1) "_law_ask" gps (spG (n + 1)):=⟨fA,dA,mA,FA.kp,bA,Lc (L:=6 + 4 * n) B FA ((DT (6 + 4 * n)).up (by omega)) (DP.up (by omega)) (iS.up (by omega))⟩;have DR:Df P w K mg base (6 + 4 * n + 3 + 1) "_law_part" gps (spG (n + 1)):=⟨fR,dR,mR,FR.kp,bR,D1 (L:=6 + 4 * n) B FR ((DT (7 + 4 * n)).up (by omega)) (DC.up (by omega)) (iB.up (by omega))⟩;have DL:Df P w K mg base (6 + 4 * n + 3 + 1) "_law_let" gps (spG (n + 1)):=⟨fL,dL,mL,FL.kp,bL,La (L:=6 + 4 * n) B FL ((DT (7 + 4 * n)).up (by omega)) (DC.up (by omega)) (iB.up (by omega))⟩;have DB:Df P w K mg base (10 + 4 * n + 1) "_law_body" gps (spG (n + 1)):=⟨fB,dB,mB,FB.kp,bB,Ia (L:=10 + 4 * n) FB ((DT (8 + 4 * n)).up (by omega)) (DP.up (by omega)) (DC.up (by omega)) (DR.up (by omega)) (DL.up (by omega)) (DA.up (by omega)) (iB.up (by omega))⟩;exact ⟨⟨fS,dS,mS,FS.kp,bS,(NQ (L:=11 + 4 * n) FS ((DT (9 + 4 * n)).up (by omega)) (DP.up (by omega)) (DB.up (by omega))).mono (by omega)⟩,DB.up (by omega)⟩
end
end K4
namespace L2
open PySem
abbrev Hd:=Str × List (Str × Str) × Str
def WdS(y:Str):Prop:=1<=y.length/\y.length<=8/\∀ c∈y.cps.toList,97<=c/\c < 97 + 26
def Ye(c:Str->Nat)(ps:List (Str × Str)):Nat:=ps.foldl (fun r p=>r * c p.2) 1
theorem JK(c:Str->Nat)(ps:List (Str × Str))(p:Str × Str):Ye c (ps++ [p])=Ye c ps * c p.2:=by unfold Ye;rw [List.foldl_append];rfl
structure WZ(ns:List Str)(c:Str->Nat)(top:Nat)(h:Hd):Prop where
 len:h.2.1.length<=3
 kin:∀ p∈h.2.1,p.2∈ns
 own:h.2.2∈ns
 nd:(h.2.1.map (·.1)).Nodup
 spl:∀ p∈h.2.1,WdS p.1
 rows:Ye c h.2.1<=top
def HL(H:Hp)(kvs:List (Key × V))(hs:List Hd):Prop:=kvs.map (·.1)=hs.map (fun h=>(Sum.inr h.1:Key))/\HasL H (kvs.map (·.2)) (hs.map fun h=>hdD h.2.1 h.2.2)
theorem Eg:∀ hs:List Hd,Dat.sts (hs.map fun h=>hdD h.2.1 h.2.2)=true
 | []=>by unfold List.map Dat.sts;rfl
 | h::hs=>by rw [List.map_cons];unfold Dat.sts;rw [Eg hs,V3];rfl
theorem HL.tk(h:HL H kvs hs)(t:TK H H'):HL H' kvs hs:=⟨h.1,Zv t _ (Eg hs) h.2⟩
theorem HL.len(h:HL H kvs hs):kvs.length=hs.length:=by
 have e:=congrArg List.length h.1;rw [List.length_map,List.length_map] at e;exact e
theorem HL.snoc(h:HL H kvs hs)(g:Has H v (hdD ps k)):HL H (kvs++ [(Sum.inr f,v)]) (hs++ [(f,ps,k)]):=by
 refine ⟨by rw [List.map_append,List.map_append,h.1];rfl,?_⟩;rw [List.map_append,List.map_append];exact HasL.append h.2 (HasL.one g)
theorem US{kvs:List (Key × V)}(h:k ∉ kvs.map (·.1)):Zp kvs k=none:=by
 unfold Zp
 rw [List.find?_eq_none.mpr (fun kv hk=>by
  intro z;exact h (List.mem_map.mpr ⟨kv,hk,of_decide_eq_true z⟩))]
 rfl
theorem Uz{ys:List Str}(nd:ys.Nodup)(h:ys[i]?=some y):y ∉ ys.take i:=by
 have e:=take_snoc h;have s:(ys.take i++ [y]).Nodup:=by rw [<-e];exact nd.sublist (List.take_sublist _ _)
 exact fun z=>(List.nodup_append.mp s).2.2 y z y (List.mem_singleton.mpr rfl) rfl
theorem GD{ys:List Str}{m:Nat}(h:(ys.map V.str)[m]?=some v):∃ y,ys[m]?=some y/\v= .str y:=by
 rw [List.getElem?_map] at h
 cases e:ys[m]? with
 | none=>rw [e] at h;cases h
 | some y=>rw [e] at h;exact ⟨y,rfl,(Option.some.inj h).symm⟩
theorem Wds.wdS(w:Wds 97 ys)(h:y∈ys):WdS y:=⟨(w.len y h).1,(w.len y h).2,w.abc y h⟩
theorem Og(g:GB p q H H')(hp:H p=some u)(hq:H q=some v)(nu:∀ xs,u≠ .tup xs)(nv:∀ xs,v≠ .tup xs):TK H H':=fun b xs h=>g b _ (fun e=>by rw [e,hp] at h;exact nu xs (Option.some.inj h)) (fun e=>by rw [e,hq] at h;exact nv xs (Option.some.inj h)) h
theorem Zy.at(s:Zy H p):∃ xs,H p=some (.lst xs):=let ⟨_,_,_,_,h⟩:=s;⟨_,h⟩
theorem UN(g:GB p q H H')(s:Zy H p)(hq:H q=some v)(nv:∀ xs,v≠ .tup xs):TK H H':=by
 obtain ⟨xs,h⟩:=s.at;exact Og g h hq (fun _ z=>by cases z) nv
theorem LD(h0:0<=r)(h1:r < 6):∃ k:Nat,k<=3/\atI [V.int 0, .int 1, .int 1, .int 2, .int 2, .int 3] r=some (.int (k:Nat)):=by
 have:r=0 \/ r=1 \/ r=2 \/ r=3 \/ r=4 \/ r=5:=by omega
 rcases this with rfl | rfl | rfl | rfl | rfl | rfl
 .exact ⟨0,by decide,rfl⟩
 .exact ⟨1,by decide,rfl⟩
 .exact ⟨1,by decide,rfl⟩
 .exact ⟨2,by decide,rfl⟩
 .exact ⟨2,by decide,rfl⟩
 .exact ⟨3,by decide,rfl⟩
theorem NU{ks:List (Str × Shp)}{m:Nat}(h:HasL H xs (ks.map Yq))(e:xs[m]?=some v):∃ a u y,v= .ref a/\H a=some (.tup [.str y,u])/\y∈ks.map (·.1):=by
 obtain ⟨d,hd,hv⟩:=h.get e;rw [List.getElem?_map] at hd
 cases ek:ks[m]? with
 | none=>rw [ek] at hd;cases hd
 | some k=>
  rw [ek] at hd;cases hd;obtain ⟨a,u,rfl,h1,h2⟩:=JC (y:=k.1) (s:=k.2) hv;exact ⟨a,u,k.1,rfl,h1,List.mem_map.mpr ⟨k,List.mem_of_getElem? ek,rfl⟩⟩
end L2
namespace K4
open PySem L2
section
theorem VS:ZX ["stream","kinds","counts","most","top","names","asks","name","words","rows","parameters","k","kind"] ["stream","kinds","counts","most","top"] (ZL MD):=Zl
def GY:Sp:=fun vs H Q _=> ∃ (p kl cn:Addr) (most top:Nat) (ks:List (Str × Shp)) (c d:Str->Nat) (xs:List V),vs= [.ref p, .ref kl, .ref cn, .int most, .int top]/\Zy H p/\0 < most/\most<=8/\0 < top/\top<=1000/\kl≠p/\cn≠p/\H kl=some (.lst xs)/\HasL H xs (ks.map Yq)/\
 KK 30 c d ks/\0 < ks.length/\ks.length<=6/\Ns H cn ks c/\∀ (hA:Addr) (kvs:List (Key × V)) (hs:List Hd) (H':Hp),SameB p H H'->Zy H' p->H hA=none->hA≠p->H' hA=some (.dK kvs)->0 < hs.length->hs.length<=8->HL H' kvs hs->Wds 97 (hs.map (·.1))->(∀ h∈hs,WZ (ks.map (·.1)) c top h)->Q (.ref hA) H'
theorem EE(B:Blt mg)(F:Fun K "_law_heads" "_law_heads" MD f fd)(DT:Df P w K mg base n "_law_take" ["stream","many"] Yo)(DS:Df P w K mg base n "_law_small" ["stream","many"] Jw):
  ZN P w K mg base CX0 (n + 1) f fd ["stream","kinds","counts","most","top"] GY:=by
 obtain ⟨gt,td',mT,kT,bT,GT⟩:=DT;obtain ⟨gs,sd',mS,kS,bS,GS⟩:=DS;refine F.ok VS (fun vs H Q E h=>?_) (fun cdv A outer s H vs Q E hr h=>?_)
 .obtain ⟨p,kl,cn,most,top,ks,c,d,xs,rfl,_⟩:=h
  rfl
 obtain ⟨p,kl,cn,most,top,ks,c,d,xs,rfl,hs,m0,m7,t0,t3,nkp,ncp,hkl,hxs,kk,k0,k6,hns,q⟩:=h;have hu:=Yg hr;refine ⟨_,ZC (ZZ 5 VS.nd (ZM GS hr rfl mS kS bS .nil ZT (ZA (pv 0) (ZA (Zi YT ZG (ZM GT hr rfl mT kT bT .nil ZT (ZA (pv 0) (ZA (pv 3) ZE)))) ZE))))
  (ZC (ZZ 6 VS.nd Yl)
  (ZC (YO PassesOwn.never rfl (Z6 (pv 5)) (ZO 7 VS.nd)
   (ZC (ZZ 8 VS.nd (ZM GS hr rfl mS kS bS .nil ZT (ZA (pv 0) (ZA ZG ZE))))
   (ZC (ZZ 9 VS.nd ZG)
   (ZC (ZZ 10 VS.nd (Z8 ZE))
   (ZC (YO PassesOwn.never rfl (JA rfl B.range (ZA (ZY Zm (Z8 (ZA ZG (ZA ZG (ZA ZG (ZA ZG (ZA ZG (ZA ZG ZE))))))) (ZM GT hr rfl mT kT bT .nil ZT (ZA (pv 0) (ZA ZG ZE))) (fun _ _=>rfl)) ZE)) (ZO 11 VS.nd)
    (ZC (ZZ 12 VS.nd (ZY Za (ZY Zm (pv 1) (ZM GT hr rfl mT kT bT .nil ZT (ZA (pv 0) (ZA (Zj Zg rfl B.len PySem.boot_len (ZA (pv 1) ZE)) ZE))) (fun _ _=>rfl)) ZG))
    (ZH (Zh (ZV XG (Zi VE (pv 9) (Ze hu (pv 2) (pv 12) (fun _ _=>rfl))) (pv 4) (Zb _))
     (ZC (ZZ 9 VS.nd (Zi VE (pv 9) (Ze hu (pv 2) (pv 12) (fun _ _=>rfl))))
     (ZH (YC (Vw PySem.F.plainAttrs_list PySem.F.slot_list_append PySem.F.type_list_append Yf (pv 10) (ZA (Zs (ZA (ZY Zm (pv 8) (pv 11) (fun _ _=>rfl)) (ZA (pv 12) ZE))) ZE))))) ZU))))
   (ZH (YD hu (pv 6) (pv 7) (Zs (ZA (Zo Yn rfl B.tuple YZ (ZA (pv 10) ZE)) (ZA (ZY Za (ZY Zm (pv 1) (ZM GT hr rfl mT kT bT .nil ZT (ZA (pv 0) (ZA (Zj Zg rfl B.len PySem.boot_len (ZA (pv 1) ZE)) ZE))) (fun _ _=>rfl)) ZG) ZE))) rfl)))))))
  (ZH (ZW (pv 6))))),?_⟩
 dsimp only [Ys,Cx.nox,Cx.wish];show let a:=_;let b:=_;let c:=_;let d:=ZQ _ c;let e:=Zw _ d _;let f:=ZQ _ e;let g:=ZQ (VX _ _ f) b;let h:=ZQ _ g;let i:=ZQ _ h;let j:=ZQ _ i;let k:=ZQ (VX _ _ j) a;let l:=ZQ _ k;ZQ _ l _ _ _
 intros
 have lx:=hxs.length;rw [List.length_map] at lx;refine ⟨p,most,rfl,hs,by omega,by omega,fun r H1 r0 r1 b1 s1=>?_⟩;obtain ⟨rn,rfl⟩:∃ m:Nat,r=m:=⟨r.toNat,by omega⟩;refine ⟨p,1 + rn,(by show [V.ref p,V.int (1 + (rn:Int))]= [V.ref p,V.int ((1 + rn:Nat):Int)];push_cast;rfl),s1,by omega,fun nm ys H2 b2 s2 f2 np2 hnm hly wds=>?_⟩;intro aA haA;have sb2:SameB p H H2:=b1.sb.trans b2;have s3:=ZF haA (.dK []);have g3:upd H2 aA (.dK []) aA=some (.dK []):=ZD;have nap:aA≠p:=s2.ne haA;have fa:H aA=none:=sb2.free nap haA;generalize upd H2 aA (.dK [])=H3 at s3 g3 |-;have sb3:SameB p H H3:=sb2.trans s3.sb;have hnm3:=s3 _ _ hnm;have nma:nm≠aA:=ZJ hnm haA;have kla:kl≠aA:=ZJ hkl fa;obtain ⟨kc,hkc,hcv⟩:=id hns;have cna:cn≠aA:=ZJ hkc fa;have ly:(ys.map V.str).length=ys.length:=List.length_map _;refine ⟨⟨_,SqL.of hnm3⟩,?_⟩
 let I:Nat->St->Hp->Prop:=fun i U Hi=>GB p aA H3 Hi/\Zy Hi p/\∃ kvs hs,Hi aA=some (.dK kvs)/\HL Hi kvs hs/\hs.map (fun h:Hd=>h.1)=ys.take i/\(∀ h∈hs,WZ (ks.map fun k:Str × Shp=>k.1) c top h)/\∃ z7 z8 z9 z10 z11 z12,U= [some (.ref p),some (.ref kl),some (.ref cn),some (.int most),some (.int top),some (.ref nm),some (.ref aA),z7,z8,z9,z10,z11,z12]
 refine Vg (xs:=ys.map V.str) I
  ⟨GB.refl _ _ _,s2.sm s3, [], [],g3,⟨rfl,HasL.nil⟩,rfl,(fun kv hk=>nomatch hk),_,_,_,_,_,_,rfl⟩ (fun i U Hi _ z=>SqL.of (z.1 _ _ np2 nma hnm3)) ?_ ?_
 .rintro BB RR i x U Hi hx ⟨gi,si,kvs,hs',hai,hli,lki,hpi,z7,z8,z9,z10,z11,z12,rfl⟩
  obtain ⟨name,hname,rfl⟩:=GD hx
  have lkv:kvs.length<=i:=by
   have e:=congrArg List.length lki;rw [List.length_map,List.length_take] at e;have e2:=hli.len;omega
  have ilt:i < 8:=by have:=(List.getElem?_eq_some_iff.mp hx).1;omega
  refine ⟨p,3,rfl,si,by decide,fun wl wy H4 b4 s4 f4 np4 hwl lwy wdy=>?_⟩;refine ⟨sl 0,fun pl hpl=>?_⟩;have s5:=ZF hpl (.lst []);have g5:upd H4 pl (.lst []) pl=some (.lst []):=ZD;have npp:pl≠p:=s4.ne hpl;have ha4:=b4 _ _ nap hai;have npa:pl≠aA:=(ZJ ha4 hpl).symm;have nwl:wl≠pl:=ZJ hwl hpl;have kl4:=b4 _ _ nkp (gi _ _ nkp kla (sb3 _ _ nkp hkl));have cn4:=b4 _ _ ncp (gi _ _ ncp cna (sb3 _ _ ncp hkc));have nklp:kl≠pl:=ZJ kl4 hpl;have ncnp:cn≠pl:=ZJ cn4 hpl;generalize upd H4 pl (.lst [])=H5 at s5 g5 |-;refine ⟨sl 6,fun sx hsx=>?_⟩;have s6:=ZF hsx (.lst [.int 0, .int 1, .int 1, .int 2, .int 2, .int 3]);have g6:upd H5 sx (.lst [.int 0, .int 1, .int 1, .int 2, .int 2, .int 3]) sx=some (.lst [.int 0, .int 1, .int 1, .int 2, .int 2, .int 3]):=ZD;have nsp:sx≠p:=(s4.sm s5).ne hsx;generalize upd H5 sx (.lst [.int 0, .int 1, .int 1, .int 2, .int 2, .int 3])=H6 at s6 g6 |-;refine ⟨p,6,rfl,(s4.sm s5).sm s6,by decide,by decide,fun r7 H7 r70 r71 b7 s7=>?_⟩;obtain ⟨kN,hkN,hat⟩:=LD r70 r71;refine ⟨_,_,SqL.of (b7.sb _ _ nsp g6),hat,_,rfl,by omega,by omega,?_⟩;have s47:SameB p H4 H7:=(s5.sb.trans s6.sb).trans b7.sb;have pl7:=b7.sb _ _ npp (s6 _ _ g5);have wl7:=s47 _ _ np4 hwl;have kl7:=s47 _ _ nkp kl4;have cn7:=s47 _ _ ncp cn4;have sb7:GB p aA H3 H7:=(gi.trans b4.gb).trans s47.gb
  have hx7:HasL H7 xs (ks.map Yq):=by
   refine Zv (fun b zs h=>?_) _ (YW ks) hxs;have h3:=sb3 b _ (Z3 hs h) h;exact sb7 b _ (Z3 hs h) (fun e=>by rw [e,fa] at h;cases h) h3
  let I:Nat->St->Hp->Prop:=fun j U Hj=>GB p pl H7 Hj/\Zy Hj p/\∃ (zs:List V) (ps:List (Str × Str)) (rw':Nat),Hj pl=some (.lst zs)/\zs.length=ps.length/\ps.length<=j/\HasL Hj zs (ps.map fun p=> .tup [.str p.1, .str p.2])/\(∀ p∈ps,p.2∈ks.map fun k:Str × Shp=>k.1)/\(ps.map fun p:Str × Str=>p.1).Sublist (wy.take j)/\rw'<=1000/\(rw'=Ye c ps/\rw'<=top)/\∃ z11 z12,
   U= [some (.ref p),some (.ref kl),some (.ref cn),some (.int most),some (.int top),some (.ref nm),some (.ref aA),some (.str name),some (.ref wl),some (.int (rw':Nat)),some (.ref pl),z11,z12]
  refine Ug (n:=((kN:Nat):Int).toNat) I ⟨GB.refl _ _ _,s7, [], [],1,pl7,rfl,Nat.le_refl _,HasL.nil,(fun p hp=>nomatch hp),List.nil_sublist _,by decide,⟨rfl,t0⟩,_,_,rfl⟩ ?_ ?_
  .rintro BB RR j U Hj hj ⟨gj,sj,zs,ps,rw',hplj,lz,lp,hzs,hpn,hsub,hrw,hrc,z11,z12,rfl⟩
   have hj3:j < 3:=by omega
   have klj:=gj _ _ nkp nklp kl7;have tkj:TK H7 Hj:=UN gj s7 pl7 (fun _ z=>by cases z);refine ⟨kl,_,rfl, .inl (SqL.of klj),p,_,rfl,sj,by omega,by omega,fun r8 H8 r80 r81 b8 s8=>?_⟩;obtain ⟨m8,v8,hv1,hv2⟩:=JW r80 r81;obtain ⟨ka,ku,y,rfl,hka,hy⟩:=NU (Zv tkj _ (YW ks) hx7) hv1;have kc:=(kk.small hy).2;have cyv:=hcv y hy;have gb8:GB p pl Hj H8:=b8.sb.gb;refine ⟨_,_,SqL.of (b8.sb _ _ nkp klj),hv2,_,_,SqT.of (b8.sb _ _ (Z3 sj hka) hka),rfl,?_⟩;have cn8:=b8.sb _ _ ncp (gj _ _ ncp ncnp cn7);have dg:Zz H8 cn (.str y) (some (.int (c y:Nat))):=by rw [<-cyv];exact Zz.k (k:=Sum.inr y) cn8
   have mul:((rw':Nat):Int) * ((c y:Nat):Int)=((rw' * c y:Nat):Int):=by push_cast;rfl
   have mle:rw' * c y<=1000 * 30:=Nat.mul_le_mul hrw kc;refine ⟨_,dg, .inl ⟨by omega,by omega⟩,_,rfl,?_⟩;have pl8:=b8.sb _ _ npp hplj;refine Yr (fun c1=>?_) (fun c1=>?_)
   .have c1':((rw':Nat):Int) * ((c y:Nat):Int)<=(top:Int):=of_decide_eq_true c1
    rw [mul] at c1';refine ⟨_,dg, .inl ⟨by omega,by omega⟩,?_⟩;have wl8:=b8.sb _ _ np4 (gj _ _ np4 nwl wl7);have hjw:j < wy.length:=by omega
    have aw:atI (wy.map V.str) ((0:Int) + (j:Int))=some (.str wy[j]):=by
     rw [Int.zero_add];exact Z7 (by rw [List.getElem?_map,List.getElem?_eq_getElem hjw];rfl)
    refine ⟨.inl ⟨rfl,_,SqL.of pl8⟩,_,_,SqL.of wl8,aw,sl 2,fun t9 ht9=>?_⟩;have s9:=ZF ht9 (.tup [.str wy[j], .str y]);have g9:upd H8 t9 (.tup [.str wy[j], .str y]) t9=some (.tup [.str wy[j], .str y]):=ZD;generalize upd H8 t9 (.tup [.str wy[j], .str y])=H9 at s9 g9 |-;have pl9:=s9 _ _ pl8;refine ⟨pl,zs,_,rfl,rfl,pl9,ZK (by omega),?_⟩;have gbw:GB p pl H9 (upd H9 pl (.lst (zs++ [.ref t9]))):=BU;have tk9:TK H9 (upd H9 pl (.lst (zs++ [.ref t9]))):=UN gbw (s8.sm s9) pl9 (fun _ z=>by cases z);have tkA:TK Hj (upd H9 pl (.lst (zs++ [.ref t9]))):=fun b us h=>tk9 _ _ (s9 _ _ (b8.sb _ _ (Z3 sj h) h));refine ⟨((gj.trans gb8).trans s9.gb).trans gbw,(s8.sm s9).keep (ZI (Ne.symm npp)),zs++ [.ref t9],ps++ [(wy[j],y)],rw' * c y,ZD,by simp [lz],by simp;omega,?_,fun pr hpr=>?_,?_,by omega,⟨by rw [JK,<-hrc.1],by omega⟩,_,_,by rw [<-mul];rfl⟩
    .rw [List.map_append]
     refine HasL.append (Zv tkA _ ?_ hzs) (HasL.one (XW (tk9 _ _ g9)));have:=V3 ps "";unfold hdD Dat.st Dat.sts at this;rw [Bool.and_eq_true] at this;have t1:=this.1;unfold Dat.st at t1;exact t1
    .rcases List.mem_append.mp hpr with z | z
     .exact hpn pr z
     .cases List.mem_singleton.mp z
      exact hy
    .rw [List.map_append,show wy.take (j + 1)=wy.take j++ [wy[j]] from take_snoc (List.getElem?_eq_getElem hjw)]
     exact List.Sublist.append hsub (List.Sublist.refl _)
   .refine ⟨gj.trans gb8,s8,zs,ps,rw',pl8,lz,by omega,Zv (fun b us h=>b8.sb _ _ (Z3 sj h) h) _ ?_ hzs,hpn,hsub.trans (List.take_sublist_take_left (by omega)),hrw,hrc,_,_,rfl⟩
    have:=V3 ps "";unfold hdD Dat.st Dat.sts at this;rw [Bool.and_eq_true] at this;have t1:=this.1;unfold Dat.st at t1;exact t1
  .rintro U Hj ⟨gj,sj,zs,ps,rw',hplj,lz,lp,hzs,hpn,hsub,hrw,hrc,z11,z12,rfl⟩
   have lp3:ps.length<=3:=by omega
   refine ⟨pl,zs,rfl, .inl ⟨SqL.of hplj,fun t8 ht8=>?_⟩⟩;have s8:=ZF ht8 (.tup zs);have g8:upd Hj t8 (.tup zs) t8=some (.tup zs):=ZD;generalize upd Hj t8 (.tup zs)=H8 at s8 g8 |-;have kl8:=s8 _ _ (gj _ _ nkp nklp kl7);have tk8:TK H7 H8:=fun b us h=>s8 _ _ (UN gj s7 pl7 (fun _ z=>by cases z) _ _ h);refine ⟨kl,_,rfl, .inl (SqL.of kl8),p,_,rfl,sj.sm s8,by omega,by omega,fun r9 H9 r90 r91 b9 s9=>?_⟩;obtain ⟨m9,v9,hv1,hv2⟩:=JW r90 r91;obtain ⟨ka,ku,y,rfl,hka,hy⟩:=NU (Zv tk8 _ (YW ks) hx7) hv1;have tk9:TK H8 H9:=fun b us h=>b9.sb _ _ (Z3 (sj.sm s8) h) h;refine ⟨_,_,SqL.of (b9.sb _ _ nkp kl8),hv2,_,_,SqT.of (tk9 _ _ hka),rfl,sl 2,fun tA htA=>?_⟩;have sA:=ZF htA (.tup [.ref t8, .str y]);have gA:upd H9 tA (.tup [.ref t8, .str y]) tA=some (.tup [.ref t8, .str y]):=ZD;generalize upd H9 tA (.tup [.ref t8, .str y])=HA at sA gA |-;have gAll:GB p pl H7 HA:=((gj.trans s8.gb).trans b9.sb.gb).trans sA.gb;have aA7:=s47 _ _ nap ha4;have aAA:=gAll _ _ nap (Ne.symm npa) aA7;refine ⟨_,VJ.k (k:=Sum.inr name) aAA (ZK (by omega)),?_⟩;have gbw:GB p aA HA (upd HA aA (.dK (putK kvs (Sum.inr name) (.ref tA)))):=BU;have stA:Zy HA p:=s9.sm sA;have tkW:TK HA (upd HA aA (.dK (putK kvs (Sum.inr name) (.ref tA)))):=UN gbw stA aAA (fun _ z=>by cases z)
   have frH:∀ b o,b≠p->b≠aA->H3 b=some o->HA b=some o:=fun b o n1 n2 e=>by
    have e4:=b4 b o n1 (gi b o n1 n2 e);exact gAll b o n1 (ZJ e4 hpl) (s47 b o n1 e4)
   have tkI:TK Hi HA:=fun b us h=>by
    have e4:=b4 b _ (Z3 si h) h;exact gAll b _ (Z3 si h) (ZJ e4 hpl) (s47 b _ (Z3 si h) e4)
   refine ⟨fun b o n1 n2 e=>gbw b o n1 n2 (frH b o n1 n2 e),stA.keep (ZI (Ne.symm nap)),putK kvs (Sum.inr name) (.ref tA),hs'++ [(name,ps,y)],ZD,?_,by rw [List.map_append,lki,take_snoc hname];rfl,fun h hh=>?_,_,_,_,_,_,_,rfl⟩
   .have ek:putK kvs (Sum.inr name) (.ref tA)=kvs++ [(Sum.inr name, .ref tA)]:=Jj _ (US (by
     rw [hli.1];intro z;obtain ⟨h',hh',e'⟩:=List.mem_map.mp z;have e2:h'.1=name:=Sum.inr.inj e';refine Uz wds.nd hname ?_;rw [<-lki];exact List.mem_map.mpr ⟨h',hh',e2⟩))
    refine Eq.mpr (congrArg (fun l=>HL (upd HA aA (.dK (putK kvs (Sum.inr name) (.ref tA)))) l (hs'++ [(name,ps,y)])) ek) ((hli.tk (fun b us h=>tkW _ _ (tkI _ _ h))).snoc ?_);unfold hdD;refine Zr (tkW _ _ gA) (HasL.cons (Zr (tkW _ _ (sA _ _ (tk9 _ _ g8))) ?_) (HasL.one YG));have:=V3 ps "";unfold hdD Dat.st Dat.sts at this;rw [Bool.and_eq_true] at this;have t1:=this.1;unfold Dat.st at t1;exact Zv (fun b us h=>tkW _ _ (sA _ _ (tk9 _ _ (s8 _ _ h)))) _ t1 hzs
   .rcases List.mem_append.mp hh with z | z
    .exact hpi h z
    .cases List.mem_singleton.mp z
     exact ⟨lp3,hpn,hy,(wdy.nd.sublist (List.take_sublist _ _)).sublist hsub,fun p hp=>wdy.wdS (List.mem_of_mem_take (hsub.subset (List.mem_map.mpr ⟨p,hp,rfl⟩))),by show Ye c ps<=top;rw [<-hrc.1];exact hrc.2⟩
 .rintro U Hi ⟨gi,si,kvs,hs',hai,hli,lki,hpi,z7,z8,z9,z10,z11,z12,rfl⟩
  rw [ly,List.take_length] at lki;have lh:hs'.length=ys.length:=by rw [<-lki,List.length_map]
  refine q aA kvs hs' Hi (fun b o n1 e=>gi b o n1 (ZJ e fa) (sb3 b o n1 e)) si fa nap hai (by omega) (by omega) hli (by rw [lki];exact wds) hpi
end
end K4
namespace L2
open PySem
theorem MN:∀ {ps:List (Str × Str)}{xs:List V},HasL H xs (ps.map fun p=> .tup [.str p.1, .str p.2])->∃ (ts:List Addr),xs=ts.map V.ref/\WV K H ts (ps.map fun p=>((Sum.inr p.1:Key),V.str p.2))
 | [],xs,h=>by
  obtain rfl:=YK h;exact ⟨[],rfl,rfl,fun i a k y e=>by simp at e⟩
 | q::ps,xs,h=>by
  rw [List.map_cons] at h;obtain ⟨x,r,rfl,h1,h2⟩:=ZP h;obtain ⟨t,rfl,ht⟩:=JR h1;obtain ⟨ts,rfl,tl,tp⟩:=MN (K:=K) h2;refine ⟨t::ts,rfl,by simp [tl],fun i b k y e1 e2=>?_⟩
  cases i with
  | zero=>
   have e1':some t=some b:=e1;have e2':some ((Sum.inr q.1:Key),V.str q.2)=some (k,y):=e2;cases e1';cases e2';exact SqT.of ht
  | succ i=>exact tp i b k y e1 e2
abbrev Dd:=Hd × Bd
def Jr(x:Dd):Dat:= .tup [.str x.1.1, .tup (x.1.2.1.map fun p=> .tup [.str p.1, .str p.2]), .str x.1.2.2,x.2.dat]
def kvP(ps:List (Str × Str)):List (Key × V):=ps.map fun p=>((Sum.inr p.1:Key),V.str p.2)
def JX(hs:List Hd):Hds:=fun f=>(hs.find? fun h=>decide (h.1=f)).map (·.2)
structure FJ(ks:List (Str × Shp))(hs:List Hd)(x:Dd):Prop where
 kd:Kd ks (JX hs) (kvP x.1.2.1) x.1.2.2 x.2
 ok:x.2.ok
 dep:x.2.dep<=11
 size:x.2.size<=40
theorem Xi(ps:List (Str × Str)):Dat.sts (ps.map fun p=>Dat.tup [.str p.1, .str p.2])=true:=by
 have:=V3 ps "";unfold hdD Dat.st Dat.sts at this;rw [Bool.and_eq_true] at this;have t1:=this.1;unfold Dat.st at t1;exact t1
theorem KP(x:Dd):(Jr x).st=true:=by
 unfold Jr;simp [Dat.st,Dat.sts,Xi,Bd.st]
theorem Ui:∀ ds:List Dd,Dat.sts (ds.map Jr)=true
 | []=>by unfold List.map Dat.sts;rfl
 | x::ds=>by rw [List.map_cons];unfold Dat.sts;rw [Ui ds,KP];rfl
theorem RH(nd:(hs.map (·.1)).Nodup)(m:h∈hs):JX hs h.1=some h.2:=by
 induction hs with
 | nil=>exact nomatch m
 | cons g hs ih=>
  rw [List.map_cons,List.nodup_cons] at nd;unfold JX;rw [List.find?_cons];rcases List.mem_cons.mp m with e | e
  .subst e;simp
  .have ne: ¬ g.1=h.1:=fun q=>nd.1 (by rw [q];exact List.mem_map.mpr ⟨_,e,rfl⟩)
   rw [decide_eq_false ne];exact ih nd.2 e
theorem W6:∀ {kvs:List (Key × V)},(kvs.map (·.1)).Nodup->∀ {kv:Key × V},kv∈kvs->Zp kvs kv.1=some kv.2
 | [],_,kv,m=>nomatch m
 | g::kvs,nd,kv,m=>by
  rw [List.map_cons,List.nodup_cons] at nd;unfold Zp;rw [List.find?_cons];rcases List.mem_cons.mp m with e | e
  .subst e;simp
  .have ne: ¬ g.1=kv.1:=fun q=>nd.1 (by rw [q];exact List.mem_map.mpr ⟨_,e,rfl⟩)
   rw [decide_eq_false ne];exact W6 nd.2 e
theorem HL.at(h:HL H kvs hs)(nd:(hs.map (·.1)).Nodup){i:Nat}(e:kvs[i]?=some kv):∃ g:Hd,hs[i]?=some g/\kv.1=Sum.inr g.1/\Has H kv.2 (hdD g.2.1 g.2.2)/\Zp kvs (Sum.inr g.1)=some kv.2:=by
 have nk:(kvs.map (·.1)).Nodup:=by
  rw [h.1];unfold List.Nodup at nd |-;rw [List.pairwise_map] at nd |-;exact nd.imp fun hab q=>hab (Sum.inr.inj q)
 have e1:(kvs.map (·.1))[i]?=(hs.map (fun h=>(Sum.inr h.1:Key)))[i]?:=by rw [h.1]
 rw [List.getElem?_map,List.getElem?_map,e] at e1
 cases eg:hs[i]? with
 | none=>rw [eg] at e1;cases e1
 | some g=>
  rw [eg] at e1;have e2:kv.1=Sum.inr g.1:=Option.some.inj e1;obtain ⟨d,d1,d2⟩:=h.2.get (show (kvs.map (·.2))[i]?=some kv.2 by rw [List.getElem?_map,e];rfl);rw [List.getElem?_map,eg] at d1;cases d1;exact ⟨g,rfl,e2,d2,by rw [<-e2];exact W6 nk (List.mem_of_getElem? e)⟩
theorem Zy.tkB(s:Zy H p)(b:SameB p H H'):TK H H':=fun c xs h=>b c _ (Z3 s h) h
theorem K6(h0:0<=r)(h1:r < 2):∃ k:Nat,k<=2/\atI [V.int 0, .int 2] r=some (.int (k:Nat)):=by
 have:r=0 \/ r=1:=by omega
 rcases this with rfl | rfl
 .exact ⟨0,by decide,rfl⟩
 .exact ⟨2,by decide,rfl⟩
end L2
namespace K4
open PySem L2
section
theorem Bk:bootBuiltins "min" =some (.builtin "min"):=by decide +kernel
theorem Vb:ZX ["cell","most","many","top","left","stream","kinds","counts","asks","lets","definitions","f","around","world","body"] ["cell","most","many","top","left"] (ZL Da):=Zl
def Rj:Sp:=fun vs H Q _=> ∃ (cell:Int) (most many top:Nat) (left:Int),vs= [.int cell, .int most, .int many, .int top, .int left]/\0 < most/\most<=6/\0 < many/\many<=8/\30<=top/\top<=1000/\
 ∀ (r kl dl:Addr) (ks:List (Str × Shp)) (c d:Str->Nat) (hs:List Hd) (ds:List Dd) (xs zs:List V) (H':Hp),Same H H'->H' r=some (.tup [.ref kl, .ref dl])->H' kl=some (.lst xs)->HasL H' xs (ks.map Yq)->KK 30 c d ks->(ks.map (·.1)).Nodup->0 < ks.length->ks.length<=6->KG ks->H' dl=some (.lst zs)->HasL H' zs (ds.map Jr)->ds.map (·.1)=hs->0 < hs.length->hs.length<=8->Wds 97 (hs.map (·.1))->(∀ h∈hs,WZ (ks.map (·.1)) c top h)->(∀ x∈ds,FJ ks hs x)->Q (.ref r) H'
theorem IZ(B:Blt mg)(mm:mg "min" =none)(F:Fun K "_law_book" "_law_book" Da f fd)(DM:Df P w K mg base n "_law_stream" ["cell"] Xt)(DT:Df P w K mg base n "_law_take" ["stream","many"] Yo)(DS:Df P w K mg base n "_law_small" ["stream","many"] Jw)(DK:Df P w K mg base n "_law_kinds" ["stream","most","top"] GU)(DH:Df P w K mg base n "_law_heads" ["stream","kinds","counts","most","top"] GY)(DB:Df P w K mg base n "_law_body" gps (spG 9))(DP:Df P w K mg base n "_law_plain" ["stream","world","around","kind"] (VB 3))(DZ:Df P w K mg base n "_law_size" ["body"] (Uo 12)):
  ZN P w K mg base CX0 (n + 1) f fd ["cell","most","many","top","left"] Rj:=by
 obtain ⟨gm,md',mM,kM,bM,GM⟩:=DM;obtain ⟨gt,td',mT,kT,bT,GT⟩:=DT;obtain ⟨gs,sd',mS,kS,bS,GS⟩:=DS;obtain ⟨gk,kd',mK,kK,bK,GK⟩:=DK;obtain ⟨gh,hd',mH,kH,bH,GH⟩:=DH;obtain ⟨gb,bd',mB,kB,bB,GB'⟩:=DB;obtain ⟨gp,pd',mP,kP,bP,GP⟩:=DP;obtain ⟨gz,zd',mZ,kZ,bZ,GZ⟩:=DZ;refine F.ok Vb (fun vs H Q E h=>?_) (fun cdv A outer s H vs Q E hr h=>?_)
 .obtain ⟨cell,most,many,top,left,rfl,_⟩:=h
  rfl
 obtain ⟨cell,most,many,top,left,rfl,m0,m6,n0,n7,t0,t3,q⟩:=h;have hu:=Yg hr;refine ⟨_,ZC (ZZ 5 Vb.nd (ZM GM hr rfl mM kM bM .nil ZT (ZA (pv 0) ZE)))
  (ZC (Vo (ZM GK hr rfl mK kK bK .nil ZT (ZA (pv 5) (ZA (pv 1) (ZA (Zj (Bf rfl) rfl mm Bk (ZA (pv 3) (ZA ZG ZE))) ZE)))) (YR (n:=2) rfl (Zc (ZO 6 Vb.nd) (Zc (ZO 7 Vb.nd) Z9))))
  (ZC (Gz (ZZ 8 Vb.nd (ZM GH hr rfl mH kH bH .nil ZT (ZA (pv 5) (ZA (pv 6) (ZA (pv 7) (ZA (pv 2) (ZA (pv 3) ZE))))))))
  (ZC (ZZ 9 Vb.nd (ZM GS hr rfl mS kS bS .nil ZT (ZA (pv 5) (ZA ZG ZE))))
  (ZC (Vo (ZY Zm (pv 9) (ZY Zm (Z8 (ZA ZG (ZA ZG ZE))) (ZM GT hr rfl mT kT bT .nil ZT (ZA (pv 5) (ZA ZG ZE))) (fun _ _=>rfl)) (fun _ _=>rfl)) (WD (pv 9) ZG set_list))
  (ZC (ZZ 10 Vb.nd (Z8 ZE))
  (ZC (YO PassesOwn.never rfl (Jk (pv 8)) (ZO 11 Vb.nd)
   (ZC (Gz (ZZ 12 Vb.nd (Zo (JG rfl) rfl B.dict Y6 (ZA (ZY Za (Ze hu (pv 8) (pv 11) (fun _ _=>rfl)) ZG) ZE))))
   (ZC (Gz (ZZ 13 Vb.nd (IJ (UZ Zf (Zo (r:=Gx K) (UP rfl) rfl B.dict Y6 (ZA (pv 6) ZE)) (UZ Zf (pv 8) (UZ Zf (pv 9) (UZ Zf (pv 4) Fz)))) rfl rfl (by simp) (by decide))))
   (ZC (ZZ 14 Vb.nd (ZM GB' hr rfl mB kB bB .nil ZT (ZA (pv 5) (ZA (pv 13) (ZA (pv 12) (ZA (ZY Za (Ze hu (pv 8) (pv 11) (fun _ _=>rfl)) ZG) (ZA ZG ZE)))))))
   (ZC (Zh (ZV Jl (ZM GZ hr rfl mZ kZ bZ .nil ZT (ZA (pv 14) ZE)) ZG (Zb _))
    (ZH (ZZ 14 Vb.nd (ZM GP hr rfl mP kP bP .nil ZT (ZA (pv 5) (ZA (pv 13) (ZA (pv 12) (ZA (ZY Za (Ze hu (pv 8) (pv 11) (fun _ _=>rfl)) ZG) ZE))))))) ZU)
   (ZH (YC (Vw PySem.F.plainAttrs_list PySem.F.slot_list_append PySem.F.type_list_append Yf (pv 10) (ZA (Zs (ZA (pv 11) (ZA (ZY Za (Ze hu (pv 8) (pv 11) (fun _ _=>rfl)) ZG) (ZA (ZY Za (Ze hu (pv 8) (pv 11) (fun _ _=>rfl)) ZG) (ZA (pv 14) ZE))))) ZE)))))))))
  (ZH (ZW (Zs (ZA (pv 6) (ZA (pv 10) ZE))))))))))),?_⟩
 dsimp only [Ys,Cx.nox,Cx.wish];show let a:=_;let b:=_;let c:=_;let d:=ZQ (Zw _ c _) b;let e:=ZQ _ d;let f:=ZQ _ e;let g:=ZQ _ f;let h:=ZQ (VX _ _ g) a;let i:=ZQ _ h;let j:=ZQ _ i;let k:=ZQ _ j;let l:=ZQ _ k;let m:=ZQ _ l;ZQ _ m _ _ _
 intros
 have emin:(if (30:Int) < (top:Int) then (30:Int) else (top:Int))=((30:Nat):Int):=by split <;> omega
 refine ⟨cell,rfl,fun p H1 fp b1 s1=>?_⟩;refine ⟨_,_,rfl,p,most,30,by rw [emin];rfl,s1,m0,m6,by decide,fun r2 kl cn ks c d xs H2 b2 s2 f2 nr2 hr2 fkl nkp hkl hxs kk nd k0 k6 kg fcn ncp hns=>?_⟩;refine ⟨_,SqT.of hr2,rfl,?_⟩;refine ⟨p,kl,cn,many,top,ks,c,d,xs,rfl,s2,n0,n7,by omega,t3,nkp,ncp,hkl,hxs,kk,k0,k6,hns,fun hA kvs hs H3 b3 s3 fhA nhp hhA lk0 lkv hp wdh hok=>?_⟩;refine ⟨hA,kvs,hhA,fun oH=>?_⟩;have b4:SameB p H2 (upd H3 hA (.frz oH (.dK kvs))):=fun b o n e=>by rw [ZI (ZJ e fhA)];exact b3 b o n e
 have g4:upd H3 hA (.frz oH (.dK kvs)) hA=some (.frz oH (.dK kvs)):=ZD;have st4:Zy (upd H3 hA (.frz oH (.dK kvs))) p:=s3.keep (ZI (Ne.symm nhp));have tk4:TK H3 (upd H3 hA (.frz oH (.dK kvs))):=fun b us h=>by rw [ZI (fun e=>by rw [e,hhA] at h;cases h)];exact h
 have hp4:=hp.tk tk4;generalize upd H3 hA (.frz oH (.dK kvs))=H4 at b4 g4 st4 hp4 |-;refine ⟨p,3,rfl,st4,by decide,fun lA ly H5 b5 s5 flA nlp hlA lly wdl=>?_⟩;refine ⟨sl 2,fun sx hsx=>?_⟩;have s6:=ZF hsx (.lst [.int 0, .int 2]);have g6:upd H5 sx (.lst [.int 0, .int 2]) sx=some (.lst [.int 0, .int 2]):=ZD;have nsp:sx≠p:=s5.ne hsx;generalize upd H5 sx (.lst [.int 0, .int 2])=H6 at s6 g6 |-;refine ⟨p,2,rfl,s5.sm s6,by decide,by decide,fun r7 H7 r70 r71 b7 s7=>?_⟩;obtain ⟨kN,hkN,hat⟩:=K6 r70 r71;have lA7:H7 lA=some (.lst (ly.map V.str)):=b7.sb _ _ nlp (s6 _ _ hlA);have kl3:kN < ly.length:=by omega
 have lml:(ly.map V.str).length=ly.length:=List.length_map _;have aw:atI (ly.map V.str) ((kN:Nat):Int)=some (.str ly[kN]):=Z7 (by rw [List.getElem?_map,List.getElem?_eq_getElem kl3];rfl)
 have ix2:ixN (ly.map V.str).length 2=some 2:=by
  unfold ixN;rw [if_pos (by decide),if_pos (by omega)];rfl
 refine ⟨_,_,SqL.of (b7.sb _ _ nsp g6),hat,_,_,SqL.of lA7,aw,lA,_,2,2,rfl,rfl,lA7,ix2,?_⟩;have emap:(ly.map V.str).set 2 (.str ly[kN])=(ly.set 2 ly[kN]).map V.str:=by rw [List.map_set]
 rw [emap]
 have b8:SameB p H4 (upd H7 lA (.lst ((ly.set 2 ly[kN]).map V.str))):=fun b o n e=>by
  rw [ZI (ZJ e flA)];exact b7.sb b o n (s6 b o (b5 b o n e))
 have g8:upd H7 lA (.lst ((ly.set 2 ly[kN]).map V.str)) lA=some (.lst ((ly.set 2 ly[kN]).map V.str)):=ZD;have st8:Zy (upd H7 lA (.lst ((ly.set 2 ly[kN]).map V.str))) p:=s7.keep (ZI (Ne.symm nlp));generalize upd H7 lA (.lst ((ly.set 2 ly[kN]).map V.str))=H8 at b8 g8 st8 |-;refine ⟨sl 0,fun dl hdl=>?_⟩;have s9:=ZF hdl (.lst []);have g9:upd H8 dl (.lst []) dl=some (.lst []):=ZD;have ndp:dl≠p:=st8.ne hdl;have nld:lA≠dl:=ZJ g8 hdl;have kl8:=b8 _ _ nkp (b4 _ _ nkp hkl);have hA8:=b8 _ _ nhp g4;have nkd:kl≠dl:=ZJ kl8 hdl;have nhd:hA≠dl:=ZJ hA8 hdl;generalize upd H8 dl (.lst [])=H9 at s9 g9 |-;have b49:SameB p H4 H9:=b8.trans s9.sb;have b29:SameB p H2 H9:=b4.trans b49;have st9:=st8.sm s9;have hx9:HasL H9 xs (ks.map Yq):=Zv (s2.tkB b29) _ (YW ks) hxs;have hp9:HL H9 kvs hs:=hp4.tk (st4.tkB b49);have lkh:=hp9.len;have kl9:=s9 _ _ kl8;have hA9:=s9 _ _ hA8;have lA9:=s9 _ _ g8
 have sH9:Same H H9:=fun b o e=>by
  have n1:=ZJ e fp;exact b29 b o n1 (b2 b o n1 ((b1 b n1).trans e))
 have sH8:Same H H8:=fun b o e=>by
  have n1:=ZJ e fp;exact b8 b o n1 (b4 b o n1 (b2 b o n1 ((b1 b n1).trans e)))
 have fdl:H dl=none:=sH8.free hdl;refine ⟨hA,oH,kvs,rfl,hA9,?_⟩
 let I:Nat->St->Hp->Prop:=fun i U Hi=>GB p dl H9 Hi/\Zy Hi p/\∃ (zs:List V) (ds:List Dd),Hi dl=some (.lst zs)/\HasL Hi zs (ds.map Jr)/\ds.map (fun x:Dd=>x.1)=hs.take i/\(∀ x∈ds,FJ ks hs x)/\∃ z11 z12 z13 z14,U= [some (.int cell),some (.int most),some (.int many),some (.int top),some (.int left),some (.ref p),some (.ref kl),some (.ref cn),some (.ref hA),some (.ref lA),some (.ref dl),z11,z12,z13,z14]
 refine NZ I
  ⟨GB.refl _ _ _,st9, [], [],g9,HasL.nil,rfl,(fun z hz=>nomatch hz),_,_,_,_,rfl⟩ (fun i U Hi _ z=>z.1 _ _ nhp nhd hA9) ?_ ?_
 .rintro BB RR i kv U Hi hkv ⟨gi,si,zs,ds,hdi,hzi,lzi,dfi,z11,z12,z13,z14,rfl⟩
  have hkm:=List.mem_of_getElem? hkv;have i8:i < 8:=by have:=(List.getElem?_eq_some_iff.mp hkv).1;omega
  have tki:TK H9 Hi:=UN gi st9 g9 (fun _ z=>by cases z);have hpi:=hp9.tk tki;obtain ⟨⟨fn,ps,k⟩,hgi,ek1,hh,hv⟩:=hpi.at wdh.nd hkv;have hgm:=List.mem_of_getElem? hgi;obtain ⟨p3,pk,hk,psn,psw,psr⟩:=hok _ hgm;have hfd:JX hs fn=some (ps,k):=RH wdh.nd hgm
  have lzs:zs.length<=i:=by
   have e1:=hzi.length;have e2:=congrArg List.length lzi;rw [List.length_map] at e1 e2;rw [List.length_take] at e2;omega
  rw [ek1];dsimp only at hh hv p3 pk hk psn;generalize kv.2=v at hh hv;obtain ⟨t,l,xp,rfl,ht,hl,hxs'⟩:=Mg hh;have hAi:=gi _ _ nhp nhd hA9;have kli:=gi _ _ nkp nkd kl9;have lAi:=gi _ _ nlp nld lA9;obtain ⟨tp,rfl,prs⟩:=MN (K:=K) hxs';replace prs:WV K Hi tp (kvP ps):=prs;have lps:(kvP ps).length=ps.length:=List.length_map _
  have ndk:((kvP ps).map (·.1)).Nodup:=by
   unfold kvP;rw [List.map_map];unfold List.Nodup at psn |-;rw [List.pairwise_map] at psn |-;exact psn.imp fun hab q=>hab (Sum.inr.inj q)
  have dg:∀ {Hx:Hp},Hx hA=some (.frz oH (.dK kvs))->Zz Hx hA (.str fn) (some (.ref t)):=fun e=> .inl ⟨kvs,Sum.inr fn, .inr ⟨oH,e⟩,rfl,hv.symm⟩;refine ⟨_,dg hAi,_,_,SqT.of ht,rfl,l,tp,_,rfl,hl,prs,ndk,fun aA haA=>⟨aA,_,ZD,fun oA=>?_⟩⟩;rw [FQ];have s10:=ZF haA (.frz oA (.dK (kvP ps)));have g10:upd Hi aA (.frz oA (.dK (kvP ps))) aA=some (.frz oA (.dK (kvP ps))):=ZD;generalize upd Hi aA (.frz oA (.dK (kvP ps)))=H10 at s10 g10 |-
  have af10:AF H10 aA (ks.map (·.1)) 3 (kvP ps):=⟨oA,g10,by omega,fun kv hk'=>by
   obtain ⟨pr,hpr,e⟩:=List.mem_map.mp hk';exact ⟨pr.1,pr.2,e.symm,pk pr hpr⟩⟩
  intro wA hwA;have sK:TK H9 (upd H10 wA (.dK [])):=fun b us h=>ZF hwA _ _ _ (s10 _ _ (tki _ _ h));obtain ⟨ts,kvsK,exs,prK,ek,hshK⟩:=J6 (K:=K) (Zv sK _ (YW ks) hx9);refine ⟨kl,ts,kvsK,rfl,SqL.of (by rw [<-exs];exact ZF hwA _ _ _ (s10 _ _ kli)),prK,TF ek nd,fun shA hshA=>?_⟩;have nsw:shA≠wA:=fun e=>by rw [e,ZD] at hshA;cases hshA
  have hsh10:H10 shA=none:=by rw [ZI nsw] at hshA;exact hshA
  refine ?_;refine ⟨by rw [ZI (Ne.symm nsw),ZD], [(Sum.inr "shapes", .ref shA),(Sum.inr "heads", .ref hA),(Sum.inr "lets", .ref lA),(Sum.inr "left", .int left)],rfl,by show 4<=15;decide,?_⟩;refine ⟨shA,kvsK,by rw [ZI nsw,ZD],fun oS=>?_⟩
  have tkW0:TK (upd H10 wA (.dK [])) (upd (upd (upd (upd H10 wA (.dK [])) shA (.dK kvsK)) wA (wrD shA hA lA left)) shA (.frz oS (.dK kvsK))):=fun b us h=>by
   have n1:b≠wA:=fun e=>by rw [e,ZD] at h;cases h
   have n2:b≠shA:=fun e=>by rw [e,hshA] at h;cases h
   rw [ZI n2,ZI n1,ZI n2];exact h
  have s12:Same H10 (upd (upd (upd (upd H10 wA (.dK [])) shA (.dK kvsK)) wA (wrD shA hA lA left)) shA (.frz oS (.dK kvsK))):=((((Same.refl H10).putN hwA).putN hsh10).putN hwA).putN hsh10;have g12:upd (upd (upd (upd H10 wA (.dK [])) shA (.dK kvsK)) wA (wrD shA hA lA left)) shA (.frz oS (.dK kvsK)) shA=some (.frz oS (.dK kvsK)):=ZD;have w12:upd (upd (upd (upd H10 wA (.dK [])) shA (.dK kvsK)) wA (wrD shA hA lA left)) shA (.frz oS (.dK kvsK)) wA=some (wrD shA hA lA left):=by rw [ZI (Ne.symm nsw),ZD]
  show ZQ _ _ _ _ (upd (upd (upd (upd H10 wA (.dK [])) shA (.dK kvsK)) wA (wrD shA hA lA left)) shA (.frz oS (.dK kvsK)));generalize upd (upd (upd (upd H10 wA (.dK [])) shA (.dK kvsK)) wA (wrD shA hA lA left)) shA (.frz oS (.dK kvsK))=H12 at s12 g12 w12 tkW0 |-;have tkW:=tkW0;have sI:Same Hi H12:=s10.trans s12;have st12:=si.sm sI
  have hHF:HF Hi hA (ks.map (·.1)) (JX hs):=⟨oH,kvs,hAi,by omega,fun k1 hk'=>by
   obtain ⟨j1,hj1⟩:=List.mem_iff_getElem?.mp hk';obtain ⟨g1,a1,a2,a3,_⟩:=hpi.at wdh.nd hj1;have m1:=List.mem_of_getElem? a1;exact ⟨g1.1,g1.2.1,g1.2.2,a2,a3,(hok _ m1).len,(hok _ m1).kin,(hok _ m1).own,RH wdh.nd m1⟩⟩
  have wr12:Wr H12 wA ks (JX hs) lA:=⟨shA,hA,_,left,w12,⟨oS,kvsK,g12,ek,fun y s e=>let ⟨v,e1,e2⟩:=hshK y s e;⟨v,e1,Yh tkW _ (Shp.st _) e2⟩⟩,hHF.mono sI,sI _ _ lAi,by rw [List.length_set];omega⟩
  have hwi:Hi wA=none:=by
   cases e:Hi wA with
   | none=>rfl
   | some u=>rw [s10 _ _ e] at hwA;cases hwA
  refine ⟨_,dg (sI _ _ hAi),_,_,SqT.of (sI _ _ ht),rfl,p,wA,aA,lA,k,ks,JX hs,kvP ps,c,d,3,rfl,st12,wr12,af10.mono s12 (Nat.le_refl _),by decide,kk,k6,hk,fun u1 H13 b13 l13 gb13 st13 wr13 ln13 hu13 ok13 dp13 kd13=>?_⟩;have sb13:SameB p Hi H13:=fun b o n e=>gb13 b o n (ZJ e hwi) (sI b o e);dsimp only [Yi];refine Vi (fun U' H'=> ∃ (v:V) (b:Bd),SameB p Hi H'/\Zy H' p/\Has H' v b.dat/\FJ ks hs ((fn,ps,k),b)/\U'= [some (.int cell),some (.int most),some (.int many),some (.int top),some (.int left),some (.ref p),some (.ref kl),some (.ref cn),some (.ref hA),some (.ref lA),some (.ref dl),some (.str fn),some (.ref aA),some (.ref wA),some v]) ?_ ?_
  .rintro U' H' ⟨v,b,sb,st,hb,okb,rfl⟩
   have tkH:=si.tkB sb;have dl':=sb _ _ ndp hdi;refine ⟨.inl ⟨rfl,_,SqL.of dl'⟩,_,dg (sb _ _ nhp hAi),_,_,SqT.of (tkH _ _ ht),rfl,_,dg (sb _ _ nhp hAi),_,_,SqT.of (tkH _ _ ht),rfl,sl 4,fun tt htt=>?_⟩;have sT:=ZF htt (.tup [.str fn, .ref l, .str k,v]);have gT:upd H' tt (.tup [.str fn, .ref l, .str k,v]) tt=some (.tup [.str fn, .ref l, .str k,v]):=ZD;generalize upd H' tt (.tup [.str fn, .ref l, .str k,v])=HT at sT gT |-;have dlT:=sT _ _ dl';refine ⟨dl,zs,_,rfl,rfl,dlT,ZK (by omega),?_⟩;have gbw:GB p dl HT (upd HT dl (.lst (zs++ [.ref tt]))):=BU;have tkw:TK HT (upd HT dl (.lst (zs++ [.ref tt]))):=UN gbw (st.sm sT) dlT (fun _ z=>by cases z);refine ⟨fun b o n1 n2 e=>gbw b o n1 n2 (sT b o (sb b o n1 (gi b o n1 n2 e))),(st.sm sT).keep (ZI (Ne.symm ndp)),zs++ [.ref tt],ds++ [((fn,ps,k),b)],ZD,?_,by rw [List.map_append,lzi,take_snoc hgi];rfl,fun z hz=>?_,_,_,_,_,rfl⟩
   .rw [List.map_append]
    refine HasL.append (Zv (fun b us h=>tkw _ _ (sT _ _ (tkH _ _ h))) _ (Ui ds) hzi) (HasL.one ?_);unfold Jr;exact Zr (tkw _ _ gT) (HasL.cons YG (HasL.cons (Zr (tkw _ _ (sT _ _ (tkH _ _ hl))) (Zv (fun b us h=>tkw _ _ (sT _ _ (tkH _ _ h))) _ (Xi ps) hxs')) (HasL.cons YG (HasL.one (Yh (fun b us h=>tkw _ _ (sT _ _ h)) _ (Bd.st _) hb)))))
   .rcases List.mem_append.mp hz with hz | hz
    .exact dfi z hz
    .cases List.mem_singleton.mp hz
     exact okb
  .intro N key
   refine ⟨u1,b13,rfl,hu13,ok13,by omega,by omega,fun H14 s14=>?_⟩;refine ⟨_,rfl,?_⟩;have sb14:SameB p Hi H14:=sb13.trans s14.sb;refine Yr (fun c1=>?_) (fun c1=>key _ _ ⟨u1,b13,sb14,st13.sm s14,hu13.mono s14,⟨kd13,ok13,by show b13.dep<=11;omega,?_⟩,rfl⟩)
   .have wr14:=wr13.mono s14
    have st14:=st13.sm s14;have dk:=kk.small hk;refine ⟨_,dg (sb14 _ _ nhp hAi),_,_,SqT.of (si.tkB sb14 _ _ ht),rfl,p,wA,aA,l13,k,ks,JX hs,kvP ps,c,d,rfl,st14,wr14,((af10.mono s12 (Nat.le_refl _)).gb gb13 st12 wr12).mono s14 (by decide),kk,hk,by omega,fun u5 H15 b15 l15 gb15 st15 wr15 ln15 hu15 ok15 dp15 kd15=>?_⟩;have sz:b15.size<=6 ^ 2:=Bd.size_le 2 b15 (by omega) ok15;exact key _ _ ⟨u5,b15,fun b o n e=>gb15 b o n (ZJ e hwi) (sb14 b o n e),st15,hu15,⟨kd15,ok15,by show b15.dep<=11;omega,by show b15.size<=40;omega⟩,rfl⟩
   .have c1': ¬ ((40:Int) < ((b13.size:Nat):Int)):=fun z=>c1 (decide_eq_true z)
    show b13.size<=40;omega
 .rintro U Hi ⟨gi,si,zs,ds,hdi,hzi,lzi,dfi,z11,z12,z13,z14,rfl⟩
  refine ⟨sl 2,fun t ht=>?_⟩;have sT:=ZF ht (.tup [.ref kl, .ref dl]);have tki:TK H9 Hi:=UN gi st9 g9 (fun _ z=>by cases z);rw [lkh,List.take_length] at lzi;exact q t kl dl ks c d hs ds xs zs _ (fun b o e=>sT _ _ (gi b o (ZJ e fp) (ZJ e fdl) (sH9 b o e))) ZD (sT _ _ (gi _ _ nkp nkd kl9)) (Zv (fun b us h=>sT _ _ (tki _ _ h)) _ (YW ks) hx9) kk nd k0 k6 kg (sT _ _ hdi) (hzi.mono sT) lzi lk0 lkv wdh hok dfi
end
end K4
namespace L2
open PySem
end L2
namespace K4
open PySem L2
section
def XZ:Sp:=fun vs H Q _=> ∃ (x:Str) (o:Nat),vs= [.str x, .str (alpha o)]/\(o=97 \/ o=65)/\1<=x.length/\x.length<=8/\(∀ c∈x.cps.toList,o<=c/\c < o + 26)/\∀ H',Same H H'->Q (.bl true) H'
theorem Fb:ZX ["text","letters"] ["text","letters"] (ZL Rq):=Zl
theorem OX:List.Nodup [("sign" :Str),"letters"]:=by decide +kernel
theorem Dv(B:Blt mg)(F:Fun K "is_spelt" "is_spelt" Rq f fd)(hL:mg "LONGEST" =some u)(rL:RelV (.int 8) u):ZN P w K mg base CX0 (n + 1) f fd ["text","letters"] XZ:=by
 refine F.ok Fb (fun vs H Q E h=>?_) (fun cdv A outer s H vs Q E hr h=>?_)
 .obtain ⟨x,o,rfl,_⟩:=h
  rfl
 obtain ⟨x,o,rfl,ho,l1,l8,hc,q⟩:=h;refine ⟨_,ZC (Zh (Yk (YN (VD rfl B.isi rfl B.str J9 (pv 0)))) (ZH (ZW UB)) ZU)
  (ZH (ZW (UL (Do XG XG ZG (Zj Uk rfl B.len PySem.boot_len (ZA (pv 0) ZE)) (Y3 rfl hL rL))
   (UK (Zj (RS rfl) rfl B.all W0 (ZA (Yd ["sign"] [1] (LW (pv 0)) (YI (i:=0) (by decide))
    (fun cl C fp s H=>ZO 0 OX rfl (Or.inl rfl) (Or.inr rfl)) (fun cl C fp s H=>Y4 N3 (pv 0) (pv 1) rfl)) ZE)))))),?_⟩
 refine ⟨_,_,_,_,rfl, .str x,RD K "str",_,rfl,?_⟩;refine Zk (by simp) ?_;have ls:x.length<=sizeLine:=Nat.le_of_lt (ZK (by omega));refine ⟨x,rfl,ls,_,rfl,?_⟩;refine Yb (by simp;omega) ?_;refine ⟨_,rfl,?_⟩;refine Yb (by simp;omega) ?_;refine ⟨x,rfl,?_⟩;have lx:x.cps.size=x.length:=rfl;refine YE x.length (ZK (by omega)) (fun i vs H'=>Same H H'/\vs=List.replicate i (V.bl true)) ⟨Same.refl _,rfl⟩ (fun i vs H' z=>by rw [z.2];simp) ?_ ?_ ?_ ?_
 .intro i vs H' hi z
  exact hi
 .intro vs H' z
  exact Nat.le_refl _
 .intro i vs H' v H'' R hi z yl hR
  obtain ⟨rfl,c,hcc,rfl⟩:=yl;refine ⟨_,_,rfl,rfl,?_⟩
  have hm:c∈x.cps.toList:=by
   have:=Array.mem_of_getElem? hcc;exact Array.mem_toList_iff.mpr this
  obtain ⟨i',r',e'⟩:=EO ho (hc c hm);have e2:Builtin.Str.occurrences (alpha o) ⟨#[c]⟩ 0 (alpha o).length 1=i'::r':=e';rw [e2];exact hR _ _ ⟨z.1,by rw [z.2,List.replicate_succ'];rfl⟩
 .intro vs H' p z hp
  refine ⟨p,List.replicate x.length true,rfl,SqL.of (by rw [ZD,z.2,List.map_replicate]),?_⟩;rw [show (List.replicate x.length true).all id=true by simp];exact q _ (z.1.trans (ZF hp _))
def Jd(o:Nat):Sp:=fun vs H Q _=> ∃ (x:Str),vs= [.str x]/\1<=x.length/\x.length<=8/\(∀ c∈x.cps.toList,o<=c/\c < o + 26)/\∀ H',Same H H'->Q (.bl true) H'
theorem B7:ZX ["text"] ["text"] (ZL Gq):=Zl
theorem BE(F:Fun K "is_name" "is_name" Gq f fd)(G:ZN P w K mg base CX0 n g gd ["text","letters"] XZ)(bG:Binds K gd ["text","letters"] [])(kG:W.keepIn K (.ref g)=true)(mG:mg "is_spelt" =some (.ref g))(hL:mg "SMALL" =some u)(rL:RelV (.str (Str.ofString "abcdefghijklmnopqrstuvwxyz")) u):ZN P w K mg base CX0 (n + 1) f fd ["text"] (Jd 97):=by
 refine F.ok B7 (fun vs H Q E h=>?_) (fun cdv A outer s H vs Q E hr h=>?_)
 .obtain ⟨x,rfl,_⟩:=h
  rfl
 obtain ⟨x,rfl,l1,l8,hc,q⟩:=h;refine ⟨_,ZH (ZW (ZM G hr rfl mG kG bG .nil ZT (ZA (pv 0) (ZA (Y3 rfl hL rL) ZE)))),?_⟩;refine ⟨x,97,?_, .inl rfl,l1,l8,hc,q⟩;rw [<-Wl];rfl
theorem Fi:ZX ["text"] ["text"] (ZL MC):=Zl
theorem ED(F:Fun K "is_tag" "is_tag" MC f fd)(G:ZN P w K mg base CX0 n g gd ["text","letters"] XZ)(bG:Binds K gd ["text","letters"] [])(kG:W.keepIn K (.ref g)=true)(mG:mg "is_spelt" =some (.ref g))(hL:mg "GREAT" =some u)(rL:RelV (.str (Str.ofString "ABCDEFGHIJKLMNOPQRSTUVWXYZ")) u):ZN P w K mg base CX0 (n + 1) f fd ["text"] (Jd 65):=by
 refine F.ok Fi (fun vs H Q E h=>?_) (fun cdv A outer s H vs Q E hr h=>?_)
 .obtain ⟨x,rfl,_⟩:=h
  rfl
 obtain ⟨x,rfl,l1,l8,hc,q⟩:=h;refine ⟨_,ZH (ZW (ZM G hr rfl mG kG bG .nil ZT (ZA (pv 0) (ZA (Y3 rfl hL rL) ZE)))),?_⟩;refine ⟨x,65,?_, .inr rfl,l1,l8,hc,q⟩;rw [<-Wu];rfl
end
end K4
namespace L2
open PySem
def UM(ks:List (Str × Shp)):Nat->Str->Nat
 | 0,_=>0
 | n + 1,y=>match YQ ks y with
  | none=>0
  | some (.tags _)=>1
  | some (.pair a b)=>1 + UM ks n a + UM ks n b
def Yy(t:Str):Shp->Bool
 | .tags ts=>decide (t∈ts)
 | .pair _ _=>false
def Yp(a b:Str):Shp->Bool
 | .tags _=>false
 | .pair c e=>decide (c=a) && decide (e=b)
def Y1(ks:List (Str × Shp))(t:Str):Option Str:=(ks.find? fun k=>Yy t k.2).map (·.1)
def Ym(ks:List (Str × Shp))(a b:Str):Option Str:=(ks.find? fun k=>Yp a b k.2).map (·.1)
theorem J8{α:Type}(p:α->Bool)(l:List α)(x:α):(l++ [x]).find? p=(l.find? p).or (if p x=true then some x else none):=by
 rw [List.find?_append]
 congr 1
 rw [List.find?_cons];cases p x <;> simp
theorem Us(h:z∈ks.map (·.1)):YQ (ks++ [x]) z=YQ ks z:=by
 obtain ⟨s,hs⟩:=Yj h;unfold YQ at hs |-;rw [J8]
 cases e:ks.find? fun k=>decide (k.1=z) with
 | none=>rw [e] at hs;cases hs
 | some k=>rfl
theorem Nu(h:z ∉ ks.map (·.1)):YQ ks z=none:=by
 cases e:YQ ks z with
 | none=>rfl
 | some s=>exact absurd (List.mem_map.mpr ⟨_,Jg e,rfl⟩) h
theorem X1(h:z ∉ ks.map (·.1)):YQ (ks++ [(z,s)]) z=some s:=by
 have q:=Nu h;unfold YQ at q |-;rw [J8]
 cases e:ks.find? fun k=>decide (k.1=z) with
 | none=>simp
 | some k=>rw [e] at q;cases q
theorem VW(h:KK top c d ks)(x:Str × Shp):∀ (n:Nat) (z:Str),z∈ks.map (·.1)->Zd (ks++ [x]) n z=Zd ks n z
 | 0,_,_=>rfl
 | n + 1,z,hz=>by
  obtain ⟨s,hs⟩:=Yj hz;rw [V5 hs,V5 ((Us hz).trans hs)]
  cases s with
  | tags ts=>rfl
  | pair a b=>
   obtain ⟨h1,h2,_⟩:=h.at hs;show (W.non::_)=(W.non::_);rw [VW h x n a h1,VW h x n b h2]
def hOf(ks:List (Str × Shp))(n:Nat):Shp->Nat
 | .tags _=>1
 | .pair a b=>1 + UM ks n a + UM ks n b
theorem Uc(h:YQ ks y=some s):UM ks (n + 1) y=hOf ks n s:=by
 conv=>lhs;unfold UM
 rw [h];cases s <;> rfl
theorem JB(h:KK top c d ks)(x:Str × Shp):∀ (n:Nat) (z:Str),z∈ks.map (·.1)->UM (ks++ [x]) n z=UM ks n z
 | 0,_,_=>rfl
 | n + 1,z,hz=>by
  obtain ⟨s,hs⟩:=Yj hz;rw [Uc hs,Uc ((Us hz).trans hs)]
  cases s with
  | tags ts=>rfl
  | pair a b=>
   obtain ⟨h1,h2,_⟩:=h.at hs;show 1 + _ + _=1 + _ + _;rw [JB h x n a h1,JB h x n b h2]
theorem J7(h:KK top c d ks):∀ (n m:Nat) (y:Str),y∈ks.map (·.1)->d y < n->d y < m->UM ks n y=UM ks m y
 | 0,_,_,_,h1,_=>absurd h1 (Nat.not_lt_zero _)
 | _ + 1,0,_,_,_,h2=>absurd h2 (Nat.not_lt_zero _)
 | n + 1,m + 1,y,hy,h1,h2=>by
  obtain ⟨s,hs⟩:=Yj hy;have k1:=h.at hs;rw [Uc hs,Uc hs]
  cases s with
  | tags ts=>rfl
  | pair a b=>
   obtain ⟨q1,q2,q3,q4,q5,q6⟩:=k1;have m1:=Nat.le_max_left (d a) (d b);have m2:=Nat.le_max_right (d a) (d b);show 1 + _ + _=1 + _ + _;rw [J7 h n m a q1 (by omega) (by omega),J7 h n m b q2 (by omega) (by omega)]
structure KA6 where
 t:Addr
 dx:Addr
 sh:Addr
 wo:Addr
 he:Addr
 pd:Addr
 tk:Addr
 pk:Addr
structure KC where
 sh:List (Key × V)
 wo:List (Key × V)
 he:List (Key × V)
 pd:List (Key × V)
 tk:List (Key × V)
 pk:List (List Key × V)
def XQ(A:KA6):List (Str × V):= [("shapes", .ref A.sh),("worths", .ref A.wo),("heights", .ref A.he),("pairs_deep", .ref A.pd),("tag_kinds", .ref A.tk),("pair_kinds", .ref A.pk)]
def KA6.ds(A:KA6):List Addr:= [A.sh,A.wo,A.he,A.pd,A.tk,A.pk]
structure KD(H:Hp)(C:Addr)(A:KA6)(S:KC):Prop where
 ins:H A.t=some (.ins C A.dx (XQ A))
 sh:H A.sh=some (.dK S.sh)
 wo:H A.wo=some (.dK S.wo)
 he:H A.he=some (.dK S.he)
 pd:H A.pd=some (.dK S.pd)
 tk:H A.tk=some (.dK S.tk)
 pk:H A.pk=some (.dT S.pk)
 nd:A.ds.Nodup
structure KR(H:Hp)(S:KC)(ks:List (Str × Shp))(d:Str->Nat):Prop where
 ke:S.sh.map (·.1)=ks.map (fun k=>Sum.inr k.1)
 sh:∀ y s,YQ ks y=some s->∃ v,Zp S.sh (Sum.inr y)=some v/\Has H v s.dat
 wo:∀ y∈ks.map (·.1),∃ l xs,Zp S.wo (Sum.inr y)=some (.ref l)/\H l=some (.lst xs)/\HasL H xs ((Zd ks 3 y).map W.dat)
 he:∀ y∈ks.map (·.1),Zp S.he (Sum.inr y)=some (.int (UM ks 3 y:Nat))
 pd:∀ y∈ks.map (·.1),Zp S.pd (Sum.inr y)=some (.int (d y:Nat))
 tk:∀ x:Str,Zp S.tk (Sum.inr x)=(Y1 ks x).map V.str
 pk:∀ a b:Str,Zp S.pk [Sum.inr a,Sum.inr b]=(Ym ks a b).map V.str
 ln:S.sh.length<=4 * ks.length/\S.wo.length<=4 * ks.length/\S.he.length<=4 * ks.length/\S.pd.length<=4 * ks.length/\S.tk.length<=4 * ks.length/\S.pk.length<=4 * ks.length
def KI(H:Hp)(C t:Addr)(ks:List (Str × Shp))(d:Str->Nat):Prop:= ∃ A S,A.t=t/\KD H C A S/\KR H S ks d
theorem KD.mono(k:KD H C A S)(e:Same H H'):KD H' C A S:=⟨e _ _ k.ins,e _ _ k.sh,e _ _ k.wo,e _ _ k.he,e _ _ k.pd,e _ _ k.tk,e _ _ k.pk,k.nd⟩
def TL(H H':Hp):Prop:=(∀ b xs,H b=some (.tup xs)->H' b=some (.tup xs))/\∀ b xs,H b=some (.lst xs)->H' b=some (.lst xs)
theorem Same.tl(e:Same H H'):TL H H':=⟨fun b xs h=>e _ _ h,fun b xs h=>e _ _ h⟩
theorem TL.trans(a:TL H H1)(b:TL H1 H2):TL H H2:=⟨fun c xs h=>b.1 _ _ (a.1 _ _ h),fun c xs h=>b.2 _ _ (a.2 _ _ h)⟩
mutual
theorem Has.tl{H H':Hp}(e:TL H H'):∀ (d:Dat) {v:V},Has H v d->Has H' v d
 | .non,_,h=>by unfold Has at h |-;exact h
 | .bl _,_,h=>by unfold Has at h |-;exact h
 | .int _,_,h=>by unfold Has at h |-;exact h
 | .str _,_,h=>by unfold Has at h |-;exact h
 | .tup ds,_,h=>by
  unfold Has at h |-;obtain ⟨a,xs,h1,h2,h3⟩:=h;exact ⟨a,xs,h1,e.1 _ _ h2,HasL.tl e ds h3⟩
 | .lst ds,_,h=>by
  unfold Has at h |-;obtain ⟨a,xs,h1,h2,h3⟩:=h;exact ⟨a,xs,h1,e.2 _ _ h2,HasL.tl e ds h3⟩
theorem HasL.tl{H H':Hp}(e:TL H H'):∀ (ds:List Dat) {xs:List V},HasL H xs ds->HasL H' xs ds
 | [], [],h=>by unfold HasL;trivial
 | [],_::_,h=>by unfold HasL at h;exact h.elim
 | _::_, [],h=>by unfold HasL at h;exact h.elim
 | d::ds,x::xs,h=>by
  unfold HasL at h |-;exact ⟨Has.tl e d h.1,HasL.tl e ds h.2⟩
end
theorem KR.tl(k:KR H S ks d)(e:TL H H'):KR H' S ks d:=
 ⟨k.ke,fun y s h=>let ⟨v,h1,h2⟩:=k.sh y s h;⟨v,h1,Has.tl e _ h2⟩,fun y h=>let ⟨l,xs,h1,h2,h3⟩:=k.wo y h;⟨l,xs,h1,e.2 _ _ h2,HasL.tl e _ h3⟩,k.he,k.pd,k.tk,k.pk,k.ln⟩
theorem KI.mono(k:KI H C t ks d)(e:Same H H'):KI H' C t ks d:=by
 obtain ⟨A,S,h1,h2,h3⟩:=k;exact ⟨A,S,h1,h2.mono e,h3.tl e.tl⟩
inductive Th where
 | non | str (x:Str) | oth | tupn | pair (a b:Th)
theorem Jo(x:Str)(ts:List Str):inV (.str x) (ts.map V.str)=decide (x∈ts):=by
 induction ts with
 | nil=>rfl
 | cons t ts ih=>
  have e:inV (.str x) ((t::ts).map V.str)=((t==x) || inV (.str x) (ts.map V.str)):=rfl;rw [e,ih]
  by_cases h:t=x
  .subst h;simp
  .have h': ¬ x=t:=fun q=>h q.symm
   simp [h,h']
theorem JD(ts:List Str):(ts.map V.str).all Ue=true:=by
 induction ts with
 | nil=>rfl
 | cons t ts ih=>simp only [List.map_cons,List.all_cons,ih];rfl
structure KCl(K:W.Frag)(C:Addr):Prop where
 cl:Cls K C
 sh:Yz K C "shapes"
 wo:Yz K C "worths"
 he:Yz K C "heights"
 pd:Yz K C "pairs_deep"
 tk:Yz K C "tag_kinds"
 pk:Yz K C "pair_kinds"
theorem Mp(A:KA6):(XQ A).lookup ("shapes" :Str)=some (V.ref A.sh):=rfl
theorem Ey(A:KA6):(XQ A).lookup ("worths" :Str)=some (V.ref A.wo):=rfl
theorem KH(A:KA6):(XQ A).lookup ("heights" :Str)=some (V.ref A.he):=rfl
theorem KF(A:KA6):(XQ A).lookup ("pairs_deep" :Str)=some (V.ref A.pd):=rfl
theorem Lw(A:KA6):(XQ A).lookup ("tag_kinds" :Str)=some (V.ref A.tk):=rfl
theorem Lx(A:KA6):(XQ A).lookup ("pair_kinds" :Str)=some (V.ref A.pk):=rfl
theorem Nt(k:KD H C A S)(r:KR H S ks d)(h:YQ ks y=some s):∃ v,Zz H A.sh (.str y) (some v)/\Has H v s.dat:=by
 obtain ⟨v,h1,h2⟩:=r.sh y s h;exact ⟨v,by rw [<-h1];exact Zz.k (k:=Sum.inr y) k.sh,h2⟩
end L2
namespace K4
open PySem L2
section
variable{f g C:Addr}
def JJ(C:Addr):Sp:=fun vs H Q _=> ∃ (t:Addr) (ks:List (Str × Shp)) (d:Str->Nat),vs= [.ref t]/\KI H C t ks d/\∀ l H',Same H H'->H l=none->H' l=some (.lst (ks.map fun k=>V.str k.1))->Q (.ref l) H'
theorem Fd:ZX ["self"] ["self"] (ZL Rw):=Zl
theorem D5(B:Blt mg)(T:KCl K C)(F:Fun K "names" "Kinds.names" Rw f fd):ZN P w K mg base CX0 (n + 1) f fd ["self"] (JJ C):=by
 refine F.ok Fd (fun vs H Q E h=>?_) (fun cdv A outer s H vs Q E hr h=>?_)
 .obtain ⟨t,ks,d,rfl,_⟩:=h
  rfl
 obtain ⟨t,ks,d,rfl,⟨A',S,rfl,kd,kr⟩,q⟩:=h;refine ⟨_,ZH (ZW (Zo (Js rfl) rfl B.list YF (ZA (Zt (pv 0) rfl) ZE))),?_⟩;refine ⟨C,_,_,_,kd.ins,T.cl,T.sh,Mp _,_,_,rfl,kd.sh,fun l hl=>?_⟩;refine q l _ (ZF hl _) hl ?_;rw [ZD];have e:(S.sh.map fun kv=>kV kv.1)=(S.sh.map (·.1)).map kV:=by rw [List.map_map];rfl
 rw [e,kr.ke,List.map_map]
 rfl
def V6(C:Addr):Sp:=fun vs H Q _=> ∃ (t:Addr) (ks:List (Str × Shp)) (d:Str->Nat) (y:Str) (s:Shp),vs= [.ref t, .str y]/\KI H C t ks d/\YQ ks y=some s/\∀ v,Has H v s.dat->Q v H
theorem Nw:ZX ["self","kind"] ["self","kind"] (ZL X4):=Zl
theorem MU(T:KCl K C)(F:Fun K "shape_of" "Kinds.shape_of" X4 f fd):ZN P w K mg base CX0 (n + 1) f fd ["self","kind"] (V6 C):=by
 refine F.ok Nw (fun vs H Q E h=>?_) (fun cdv A outer s H vs Q E hr h=>?_)
 .obtain ⟨t,ks,d,y,s,rfl,_⟩:=h
  rfl
 obtain ⟨t,ks,d,y,s,rfl,⟨A',S,rfl,kd,kr⟩,hs,q⟩:=h;have hu:=Yg hr;obtain ⟨v,h1,h2⟩:=Nt kd kr hs;refine ⟨_,ZH (ZW (Ze hu (Zt (pv 0) rfl) (pv 1) (fun _ _=>rfl))),?_⟩;exact ⟨C,_,_,_,kd.ins,T.cl,T.sh,Mp _,v,h1,q v h2⟩
def Xw(C:Addr):Sp:=fun vs H Q _=> ∃ (t:Addr) (ks:List (Str × Shp)) (d:Str->Nat) (x:Str),vs= [.ref t, .str x]/\KI H C t ks d/\Q (((Y1 ks x).map V.str).getD .non) H
theorem B6:ZX ["self","tag"] ["self","tag"] (ZL Gp):=Zl
theorem BC(T:KCl K C)(F:Fun K "kind_of_tag" "Kinds.kind_of_tag" Gp f fd):ZN P w K mg base CX0 (n + 1) f fd ["self","tag"] (Xw C):=by
 refine F.ok B6 (fun vs H Q E h=>?_) (fun cdv A outer s H vs Q E hr h=>?_)
 .obtain ⟨t,ks,d,x,rfl,_⟩:=h
  rfl
 obtain ⟨t,ks,d,x,rfl,⟨A',S,rfl,kd,kr⟩,q⟩:=h;have hu:=Yg hr;refine ⟨_,ZH (ZW (WE hu (Zt (pv 0) rfl) (pv 1) ⟨rfl,rfl,rfl,rfl⟩)),?_⟩;exact ⟨C,_,_,_,kd.ins,T.cl,T.tk,Lw _, .inl ⟨_, .inl kd.tk⟩,_,by rw [<-kr.tk x];exact Zz.k (k:=Sum.inr x) kd.tk,q⟩
def Uq(C:Addr):Sp:=fun vs H Q _=> ∃ (t:Addr) (ks:List (Str × Shp)) (d:Str->Nat) (a b:Str),vs= [.ref t, .str a, .str b]/\KI H C t ks d/\∀ H',Same H H'->Q (((Ym ks a b).map V.str).getD .non) H'
theorem Nx:ZX ["self","one","other"] ["self","one","other"] (ZL X7):=Zl
theorem MX(T:KCl K C)(F:Fun K "kind_of_pair" "Kinds.kind_of_pair" X7 f fd):ZN P w K mg base CX0 (n + 1) f fd ["self","one","other"] (Uq C):=by
 refine F.ok Nx (fun vs H Q E h=>?_) (fun cdv A outer s H vs Q E hr h=>?_)
 .obtain ⟨t,ks,d,a,b,rfl,_⟩:=h
  rfl
 obtain ⟨t,ks,d,a,b,rfl,⟨A',S,rfl,kd,kr⟩,q⟩:=h;have hu:=Yg hr;refine ⟨_,ZH (ZW (WE hu (Zt (pv 0) rfl) (Zs (ZA (pv 1) (ZA (pv 2) ZE))) ⟨rfl,rfl,rfl,rfl⟩)),?_⟩;refine ⟨C,_,_,_,kd.ins,T.cl,T.pk,Lx _, .inr ⟨_, .inl kd.pk⟩,sl 2,fun p hp=>?_⟩;have s1:=ZF hp (.tup [.str a, .str b]);exact ⟨_,by rw [<-kr.pk a b];exact Zz.t (k:= [Sum.inr a,Sum.inr b]) (s1 _ _ kd.pk) ZD,q _ s1⟩
def VM(C:Addr):Sp:=fun vs H Q _=> ∃ (t:Addr) (ks:List (Str × Shp)) (d:Str->Nat) (y:Str),vs= [.ref t, .str y]/\KI H C t ks d/\y∈ks.map (·.1)/\
 ∀ l xs H',Same H H'->H l=none->H' l=some (.lst xs)->HasL H' xs ((Zd ks 3 y).map W.dat)->Q (.ref l) H'
theorem Rn:ZX ["self","kind"] ["self","kind"] (ZL Uu):=Zl
theorem T5(B:Blt mg)(T:KCl K C)(F:Fun K "worths_of" "Kinds.worths_of" Uu f fd):ZN P w K mg base CX0 (n + 1) f fd ["self","kind"] (VM C):=by
 refine F.ok Rn (fun vs H Q E h=>?_) (fun cdv A outer s H vs Q E hr h=>?_)
 .obtain ⟨t,ks,d,y,rfl,_⟩:=h
  rfl
 obtain ⟨t,ks,d,y,rfl,⟨A',S,rfl,kd,kr⟩,hy,q⟩:=h;have hu:=Yg hr;obtain ⟨l,xs,h1,h2,h3⟩:=kr.wo y hy;refine ⟨_,ZH (ZW (Zo YY rfl B.list YF (ZA (Ze hu (Zt (pv 0) rfl) (pv 1) (fun _ _=>rfl)) ZE))),?_⟩;refine ⟨C,_,_,_,kd.ins,T.cl,T.wo,Ey _,_,by rw [<-h1];exact Zz.k (k:=Sum.inr y) kd.wo,l,xs,rfl, .inl (SqL.of h2),fun r hr'=>?_⟩;have s1:=ZF hr' (.lst xs);exact q r xs _ s1 hr' ZD (h3.mono s1)
end
end K4
namespace L2
open PySem
def Kr(ks:List (Str × Shp))(hd:Hds)(kv:List (Key × V))(y:Str):Bd->List Str->Prop
 | .tag t,zs=>zs= []/\∃ ts,YQ ks y=some (.tags ts)/\t∈ts
 | .name x,zs=>zs= []/\Zp kv (Sum.inr x)=some (.str y)
 | .pair _ _,zs=> ∃ a b,zs= [a,b]/\YQ ks y=some (.pair a b)
 | .one _,zs=> ∃ z b,zs= [z]/\YQ ks z=some (.pair y b)
 | .other _,zs=> ∃ z a,zs= [z]/\YQ ks z=some (.pair a y)
 | .choose _ ts bs,zs=> ∃ z,zs=z::List.replicate bs.length y/\YQ ks z=some (.tags ts)/\bs.length=ts.length
 | .ask f _,zs=> ∃ ps:List (Str × Str),hd f=some (ps,y)/\zs=ps.map (·.2)
 | .letb x z _ _,zs=>zs= [z,y]/\Zp kv (Sum.inr x)=none/\z∈ks.map (·.1)
def wth(kv:List (Key × V)):Bd->List (Key × V)
 | .letb x z _ _=>putK kv (Sum.inr x) (.str z)
 | _=>kv
theorem Kd.inv(h:Kd ks hd kv y b):
  ∃ zs,Kr ks hd kv y b zs/\zs.length=b.parts.length/\∀ (i:Nat) (p:Bd) (z:Str),b.parts[i]?=some p->zs[i]?=some z->Kd ks hd (wth kv b) z p:=by
 cases h with
 | tag h1 h2=>exact ⟨[],⟨rfl,_,h1,h2⟩,rfl,fun i p z e=>nomatch e⟩
 | name h1=>exact ⟨[],⟨rfl,h1⟩,rfl,fun i p z e=>nomatch e⟩
 | pair h1 h2 h3=>
  refine ⟨_,⟨_,_,rfl,h1⟩,rfl,fun i p z e1 e2=>?_⟩;rcases i with _ | _ | i
  .cases e1;cases e2;exact h2
  .cases e1;cases e2;exact h3
  .exact nomatch e1
 | one h1 h2=>
  refine ⟨_,⟨_,_,rfl,h1⟩,rfl,fun i p z e1 e2=>?_⟩;rcases i with _ | i
  .cases e1;cases e2;exact h2
  .exact nomatch e1
 | other h1 h2=>
  refine ⟨_,⟨_,_,rfl,h1⟩,rfl,fun i p z e1 e2=>?_⟩;rcases i with _ | i
  .cases e1;cases e2;exact h2
  .exact nomatch e1
 | @choose _ _ z0 ts e bs h1 h2 h3 h4=>
  refine ⟨_,⟨_,rfl,h1,h3⟩,by simp [Bd.parts],fun i p z e1 e2=>?_⟩;rcases i with _ | i
  .cases e1;cases e2;exact h2
  .have m:=List.mem_of_getElem? (show bs[i]?=some p from e1)
   have e3:(List.replicate bs.length y)[i]?=some z:=e2;have e4:=List.mem_of_getElem? e3;cases List.eq_of_mem_replicate e4;exact h4 p m
 | @ask _ _ f ps as h1 h2 h3=>
  refine ⟨_,⟨_,h1,rfl⟩,by rw [List.length_map];exact h2.symm,fun i p z e1 e2=>?_⟩;rw [List.getElem?_map] at e2
  cases ep:ps[i]? with
  | none=>rw [ep] at e2;cases e2
  | some q=>
   rw [ep] at e2;cases e2;exact h3 i p q e1 ep
 | letb h1 h2 h3 h4=>
  refine ⟨_,⟨rfl,h1,h2⟩,rfl,fun i p z e1 e2=>?_⟩;rcases i with _ | _ | i
  .cases e1;cases e2;exact h3
  .cases e1;cases e2;exact h4
  .exact nomatch e1
end L2
namespace L2
open PySem PySem.Spec PyProof.Rows
section
variable{X:Cx}{CX:CXT}{k:Nat}{E:XK}{ta ti:TE}{t:TA}
def LC(X:Cx)(CX:CXT)(k:Nat)(E:XK)(ta:TE)(t:TA):TE:=fun U H Q=>ta U H fun v H1=> ∃ (f:Addr) (fd:FuncData) (ps:List Str) (sp:Sp),v= .ref f/\ZN X.prog X.w X.K X.mg X.base CX k f fd ps sp/\W.keepIn X.K (.ref f)=true/\Binds X.K fd ps []/\Kk sp [] E t U H1 Q
theorem Dp(hf:PE X (.Name x p) ta)(hr:Ya k X.A)(hx:V4 CX X E)(ha:PA X (e::es) t)(he:starEach (e::es) X.env=(false,eval e X.env)::starEach es X.env:=by rfl)(hpl:(backTo pos (starEach es X.env)).any (·.1)=false:=by rfl):
  PE X (.Call (.Name x p) (e::es) [] pos) (LC X CX k E ta t):=by
 intro pins s U H Q I h;refine wpAny_Call_Name_kw (thn (hf pins s U H _ I h) fun u s1 ⟨v,H1,I1,r1,f,fd,ps,sp,ev,F,hk,hb,q⟩=>?_);subst ev;obtain rfl:u=Value.ref f:=r1;refine W.callWith_K (h₀:=X.base) I1.ok.mod.kin hk (thn (ha pos pins s1 U H1 _ I1 q) fun us s2 ⟨vs,H2,I2,r2,q2⟩=>⟨I2.kIn,?_⟩) he hpl;exact Gw F hr hb .nil hx I2 r2 q2
def OK(a:Addr)(m:Key->Option Value)(ti:TE):TE:=fun U H Q=>ti U H fun v H1=> ∃ (q:Key) (u:Value) (y:V),v=kV q/\m q=some u/\RelV y u/\Q y H1
theorem F0(hg:Gl X x)(hm:X.mg x=some (.ref a))(hM:X.base.MapOf (Zq X.prog X.w) a m)(hu:X.A.units + 1 < cLine)(hi:PE X i ti)(hs:L7 i)(hdb:(x==("__debug__" :Str))=false:=by decide):
  PE X (.Subscript (.Name x p) i pos) (OK a m ti):=by
 intro pins s U H Q I h;refine M5 PySem.F.slot_dict_getitem.lookup hs (JQ I hg hm ?_ hdb);refine thn (hi pins s U H _ I h) fun iv s2 ⟨v,H2,I2,ry,q,u,y,ev,hv,rel,q2⟩=>?_;subst ev;have M2:s2.heap.MapOf (Zq X.prog X.w) a m:=let ⟨o,es,ep,h1,r⟩:=hM;⟨o,es,ep,I2.bk _ _ h1,r⟩
 have T2:s2.TypeIs (.ref a) "dict" :=M2.typeIs;refine ⟨T2,?_⟩;exact wpAny_getItem_of (UD ry) M2 hv ⟨y,H2,I2.tok _,rel,q2⟩
end
structure BA where
 t:Addr
 dx:Addr
 so:Addr
 td:Addr
 rd:Addr
 tn:Addr
def Ju(A:BA):List (Str × V):= [("sorts", .ref A.so),("told", .ref A.td),("rows", .ref A.rd),("turns", .ref A.tn)]
def psD(ps:List (Str × Str)):Dat:= .tup (ps.map fun p=> .tup [.str p.1, .str p.2])
def Jb(x:Dd):Dat:= .tup [psD x.1.2.1, .str x.1.2.2,x.2.dat]
structure BD(H:Hp)(C CK:Addr)(A:BA)(kv:List (Key × V))(ks:List (Str × Shp))(d:Str->Nat)(ds:List Dd):Prop where
 ins:H A.t=some (.ins C A.dx (Ju A))
 so:KI H CK A.so ks d
 td:H A.td=some (.dK kv)
 ke:kv.map (·.1)=ds.map (fun x=>(Sum.inr x.1.1:Key))
 va:HasL H (kv.map (·.2)) (ds.map Jb)
 nd:(ds.map fun x=>x.1.1).Nodup
def BI(H:Hp)(C CK t:Addr)(ks:List (Str × Shp))(d:Str->Nat)(ds:List Dd):Prop:= ∃ A kv,A.t=t/\BD H C CK A kv ks d ds
theorem BI.mono(b:BI H C CK t ks d ds)(e:Same H H'):BI H' C CK t ks d ds:=by
 obtain ⟨A,kv,h,k⟩:=b;exact ⟨A,kv,h,e _ _ k.ins,k.so.mono e,e _ _ k.td,k.ke,k.va.mono e,k.nd⟩
structure BCl(K:W.Frag)(C:Addr):Prop where
 cl:Cls K C
 so:Yz K C "sorts"
 td:Yz K C "told"
 rd:Yz K C "rows"
 tn:Yz K C "turns"
theorem Es(A:BA):(Ju A).lookup ("sorts" :Str)=some (V.ref A.so):=rfl
theorem Mj(A:BA):(Ju A).lookup ("told" :Str)=some (V.ref A.td):=rfl
theorem Oh(A:BA):(Ju A).lookup ("told_of" :Str)=none:=rfl
theorem BD.at(b:BD H C CK A kv ks d ds)(h:x∈ds):∃ v,Zz H A.td (.str x.1.1) (some v)/\Has H v (Jb x):=by
 obtain ⟨i,hi⟩:=List.mem_iff_getElem?.mp h;have e1:(kv.map (·.1))[i]?=(ds.map (fun x=>(Sum.inr x.1.1:Key)))[i]?:=by rw [b.ke]
 rw [List.getElem?_map,List.getElem?_map,hi] at e1
 cases ek:kv[i]? with
 | none=>rw [ek] at e1;cases e1
 | some q=>
  rw [ek] at e1;have e2:q.1=Sum.inr x.1.1:=Option.some.inj e1
  have nk:(kv.map (·.1)).Nodup:=by
   rw [b.ke];have nd:=b.nd;unfold List.Nodup at nd |-;rw [List.pairwise_map] at nd |-;exact nd.imp fun hab z=>hab (Sum.inr.inj z)
  obtain ⟨dd,d1,d2⟩:=b.va.get (show (kv.map (·.2))[i]?=some q.2 by rw [List.getElem?_map,ek];rfl);rw [List.getElem?_map,hi] at d1;cases d1;refine ⟨q.2,?_,d2⟩;have e3:=W6 nk (List.mem_of_getElem? ek);rw [e2] at e3;rw [<-e3];exact Zz.k (k:=Sum.inr x.1.1) b.td
theorem RI(h:Has H v (Jb x)):∃ a u w,v= .ref a/\H a=some (.tup [u, .str x.1.2.2,w])/\Has H u (psD x.1.2.1)/\Has H w x.2.dat:=by
 unfold Jb at h;obtain ⟨t,ys,rfl,ht,hl⟩:=Zn h;obtain ⟨x1,r1,rfl,h1,hlA⟩:=ZP hl;obtain ⟨x2,r2,rfl,h2,hlB⟩:=ZP hlA;obtain ⟨x3,r3,rfl,h3,hlC⟩:=ZP hlB;obtain rfl:=YK hlC;obtain rfl:=has_str h2;exact ⟨t,x1,x3,rfl,ht,h1,h3⟩
end L2
namespace K4
open PySem L2
section
variable{f g C CK:Addr}
def VC(C CK:Addr):Sp:=fun vs H Q _=> ∃ (t:Addr) (ks:List (Str × Shp)) (d:Str->Nat) (ds:List Dd),vs= [.ref t]/\BI H C CK t ks d ds/\∀ so,KI H CK so ks d->Q (.ref so) H
theorem B9:ZX ["self"] ["self"] (ZL Gs):=Zl
theorem BH(T:BCl K C)(F:Fun K "kinds" "Book.kinds" Gs f fd):ZN P w K mg base CX0 (n + 1) f fd ["self"] (VC C CK):=by
 refine F.ok B9 (fun vs H Q E h=>?_) (fun cdv A outer s H vs Q E hr h=>?_)
 .obtain ⟨t,ks,d,ds,rfl,_⟩:=h
  rfl
 obtain ⟨t,ks,d,ds,rfl,⟨A',kv,rfl,b⟩,q⟩:=h;refine ⟨_,ZH (ZW (Zt (pv 0) rfl)),?_⟩;exact ⟨C,_,_,_,b.ins,T.cl,T.so,Es _,q _ b.so⟩
def Jf(C CK:Addr):Sp:=fun vs H Q _=> ∃ (t:Addr) (ks:List (Str × Shp)) (d:Str->Nat) (ds:List Dd),vs= [.ref t]/\BI H C CK t ks d ds/\∀ l H',Same H H'->H l=none->H' l=some (.lst (ds.map fun x=>V.str x.1.1))->Q (.ref l) H'
theorem B8:ZX ["self"] ["self"] (ZL Gr):=Zl
theorem BG(B:Blt mg)(T:BCl K C)(F:Fun K "names" "Book.names" Gr f fd):ZN P w K mg base CX0 (n + 1) f fd ["self"] (Jf C CK):=by
 refine F.ok B8 (fun vs H Q E h=>?_) (fun cdv A outer s H vs Q E hr h=>?_)
 .obtain ⟨t,ks,d,ds,rfl,_⟩:=h
  rfl
 obtain ⟨t,ks,d,ds,rfl,⟨A',kv,rfl,b⟩,q⟩:=h;refine ⟨_,ZH (ZW (Zo (Js rfl) rfl B.list YF (ZA (Zt (pv 0) rfl) ZE))),?_⟩;refine ⟨C,_,_,_,b.ins,T.cl,T.td,Mj _,_,_,rfl,b.td,fun l hl=>?_⟩;refine q l _ (ZF hl _) hl ?_;rw [ZD];have e:(kv.map fun q=>kV q.1)=(kv.map (·.1)).map kV:=by rw [List.map_map];rfl
 rw [e,b.ke,List.map_map]
 rfl
theorem Fk:ZX ["self","F"] ["self","F"] (ZL ME):=Zl
end
end K4
namespace L2
open PySem
def KFr(A:KA6)(H H':Hp):Prop:= ∀ b o,b ∉ A.ds->H b=some o->H' b=some o
theorem KFr.refl(A:KA6)(H:Hp):KFr A H H:=fun _ _ _ h=>h
theorem KFr.trans(a:KFr A H H1)(b:KFr A H1 H2):KFr A H H2:=fun c o hc h=>b c o hc (a c o hc h)
theorem Same.kfr(e:Same H H'):KFr A H H':=fun b o _ h=>e b o h
theorem KFr.put(a:KFr A H H')(hx:x∈A.ds)(o:HO):KFr A H (upd H' x o):=fun b u hb h=>by
 have ne:b≠x:=fun z=>by rw [z] at hb;exact hb hx
 rw [ZI ne];exact a b u hb h
theorem KFr.tl(a:KFr A H H')(k:KD H C A S):TL H H':=by
 have no:∀ b u,H b=some u->(∀ l,u≠ .dK l)->(∀ l,u≠ .dT l)->b ∉ A.ds:=fun b u hb n1 n2 hm=>by
  simp only [KA6.ds,List.mem_cons,List.not_mem_nil,or_false] at hm;rcases hm with z | z | z | z | z | z
  .rw [z,k.sh] at hb;exact n1 _ (Option.some.inj hb).symm
  .rw [z,k.wo] at hb;exact n1 _ (Option.some.inj hb).symm
  .rw [z,k.he] at hb;exact n1 _ (Option.some.inj hb).symm
  .rw [z,k.pd] at hb;exact n1 _ (Option.some.inj hb).symm
  .rw [z,k.tk] at hb;exact n1 _ (Option.some.inj hb).symm
  .rw [z,k.pk] at hb;exact n2 _ (Option.some.inj hb).symm
 exact ⟨fun b xs h=>a b _ (no b _ h (fun l=>by intro z;cases z) (fun l=>by intro z;cases z)) h,fun b xs h=>a b _ (no b _ h (fun l=>by intro z;cases z) (fun l=>by intro z;cases z)) h⟩
theorem KA6.apart{A:KA6}(n:A.ds.Nodup):(A.sh≠A.wo/\A.sh≠A.he/\A.sh≠A.pd/\A.sh≠A.tk/\A.sh≠A.pk)/\(A.wo≠A.he/\A.wo≠A.pd/\A.wo≠A.tk/\A.wo≠A.pk)/\(A.he≠A.pd/\A.he≠A.tk/\A.he≠A.pk)/\(A.pd≠A.tk/\A.pd≠A.pk)/\A.tk≠A.pk:=by
 simpa [KA6.ds] using n
section
theorem KD.put_sh(k:KD H C A S)(l:List (Key × V)):KD (upd H A.sh (.dK l)) C A {S with sh:=l}:=by
 obtain ⟨⟨n1,n2,n3,n4,n5⟩,_⟩:=KA6.apart k.nd;exact ⟨(ZI (YM k.ins k.sh (by intro z;cases z))).trans k.ins,ZD,(ZI n1.symm).trans k.wo,(ZI n2.symm).trans k.he,(ZI n3.symm).trans k.pd,(ZI n4.symm).trans k.tk,(ZI n5.symm).trans k.pk,k.nd⟩
theorem KD.put_wo(k:KD H C A S)(l:List (Key × V)):KD (upd H A.wo (.dK l)) C A {S with wo:=l}:=by
 obtain ⟨⟨n1,_⟩,⟨n2,n3,n4,n5⟩,_⟩:=KA6.apart k.nd;exact ⟨(ZI (YM k.ins k.wo (by intro z;cases z))).trans k.ins,(ZI n1).trans k.sh,ZD,(ZI n2.symm).trans k.he,(ZI n3.symm).trans k.pd,(ZI n4.symm).trans k.tk,(ZI n5.symm).trans k.pk,k.nd⟩
theorem KD.put_he(k:KD H C A S)(l:List (Key × V)):KD (upd H A.he (.dK l)) C A {S with he:=l}:=by
 obtain ⟨⟨_,n1,_⟩,⟨n2,_⟩,⟨n3,n4,n5⟩,_⟩:=KA6.apart k.nd;exact ⟨(ZI (YM k.ins k.he (by intro z;cases z))).trans k.ins,(ZI n1).trans k.sh,(ZI n2).trans k.wo,ZD,(ZI n3.symm).trans k.pd,(ZI n4.symm).trans k.tk,(ZI n5.symm).trans k.pk,k.nd⟩
theorem KD.put_pd(k:KD H C A S)(l:List (Key × V)):KD (upd H A.pd (.dK l)) C A {S with pd:=l}:=by
 obtain ⟨⟨_,_,n1,_⟩,⟨_,n2,_⟩,⟨n3,_⟩,⟨n4,n5⟩,_⟩:=KA6.apart k.nd;exact ⟨(ZI (YM k.ins k.pd (by intro z;cases z))).trans k.ins,(ZI n1).trans k.sh,(ZI n2).trans k.wo,(ZI n3).trans k.he,ZD,(ZI n4.symm).trans k.tk,(ZI n5.symm).trans k.pk,k.nd⟩
theorem KD.put_tk(k:KD H C A S)(l:List (Key × V)):KD (upd H A.tk (.dK l)) C A {S with tk:=l}:=by
 obtain ⟨⟨_,_,_,n1,_⟩,⟨_,_,n2,_⟩,⟨_,n3,_⟩,⟨n4,_⟩,n5⟩:=KA6.apart k.nd;exact ⟨(ZI (YM k.ins k.tk (by intro z;cases z))).trans k.ins,(ZI n1).trans k.sh,(ZI n2).trans k.wo,(ZI n3).trans k.he,(ZI n4).trans k.pd,ZD,(ZI n5.symm).trans k.pk,k.nd⟩
theorem KD.put_pk(k:KD H C A S)(l:List (List Key × V)):KD (upd H A.pk (.dT l)) C A {S with pk:=l}:=by
 obtain ⟨⟨_,_,_,_,n1⟩,⟨_,_,_,n2⟩,⟨_,_,n3⟩,⟨_,n4⟩,n5⟩:=KA6.apart k.nd;exact ⟨(ZI (YM k.ins k.pk (by intro z;cases z))).trans k.ins,(ZI n1).trans k.sh,(ZI n2).trans k.wo,(ZI n3).trans k.he,(ZI n4).trans k.pd,(ZI n5).trans k.tk,ZD,k.nd⟩
end
theorem V2{α:Type}{l:List α}{x a:α}(h:l[i]?=some a):x∈l.take (i + 1)↔x∈l.take i \/ x=a:=by
 rw [take_snoc h,List.mem_append,List.mem_singleton]
end L2
namespace K4
open PySem L2
section
variable{f g C:Addr}
def Rg(C:Addr):Sp:=fun vs H Q _=> ∃ (A:KA6) (S:KC) (y:Str) (l:Addr) (ts:List Str),vs= [.ref A.t, .str y, .ref l]/\KD H C A S/\H l=some (.tup (ts.map V.str))/\1<=ts.length/\ts.length<=4/\Wds 65 ts/\(∀ x∈ts,Zp S.tk (Sum.inr x)=none)/\
 S.tk.length<=100/\S.wo.length<=100/\S.he.length<=100/\S.pd.length<=100/\
 ∀ H' tk' r,KFr A H H'->KD H' C A ⟨S.sh,putK S.wo (Sum.inr y) (.ref r),putK S.he (Sum.inr y) (.int 1),putK S.pd (Sum.inr y) (.int 0),tk',S.pk⟩->
  (∀ x:Str,Zp tk' (Sum.inr x)=if x∈ts then some (.str y) else Zp S.tk (Sum.inr x))->tk'.length<=S.tk.length + 4->H' r=some (.lst (.non::ts.map V.str))->Q .non H'
theorem B1:ZX ["self","name","tags","tag"] ["self","name","tags"] (ZL DE):=Zl
theorem IP(B:Blt mg)(T:KCl K C)(F:Fun K "take_tags" "Kinds.take_tags" DE f fd)(hM:mg "MOST_TAGS" =some u)(rM:RelV (.int 4) u)(G:ZN P w K mg base CX0 n g gd ["text"] (Jd 65))(bG:Binds K gd ["text"] [])(kG:W.keepIn K (.ref g)=true)(mG:mg "is_tag" =some (.ref g)):ZN P w K mg base CX0 (n + 1) f fd ["self","name","tags"] (Rg C):=by
 refine F.ok B1 (fun vs H Q E h=>?_) (fun cdv A outer s H vs Q E hr h=>?_)
 .obtain ⟨A',S,y,l,ts,rfl,_⟩:=h
  rfl
 obtain ⟨A',S,y,l,ts,rfl,kd,hl,l1,l4,wt,tn,b1,b2,b3,b4,q⟩:=h;have hu:=Yg hr;refine ⟨_,ZC (Zh (Yk (T3 XG XG ZG (Zj Zg rfl B.len PySem.boot_len (ZA (pv 2) ZE)) (Y3 rfl hM rM))) (ZH Z0) ZU)
  (ZC (YO PassesOwn.never rfl (Vc (pv 2)) (ZO 3 B1.nd)
   (ZC (Zh (Yk (YN (ZM G hr rfl mG kG bG .nil ZT (ZA (pv 3) ZE)))) (ZH Z0) ZU)
   (ZC (Zh (V0 (Ux hu (pv 3) (Zt (pv 0) rfl))) (ZH Z0) ZU)
   (ZH (YD hu (Zt (pv 0) rfl) (pv 3) (pv 1) rfl)))))
  (ZC (YD hu (Zt (pv 0) rfl) (pv 1) (Zi JN (Z8 (ZA VP ZE)) (Zo YY rfl B.list YF (ZA (pv 2) ZE))) rfl)
  (ZC (YD hu (Zt (pv 0) rfl) (pv 1) ZG rfl)
  (ZH (YD hu (Zt (pv 0) rfl) (pv 1) ZG rfl))))),?_⟩
 show let a:=_;let b:=ZQ _ a;let c:=ZQ _ b;let d:=_;let e:=_;let f:=ZQ (Zw _ e _) d;let g:=_;let h:=ZQ (Zw _ g _) f;let i:=ZQ (VX _ _ h) c;let j:=_;ZQ (Zw _ j _) i _ _ _
 intros
 have lt:(ts.map V.str).length=ts.length:=List.length_map _;refine ⟨l,_,rfl, .inr (SqT.of hl),_,rfl,?_⟩;refine Yb (by simp;omega) ?_;refine ⟨_,rfl,?_⟩;refine Zk (by simp;omega) ?_;refine ⟨⟨_,SqT.of hl⟩,?_⟩
 let I:Nat->St->Hp->Prop:=fun i U H'=>KFr A' H H'/\∃ tk' z,KD H' C A' {S with tk:=tk'}/\(∀ x:Str,Zp tk' (Sum.inr x)=if x∈ts.take i then some (.str y) else Zp S.tk (Sum.inr x))/\tk'.length<=S.tk.length + i/\H' l=some (.tup (ts.map V.str))/\
  U= [some (.ref A'.t),some (.str y),some (.ref l),z]
 refine UO (xs:=ts.map V.str) I ⟨KFr.refl _ _,S.tk,_,kd,fun x=>by simp,Nat.le_refl _,hl,rfl⟩ ?_ ?_ ?_
 .rintro i U H' _ ⟨_,tk',z,_,_,_,hl',_⟩
  exact SqT.of hl'
 .rintro BB RR i v U H' hv ⟨fr,tk',z,kd',tv,tl,hl',rfl⟩
  rw [List.getElem?_map] at hv
  cases hx:ts[i]? with
  | none=>rw [hx] at hv;cases hv
  | some x=>
   rw [hx] at hv;cases hv;have mx:x∈ts:=List.mem_of_getElem? hx
   have nx:x ∉ ts.take i:=fun hm=>by
    have q':(ts.take i++ [x]).Nodup:=by rw [<-take_snoc hx];exact wt.nd.sublist (List.take_sublist _ _)
    exact (List.nodup_append.mp q').2.2 x hm x (by simp) rfl
   have ilt:=(List.getElem?_eq_some_iff.mp hx).1;obtain ⟨w1,w8⟩:=wt.len x mx;refine ⟨x,rfl,w1,w8,wt.abc x mx,fun H2 s2=>⟨_,rfl,?_⟩⟩;refine Zk (by simp) ?_;have kd2:=kd'.mono s2
   have gx:Zz H2 A'.tk (.str x) none:=by
    have e:=tv x;rw [if_neg nx,tn x mx] at e;rw [<-e];exact Zz.k (k:=Sum.inr x) kd2.tk
   refine ⟨C,_,_,_,kd2.ins,T.cl,T.tk,Lw _,_,gx,_,rfl,?_⟩;refine Zk (by simp) ?_;refine ⟨C,_,_,_,kd2.ins,T.cl,T.tk,Lw _,_,VJ.k (k:=Sum.inr x) kd2.tk (ZK (by show tk'.length<=1000;omega)),?_⟩;have hl2:=s2 _ _ hl';refine ⟨(fr.trans s2.kfr).put (by simp [KA6.ds]) _,putK tk' (Sum.inr x) (.str y),_,kd2.put_tk _,fun x'=>?_,?_,?_,rfl⟩
   .rw [VA]
    by_cases e:x'=x
    .subst e
     rw [if_pos rfl,if_pos ((V2 hx).mpr (.inr rfl))]
    .rw [if_neg (fun z=>e (Sum.inr.inj z)),tv x']
     have:(x'∈ts.take (i + 1))↔x'∈ts.take i:=⟨fun z=>((V2 hx).mp z).resolve_right e,fun z=>(V2 hx).mpr (.inl z)⟩
     by_cases m:x'∈ts.take i
     .rw [if_pos m,if_pos (this.mpr m)]
     .rw [if_neg m,if_neg (fun z=>m (this.mp z))]
   .have:=YJ tk' (Sum.inr x) (.str y);omega
   .rw [ZI (YM hl2 kd2.tk (by intro z;cases z))];exact hl2
 .rintro U H' ⟨fr,tk',z,kd',tv,tl,hl',rfl⟩
  rw [lt] at tl;rw [List.take_of_length_le (by omega)] at tv;refine ⟨sl 1,fun p1 hp1=>⟨l,_,rfl, .inr (SqT.of ((ZF hp1 _) _ _ hl')),fun p2 hp2=>?_⟩⟩;refine ⟨p1,p2,_,_,rfl,rfl,(ZI (ZJ ZD hp2)).trans ZD,ZD,Nat.le_of_lt (ZK (by simp;omega)),fun p3 hp3=>?_⟩;have sx:Same H' _:=((ZF hp1 (.lst [V.non])).trans (ZF hp2 (.lst (ts.map V.str)))).trans (ZF hp3 (.lst ([V.non]++ ts.map V.str)));have hp:upd (upd (upd H' p1 (.lst [V.non])) p2 (.lst (ts.map V.str))) p3 (.lst ([V.non]++ ts.map V.str)) p3=some (.lst (.non::ts.map V.str)):=ZD;generalize upd (upd (upd H' p1 (.lst [V.non])) p2 (.lst (ts.map V.str))) p3 (.lst ([V.non]++ ts.map V.str))=H2 at sx hp |-;have kd2:=kd'.mono sx;refine ⟨C,_,_,_,kd2.ins,T.cl,T.wo,Ey _,_,VJ.k (k:=Sum.inr y) kd2.wo (ZK (by show S.wo.length<=1000;omega)),?_⟩;have kd3:=kd2.put_wo (putK S.wo (Sum.inr y) (.ref p3));have hp':upd H2 A'.wo (.dK (putK S.wo (Sum.inr y) (.ref p3))) p3=some (.lst (.non::ts.map V.str)):=by rw [ZI (YM hp kd2.wo (by intro z;cases z))];exact hp
  refine ⟨C,_,_,_,kd3.ins,T.cl,T.he,KH _,_,VJ.k (k:=Sum.inr y) kd3.he (ZK (by show S.he.length<=1000;omega)),?_⟩;have kd4:=kd3.put_he (putK S.he (Sum.inr y) (.int 1));refine ⟨C,_,_,_,kd4.ins,T.cl,T.pd,KF _,_,VJ.k (k:=Sum.inr y) kd4.pd (ZK (by show S.pd.length<=1000;omega)),?_⟩;have kd5:=kd4.put_pd (putK S.pd (Sum.inr y) (.int 0));refine q _ tk' p3 ?_ kd5 tv (by omega) ?_
  .exact ((((fr.trans sx.kfr).put (by simp [KA6.ds]) _).put (by simp [KA6.ds]) _).put (by simp [KA6.ds]) _)
  .have h3:=hp'
   have h4:upd (upd H2 A'.wo (.dK (putK S.wo (Sum.inr y) (.ref p3)))) A'.he (.dK (putK S.he (Sum.inr y) (.int 1))) p3=some (.lst (.non::ts.map V.str)):=by rw [ZI (YM h3 kd3.he (by intro z;cases z))];exact h3
   rw [ZI (YM h4 kd4.pd (by intro z;cases z))];exact h4
end
end K4
namespace L2
open PySem
structure Pt(H:Hp)(S:KC)(e:Str)(us:List W)(h p:Nat):Prop where
 sh:(Zp S.sh (Sum.inr e)).isSome=true
 wo:∃ l xs,Zp S.wo (Sum.inr e)=some (.ref l)/\H l=some (.lst xs)/\HasL H xs (us.map W.dat)
 he:Zp S.he (Sum.inr e)=some (.int h)
 pd:Zp S.pd (Sum.inr e)=some (.int p)
end L2
namespace K4
open PySem L2
section
variable{f g C:Addr}
def GJ(C:Addr):Sp:=fun vs H Q _=> ∃ (A:KA6) (S:KC) (y e g:Str) (us vs':List W) (he hg pe pg:Nat),vs= [.ref A.t, .str y, .str e, .str g]/\KD H C A S/\Pt H S e us he pe/\Pt H S g vs' hg pg/\Zp S.pk [Sum.inr e,Sum.inr g]=none/\
 1 + max pe pg<=2/\1 + us.length * vs'.length<=30/\us.length<=30/\vs'.length<=30/\S.pk.length<=100/\S.wo.length<=100/\S.he.length<=100/\S.pd.length<=100/\e≠y/\g≠y/\
 ∀ H' r,KFr A H H'->KD H' C A ⟨S.sh,putK S.wo (Sum.inr y) (.ref r),putK S.he (Sum.inr y) (.int (1 + he + hg:Nat)),putK S.pd (Sum.inr y) (.int (1 + max pe pg:Nat)),S.tk,putK S.pk [Sum.inr e,Sum.inr g] (.str y)⟩->
  (∃ xs,H' r=some (.lst xs)/\HasL H' xs ((W.non::us.flatMap fun u=>vs'.map fun v=>W.pair u v).map W.dat))->Q .non H'
theorem Gf:ZX ["self","name","one","other","deep","worths"] ["self","name","one","other"] (ZL Rv):=Zl
theorem Ku:List.Nodup [("first" :Str),"second","self","other"]:=by decide +kernel
theorem D4(B:Blt mg)(T:KCl K C)(F:Fun K "take_pair" "Kinds.take_pair" Rv f fd)(hM:mg "MOST_PAIRS_DEEP" =some u1)(rM:RelV (.int 2) u1)(hM2:mg "MOST_WORTHS" =some u2)(rM2:RelV (.int 30) u2):
  ZN P w K mg base CX0 (n + 1) f fd ["self","name","one","other"] (GJ C):=by
 refine F.ok Gf (fun vs H Q E h=>?_) (fun cdv A outer s H vs Q E hr h=>?_)
 .obtain ⟨A',S,y,e,g,us,vs',he,hg,pe,pg,rfl,_⟩:=h
  rfl
 obtain ⟨A',S,y,e,g,us,vs',he,hg,pe,pg,rfl,kd,pte,ptg,pn,d2,c30,ul,vl,b0,b1,b2,b3,ney,ngy,q⟩:=h;have hu:=Yg hr;refine ⟨_,ZC (Zh (PW.pt (Vm (V0 (Jz hu (pv 2) (Zt (pv 0) rfl))) (VO (V0 (Jz hu (pv 3) (Zt (pv 0) rfl)))))) (ZH Z0) ZU)
  (ZC (Zh (V0 (Ux hu (Zs (ZA (pv 2) (ZA (pv 3) ZE))) (Zt (pv 0) rfl))) (ZH Z0) ZU)
  (ZC (ZZ 4 Gf.nd (Zi YT ZG (Zj (U7 rfl) rfl B.max U9 (ZA (Ze hu (Zt (pv 0) rfl) (pv 2) (fun _ _=>rfl)) (ZA (Ze hu (Zt (pv 0) rfl) (pv 3) (fun _ _=>rfl)) ZE)))))
  (ZC (Zh (ZV Jl (pv 4) (Y3 rfl hM rM) (Zb _)) (ZH Z0) ZU)
  (ZC (ZZ 5 Gf.nd (Zi JN (Z8 (ZA VP ZE)) (IL (wi2:=NW K (Ki (OL K (UF 2) "worths") (UF 3))) [0,3] (Z6 (Ze hu (Zt (pv 0) rfl) (pv 2) (fun _ _=>rfl)))
    (fun cl C fp s H=>ZO 0 Ku rfl (Or.inl rfl) (Or.inr rfl)) (fun cl C fp s H=>Z6 (Ze hu (Zt (pv 2) rfl) (pv 3) (fun _ _=>rfl))) (fun cl C fp s H=>ZO 1 Ku rfl (Or.inl rfl) (Or.inr rfl))
    (fun cl C fp s H=>Zs (ZA (pv 0) (ZA (pv 1) ZE))))))
  (ZC (Zh (ZV Jl (Zj Zg rfl B.len PySem.boot_len (ZA (pv 5) ZE)) (Y3 rfl hM2 rM2) (Zb _)) (ZH Z0) ZU)
  (ZC (YD hu (Zt (pv 0) rfl) (Zs (ZA (pv 2) (ZA (pv 3) ZE))) (pv 1) rfl)
  (ZC (YD hu (Zt (pv 0) rfl) (pv 1) (pv 5) rfl)
  (ZC (YD hu (Zt (pv 0) rfl) (pv 1) (Zi YT (Zi YT ZG (Ze hu (Zt (pv 0) rfl) (pv 2) (fun _ _=>rfl))) (Ze hu (Zt (pv 0) rfl) (pv 3) (fun _ _=>rfl))) rfl)
  (ZH (YD hu (Zt (pv 0) rfl) (pv 1) (pv 4) rfl)))))))))),?_⟩
 show let a:=_;let b:=ZQ _ a;let c:=ZQ _ b;let d:=ZQ _ c;let e:=_;let f:=ZQ (Zw _ e _) d;let g:=ZQ _ f;let h:=_;let i:=ZQ (Zw _ h _) g;let j:=ZQ _ i;let k:=_;let l:=ZQ (Zw _ k _) j;let m:=_;ZQ (Zw _ m _) l _ _ _
 intros
 have fl:∀ {H2:Hp},KD H2 C A' S->H2 A'.t=some (.ins C A'.dx (XQ A')):=fun k=>k.ins;have ge:Zz H A'.sh (.str e) (Zp S.sh (Sum.inr e)):=Zz.k (k:=Sum.inr e) kd.sh;have gg:Zz H A'.sh (.str g) (Zp S.sh (Sum.inr g)):=Zz.k (k:=Sum.inr g) kd.sh;refine ⟨C,_,_,_,kd.ins,T.cl,T.sh,Mp _,_,ge,_,rfl,?_⟩;refine Zk (by rw [pte.sh];simp) ?_;refine ⟨C,_,_,_,kd.ins,T.cl,T.sh,Mp _,_,gg,_,rfl,?_⟩;refine Zk (by rw [ptg.sh];simp) ?_;refine ⟨sl 2,fun p1 hp1=>?_⟩;have s1:=ZF hp1 (.tup [.str e, .str g]);have h1:upd H p1 (.tup [.str e, .str g]) p1=some (.tup [.str e, .str g]):=ZD;generalize upd H p1 (.tup [.str e, .str g])=H1 at s1 h1 |-;have kd1:=kd.mono s1;have gp:Zz H1 A'.pk (.ref p1) none:=by rw [<-pn];exact Zz.t (k:= [Sum.inr e,Sum.inr g]) kd1.pk h1
 refine ⟨C,_,_,_,kd1.ins,T.cl,T.pk,Lx _,_,gp,_,rfl,?_⟩;refine Zk (by simp) ?_;refine ⟨C,_,_,_,kd1.ins,T.cl,T.pd,KF _,_,by rw [<-pte.pd];exact Zz.k (k:=Sum.inr e) kd1.pd,?_⟩;refine ⟨C,_,_,_,kd1.ins,T.cl,T.pd,KF _,_,by rw [<-ptg.pd];exact Zz.k (k:=Sum.inr g) kd1.pd,_,_,rfl,?_⟩
 have em:(1 + (if (pg:Int) > (pe:Int) then (pg:Int) else (pe:Int)))=((1 + max pe pg:Nat):Int):=by
  by_cases z:pe < pg
  .rw [if_pos (by omega),Nat.max_eq_right (Nat.le_of_lt z)];omega
  .rw [if_neg (by omega),Nat.max_eq_left (by omega)];omega
 dsimp only [Yi,rI0,Vt];rw [em];refine ⟨_,rfl,?_⟩;refine Zk (by simp;omega) ?_;obtain ⟨l1,xs1,w1,w2,w3⟩:=pte.wo;obtain ⟨l2,xs2,v1,v2,v3⟩:=ptg.wo;have lx1:=w3.length;have lx2:=v3.length;rw [List.length_map] at lx1 lx2;refine ⟨sl 1,fun p2 hp2=>?_⟩;have s2:=ZF hp2 (.lst [V.non]);have h2:upd H1 p2 (.lst [V.non]) p2=some (.lst [V.non]):=ZD;generalize upd H1 p2 (.lst [V.non])=H2 at s2 h2 |-;have kd2:=kd1.mono s2;have s02:=s1.trans s2;refine ⟨C,_,_,_,kd2.ins,T.cl,T.wo,Ey _, .ref l1,by rw [<-w1];exact Zz.k (k:=Sum.inr e) kd2.wo,⟨xs1,SqL.of (s02 _ _ w2)⟩,?_⟩;refine WP xs1.length (fun i zs H'=>Same H2 H'/\zs.length=i * vs'.length/\i<=us.length/\HasL H' zs (((us.take i).flatMap fun u=>vs'.map fun v=>W.pair u v).map W.dat)) ⟨Same.refl _,by simp,Nat.zero_le _,by rw [List.take_zero];exact HasL.nil⟩
  (fun i zs H' z=>ZK (by rw [z.2.1];have:i * vs'.length<=us.length * vs'.length:=Nat.mul_le_mul_right _ z.2.2.1;omega)) ?_ ?_ ?_ ?_
 .intro i zs H' hi z
  exact ⟨xs1,xs1[i],SqL.of ((s02.trans z.1) _ _ w2),by simp [hi]⟩
 .intro zs H' z
  exact ⟨xs1,SqL.of ((s02.trans z.1) _ _ w2),Nat.le_refl _⟩
 .intro i zs H' x H'' R hi z yl hR
  obtain ⟨rfl,yy⟩:=yl;have sz:=s02.trans z.1;obtain ⟨dx,hdx,hhx⟩:=w3.get (yy xs1 (SqL.of (sz _ _ w2)));rw [List.getElem?_map] at hdx
  cases hu1:us[i]? with
  | none=>rw [hu1] at hdx;cases hdx
  | some u=>
   rw [hu1] at hdx;cases hdx;have kdz:=kd.mono sz;refine ⟨C,_,_,_,kdz.ins,T.cl,T.wo,Ey _, .ref l2,by rw [<-v1];exact Zz.k (k:=Sum.inr g) kdz.wo,⟨xs2,SqL.of (sz _ _ v2)⟩,?_⟩;refine RG xs2.length (fun j ws H3=>Same H'' H3/\ws.length=i * vs'.length + j/\j<=vs'.length/\HasL H3 ws (((us.take i).flatMap fun u=>vs'.map fun v=>W.pair u v).map W.dat++ ((vs'.take j).map fun v=>W.pair u v).map W.dat)) ⟨Same.refl _,by rw [z.2.1];rfl,Nat.zero_le _,by rw [List.take_zero,List.map_nil,List.map_nil,List.append_nil];exact z.2.2.2⟩
    (fun j ws H3 y3=>ZK (by
     rw [y3.2.1];have:(i + 1) * vs'.length<=us.length * vs'.length:=Nat.mul_le_mul_right _ (by omega);rw [Nat.succ_mul] at this;have:=y3.2.2.1;omega)) ?_ ?_ ?_ ?_
   .intro j ws H3 hj y3
    exact ⟨xs2,xs2[j],SqL.of ((sz.trans y3.1) _ _ v2),by simp [hj]⟩
   .intro ws H3 y3
    exact ⟨xs2,SqL.of ((sz.trans y3.1) _ _ v2),Nat.le_refl _⟩
   .intro j ws H3 x2 H4 T2 hj y3 yl2 hT
    obtain ⟨rfl,yy2⟩:=yl2;have s3:=sz.trans y3.1;obtain ⟨dz,hdz,hhz⟩:=v3.get (yy2 xs2 (SqL.of (s3 _ _ v2)));rw [List.getElem?_map] at hdz
    cases hv1:vs'[j]? with
    | none=>rw [hv1] at hdz;cases hdz
    | some v=>
     rw [hv1] at hdz;cases hdz;refine ⟨sl 2,fun t ht=>hT _ _ ?_⟩;have st:=ZF ht (.tup [x,x2]);refine ⟨y3.1.trans st,by rw [List.length_append,y3.2.1];rfl,(List.getElem?_eq_some_iff.mp hv1).1,?_⟩;rw [take_snoc hv1,List.map_append,List.map_append,<-List.append_assoc];refine HasL.append (y3.2.2.2.mono st) (HasL.one ?_);unfold W.dat Has;exact ⟨t,_,rfl,ZD,HasL.cons ((hhx.mono s3).mono st) (HasL.cons ((hhz.mono s3).mono st) HasL.nil)⟩
   .intro ws H3 y3
    have hl2:xs2.length=vs'.length:=lx2;refine hR _ _ ⟨z.1.trans y3.1,by rw [y3.2.1,hl2,Nat.succ_mul],(List.getElem?_eq_some_iff.mp hu1).1,?_⟩;have y4:=y3.2.2.2;have et:vs'.take xs2.length=vs':=List.take_of_length_le (by omega);rw [et] at y4;rw [Wv _ hu1,List.map_append];exact y4
 .intro zs H' p3 z hp3
  have s3:=ZF hp3 (.lst zs);have h3:upd H' p3 (.lst zs) p3=some (.lst zs):=ZD;have z4:=z.2.2.2;rw [List.take_of_length_le (by omega)] at z4;have z5:=z4.mono s3;generalize upd H' p3 (.lst zs)=H3 at s3 h3 z5 |-;have s23:=z.1.trans s3;have lz:zs.length=us.length * vs'.length:=by rw [z.2.1,lx1]
  refine ⟨p2,p3, [V.non],zs,rfl,rfl,s23 _ _ h2,h3,Nat.le_of_lt (ZK (by rw [lz];simp;omega)),fun p4 hp4=>?_⟩;have s4:=ZF hp4 (.lst ([V.non]++ zs));have h4:upd H3 p4 (.lst ([V.non]++ zs)) p4=some (.lst ([V.non]++ zs)):=ZD;have z6:=z5.mono s4;generalize upd H3 p4 (.lst ([V.non]++ zs))=H4 at s4 h4 z6 |-;have s04:=(s02.trans s23).trans s4;have kd4:=kd.mono s04;have hw:HasL H4 ([V.non]++ zs) ((W.non::us.flatMap fun u=>vs'.map fun v=>W.pair u v).map W.dat):=HasL.cons Xl z6;refine ⟨p4,_,rfl, .inl (SqL.of h4),_,rfl,?_⟩;refine Zk (by simp;omega) ?_;refine ⟨C,_,_,_,kd4.ins,T.cl,T.pk,Lx _,sl 2,fun p5 hp5=>?_⟩;have s5:=ZF hp5 (.tup [.str e, .str g]);have h5:upd H4 p5 (.tup [.str e, .str g]) p5=some (.tup [.str e, .str g]):=ZD;generalize upd H4 p5 (.tup [.str e, .str g])=H5 at s5 h5 |-;have kd5:=kd4.mono s5;refine ⟨_,VJ.t (k:= [Sum.inr e,Sum.inr g]) kd5.pk h5 (ZK (by omega)),?_⟩;have kd6:=kd5.put_pk (putK S.pk [Sum.inr e,Sum.inr g] (.str y));have f6:KFr A' H (upd H5 A'.pk (.dT (putK S.pk [Sum.inr e,Sum.inr g] (.str y)))):=KFr.put (Same.kfr (s04.trans s5)) (by simp [KA6.ds]) _;have t6:TL H4 (upd H5 A'.pk (.dT (putK S.pk [Sum.inr e,Sum.inr g] (.str y)))):=(KFr.put (Same.kfr s5) (by simp [KA6.ds]) _:KFr A' H4 _).tl kd4;generalize upd H5 A'.pk (.dT (putK S.pk [Sum.inr e,Sum.inr g] (.str y)))=H6 at kd6 f6 t6 |-;refine ⟨C,_,_,_,kd6.ins,T.cl,T.wo,Ey _,_,VJ.k (k:=Sum.inr y) kd6.wo (ZK (by show S.wo.length<=1000;omega)),?_⟩;have kd7:=kd6.put_wo (putK S.wo (Sum.inr y) (.ref p4));have f7:=f6.put (x:=A'.wo) (by simp [KA6.ds]) (.dK (putK S.wo (Sum.inr y) (.ref p4)));have t7:=t6.trans ((KFr.put (KFr.refl A' H6) (x:=A'.wo) (by simp [KA6.ds]) (.dK (putK S.wo (Sum.inr y) (.ref p4)))).tl kd6);generalize upd H6 A'.wo (.dK (putK S.wo (Sum.inr y) (.ref p4)))=H7 at kd7 f7 t7 |-;refine ⟨C,_,_,_,kd7.ins,T.cl,T.he,KH _,_,by rw [<-pte.he];exact Zz.k (k:=Sum.inr e) kd7.he,?_⟩;refine ⟨C,_,_,_,kd7.ins,T.cl,T.he,KH _,_,by rw [<-ptg.he];exact Zz.k (k:=Sum.inr g) kd7.he,?_⟩;refine ⟨C,_,_,_,kd7.ins,T.cl,T.he,KH _,_,VJ.k (k:=Sum.inr y) kd7.he (ZK (by show S.he.length<=1000;omega)),?_⟩;have eh:(1 + (he:Int) + (hg:Int))=((1 + he + hg:Nat):Int):=by push_cast;rfl
  dsimp only [rI0,rI,Vt];rw [eh];have kd8:=kd7.put_he (putK S.he (Sum.inr y) (.int ((1 + he + hg:Nat):Int)));have f8:=f7.put (x:=A'.he) (by simp [KA6.ds]) (.dK (putK S.he (Sum.inr y) (.int ((1 + he + hg:Nat):Int))));have t8:=t7.trans ((KFr.put (KFr.refl A' H7) (x:=A'.he) (by simp [KA6.ds]) (.dK (putK S.he (Sum.inr y) (.int ((1 + he + hg:Nat):Int))))).tl kd7);generalize upd H7 A'.he (.dK (putK S.he (Sum.inr y) (.int ((1 + he + hg:Nat):Int))))=H8 at kd8 f8 t8 |-;refine ⟨C,_,_,_,kd8.ins,T.cl,T.pd,KF _,_,VJ.k (k:=Sum.inr y) kd8.pd (ZK (by show S.pd.length<=1000;omega)),?_⟩;have kd9:=kd8.put_pd (putK S.pd (Sum.inr y) (.int ((1 + max pe pg:Nat):Int)));have f9:=f8.put (x:=A'.pd) (by simp [KA6.ds]) (.dK (putK S.pd (Sum.inr y) (.int ((1 + max pe pg:Nat):Int))));have t9:=t8.trans ((KFr.put (KFr.refl A' H8) (x:=A'.pd) (by simp [KA6.ds]) (.dK (putK S.pd (Sum.inr y) (.int ((1 + max pe pg:Nat):Int))))).tl kd8);exact q _ p4 f9 kd9 ⟨_,t9.2 _ _ h4,HasL.tl t9 _ hw⟩
end
end K4
namespace L2
open PySem
theorem L3(kk:KK top c d ks)(hy:y∈ks.map (·.1)):c y<=5 \/ c y<=top:=by
 obtain ⟨s,hs⟩:=Yj hy;have k1:=kk.at hs
 cases s with
 | tags ts=>obtain ⟨h1,h2,h3,_⟩:=k1;exact .inl (by omega)
 | pair a b=>obtain ⟨h1,h2,h3,h4,_⟩:=k1;exact .inr h4
theorem Tj{ks:List (Str × Shp)}(e:kvs.map (·.1)=ks.map (fun k=>(Sum.inr k.1:Key)))(h:y ∉ ks.map (·.1)):Zp kvs (Sum.inr y)=none:=by
 unfold Zp
 cases q:kvs.find? fun kv=>decide (kv.1=Sum.inr y) with
 | none=>rfl
 | some kv=>
  have m:=List.mem_of_find?_eq_some q;have q':=List.find?_some q;have z:kv.1=Sum.inr y:=of_decide_eq_true q';have m2:(Sum.inr y:Key)∈kvs.map (·.1):=List.mem_map.mpr ⟨kv,m,z⟩;rw [e] at m2;obtain ⟨k,hk,ek⟩:=List.mem_map.mp m2;exact absurd (List.mem_map.mpr ⟨k,hk,Sum.inr.inj ek⟩) h
theorem Vx{ks:List (Str × Shp)}{s:Shp}(h:z∈(ks++ [(y,s)]).map (·.1))(n:z≠y):z∈ks.map (·.1):=by
 rw [List.map_append,List.mem_append] at h;rcases h with h | h
 .exact h
 .exact absurd (List.mem_singleton.mp h) n
theorem KR.snoc(k:KR H S ks d)(t:TL H H')(kk:KK 30 c d ks)(k1:KK1 30 c d (ks.map (·.1)) y s)(ny:y ∉ ks.map (·.1))(esh:S'.sh=putK S.sh (Sum.inr y) v)(hv:Has H' v s.dat)(ewo:S'.wo=putK S.wo (Sum.inr y) (.ref r))(hr:∃ xs,H' r=some (.lst xs)/\HasL H' xs ((wOf ks 3 s).map W.dat))(ehe:S'.he=putK S.he (Sum.inr y) (.int (hOf ks 3 s:Nat)))(epd:S'.pd=putK S.pd (Sum.inr y) (.int (d y:Nat)))(etk:∀ x:Str,Zp S'.tk (Sum.inr x)=if Yy x s=true then some (.str y) else Zp S.tk (Sum.inr x))(ltk:S'.tk.length<=S.tk.length + 4)(ntk:∀ x,Yy x s=true->Y1 ks x=none)(epk:∀ a b:Str,Zp S'.pk [Sum.inr a,Sum.inr b]=if Yp a b s=true then some (.str y) else Zp S.pk [Sum.inr a,Sum.inr b])(lpk:S'.pk.length<=S.pk.length + 4)(npk:∀ a b,Yp a b s=true->Ym ks a b=none):
  KR H' S' (ks++ [(y,s)]) d:=by
 have k':=k.tl t;have vn:=Tj k.ke ny
 have hw:Zd (ks++ [(y,s)]) 3 y=wOf ks 3 s:=by
  rw [V5 (X1 ny)]
  cases s with
  | tags ts=>rfl
  | pair a b=>
   obtain ⟨q1,q2,q3,q4,q5,q6⟩:=k1;have m1:=Nat.le_max_left (d a) (d b);have m2:=Nat.le_max_right (d a) (d b);show (W.non::_)=(W.non::_);rw [VW kk _ 2 a q1,VW kk _ 2 b q2,Y7 kk 2 3 a q1 (by omega) (by omega),Y7 kk 2 3 b q2 (by omega) (by omega)]
 have hh:UM (ks++ [(y,s)]) 3 y=hOf ks 3 s:=by
  rw [Uc (X1 ny)]
  cases s with
  | tags ts=>rfl
  | pair a b=>
   obtain ⟨q1,q2,q3,q4,q5,q6⟩:=k1;have m1:=Nat.le_max_left (d a) (d b);have m2:=Nat.le_max_right (d a) (d b);show 1 + _ + _=1 + _ + _;rw [JB kk _ 2 a q1,JB kk _ 2 b q2,J7 kk 2 3 a q1 (by omega) (by omega),J7 kk 2 3 b q2 (by omega) (by omega)]
 have ne:∀ {z:Str},z≠y-> ¬ (Sum.inr z:Key)=Sum.inr y:=fun n q=>n (Sum.inr.inj q);obtain ⟨b1,b2,b3,b4,b5,b6⟩:=k.ln;refine ⟨?_,fun z s' hz=>?_,fun z hz=>?_,fun z hz=>?_,fun z hz=>?_,fun x=>?_,fun a b=>?_,?_⟩
 .rw [esh,Jj v vn,List.map_append,List.map_append,k.ke];rfl
 .rw [esh,VA]
  by_cases e:z=y
  .subst e
   rw [X1 ny] at hz;cases hz;rw [if_pos rfl];exact ⟨v,rfl,hv⟩
  .rw [if_neg (ne e)]
   have hz':=Vx (List.mem_map.mpr ⟨_,Jg hz,rfl⟩) e;rw [Us hz'] at hz;exact k'.sh z s' hz
 .rw [ewo,VA]
  by_cases e:z=y
  .subst e
   rw [if_pos rfl,hw];obtain ⟨xs,g1,g2⟩:=hr;exact ⟨r,xs,rfl,g1,g2⟩
  .rw [if_neg (ne e)]
   have hz':=Vx hz e;rw [VW kk _ 3 z hz'];exact k'.wo z hz'
 .rw [ehe,VA]
  by_cases e:z=y
  .subst e
   rw [if_pos rfl,hh]
  .rw [if_neg (ne e)]
   have hz':=Vx hz e;rw [JB kk _ 3 z hz'];exact k.he z hz'
 .rw [epd,VA]
  by_cases e:z=y
  .subst e
   rw [if_pos rfl]
  .rw [if_neg (ne e)]
   exact k.pd z (Vx hz e)
 .rw [etk x]
  have e:Y1 (ks++ [(y,s)]) x=(Y1 ks x).or (if Yy x s=true then some y else none):=by
   unfold Y1;rw [J8]
   cases ks.find? fun k=>Yy x k.2 with
   | some k=>rfl
   | none=>
    show Option.map _ (if Yy x s=true then some (y,s) else none)=_;cases Yy x s <;> rfl
  rw [e]
  cases hx:Yy x s with
  | true=>rw [ntk x hx];rfl
  | false=>
   rw [k.tk x];cases Y1 ks x <;> rfl
 .rw [epk a b]
  have e:Ym (ks++ [(y,s)]) a b=(Ym ks a b).or (if Yp a b s=true then some y else none):=by
   unfold Ym;rw [J8]
   cases ks.find? fun k=>Yp a b k.2 with
   | some k=>rfl
   | none=>
    show Option.map _ (if Yp a b s=true then some (y,s) else none)=_;cases Yp a b s <;> rfl
  rw [e]
  cases hx:Yp a b s with
  | true=>rw [npk a b hx];rfl
  | false=>
   rw [k.pk a b];cases Ym ks a b <;> rfl
 .rw [List.length_append,List.length_singleton,esh,ewo,ehe,epd]
  have:=YJ S.sh (Sum.inr y) v;have:=YJ S.wo (Sum.inr y) (.ref r);have:=YJ S.he (Sum.inr y) (.int (hOf ks 3 s:Nat));have:=YJ S.pd (Sum.inr y) (.int (d y:Nat));exact ⟨by omega,by omega,by omega,by omega,by omega,by omega⟩
end L2
namespace K4
open PySem L2
section
variable{f g C gt gp gn:Addr}
def GX(C:Addr):Sp:=fun vs H Q _=> ∃ (A:KA6) (S:KC) (y:Str) (v:V) (s:Shp) (ks:List (Str × Shp)) (c d:Str->Nat),vs= [.ref A.t, .str y,v]/\KD H C A S/\KR H S ks d/\KK 30 c d ks/\KK1 30 c d (ks.map (·.1)) y s/\y ∉ ks.map (·.1)/\
 (1<=y.length/\y.length<=8/\∀ c∈y.cps.toList,97<=c/\c < 97 + 26)/\(∀ ts,s= .tags ts->Wds 65 ts)/\(∀ x,Yy x s=true->Y1 ks x=none)/\(∀ a b,Yp a b s=true->Ym ks a b=none)/\Has H v s.dat/\ks.length<=6/\
 ∀ H' S',KFr A H H'->KD H' C A S'->KR H' S' (ks++ [(y,s)]) d->Q .non H'
theorem PP(A:KA6):(XQ A).lookup ("take_tags" :Str)=none:=rfl
theorem PQ(A:KA6):(XQ A).lookup ("take_pair" :Str)=none:=rfl
theorem Ff:ZX ["self","name","shape"] ["self","name","shape"] (ZL R0):=Zl
theorem D7(B:Blt mg)(T:KCl K C)(F:Fun K "take" "Kinds.take" R0 f fd)(GN:ZN P w K mg base CX0 n gn nd' ["text"] (Jd 97))(bN:Binds K nd' ["text"] [])(kN:W.keepIn K (.ref gn)=true)(mN:mg "is_name" =some (.ref gn))(GT:ZN P w K mg base CX0 n gt td ["self","name","tags"] (Rg C))(bT:Binds K td ["self","name","tags"] [])(mT:Yc K C "take_tags" gt)(GP:ZN P w K mg base CX0 n gp pd' ["self","name","one","other"] (GJ C))(bP:Binds K pd' ["self","name","one","other"] [])(mP:Yc K C "take_pair" gp):
  ZN P w K mg base CX0 (n + 1) f fd ["self","name","shape"] (GX C):=by
 refine F.ok Ff (fun vs H Q E h=>?_) (fun cdv A outer s H vs Q E hr h=>?_)
 .obtain ⟨A',S,y,v,s,ks,c,d,rfl,_⟩:=h
  rfl
 obtain ⟨A',S,y,v,s,ks,c,d,rfl,kd,kr,kk,k1,ny,⟨y1,y8,yc⟩,wt,ntk,npk,hv,k6,q⟩:=h;have hu:=Yg hr;refine ⟨_,ZC (Zh (Yk (YN (ZM GN hr rfl mN kN bN .nil ZT (ZA (pv 1) ZE)))) (ZH Z0) ZU)
  (ZC (Zh (V0 (Ux hu (pv 1) (Zt (pv 0) rfl))) (ZH Z0) ZU)
  (ZC (Zh (PW.pt (Vn (ZV YL (Zj Zg rfl B.len PySem.boot_len (ZA (pv 2) ZE)) ZG (Zb _)) (VT (ZV YL (ZY Za (pv 2) ZG) Zf (Zb _)))))
   (ZH (YC (YA (pv 0) T.cl mT GT hr bT .nil ZT (ZA (pv 1) (ZA (ZY Za (pv 2) ZG) ZE)))))
   (ZH (Zh (PW.pt (Vn (ZV YL (Zj Zg rfl B.len PySem.boot_len (ZA (pv 2) ZE)) ZG (Zb _)) (VT (ZV YL (ZY Za (pv 2) ZG) Zf (Zb _)))))
    (ZH (YC (YA (pv 0) T.cl mP GP hr bP .nil ZT (ZA (pv 1) (ZA (ZY Za (pv 2) ZG) (ZA (ZY Za (pv 2) ZG) ZE))))))
    (ZH Z0))))
  (ZH (YD hu (Zt (pv 0) rfl) (pv 1) (pv 2) rfl)))),?_⟩
 show let a:=_;let b:=_;let c:=_;let d:=_;let e:=Zw _ c d;let f:=ZQ (Zw _ b e) a;let g:=_;let h:=ZQ (Zw _ g _) f;let i:=_;ZQ (Zw _ i _) h _ _ _
 intros
 refine ⟨y,rfl,y1,y8,yc,fun H1 s1=>⟨_,rfl,?_⟩⟩;refine Zk (by simp) ?_;have kd1:=kd.mono s1;have kr1:=kr.tl s1.tl;have hv1:=hv.mono s1;have gn:Zz H1 A'.sh (.str y) none:=by rw [<-Tj kr.ke ny];exact Zz.k (k:=Sum.inr y) kd1.sh
 refine ⟨C,_,_,_,kd1.ins,T.cl,T.sh,Mp _,_,gn,_,rfl,?_⟩;refine Zk (by simp) ?_;obtain ⟨b1,b2,b3,b4,b5,b6⟩:=kr.ln
 cases s with
 | tags ts=>
  obtain ⟨p,l,rfl,hp,hl⟩:=Va hv1;have l2:([V.str "tags",V.ref l]:List V).length=2:=rfl;refine ⟨p,_,rfl, .inr (SqT.of hp),rfl,_,rfl,?_⟩;refine Yb (by simp) ?_;refine ⟨_,_,SqT.of hp,rfl,rfl,_,rfl,?_⟩;refine Yb (by simp) ?_;obtain ⟨t1,t4,_,t0,_⟩:=k1;refine ⟨_,_,kd1.ins,PP _,_,_,SqT.of hp,rfl,A',S,y,l,ts,rfl,kd1,hl,t1,t4,wt ts rfl,fun x hx=>?_,by omega,by omega,by omega,by omega,fun H2 tk' r f2 kd2 tv tl hr2=>?_⟩
  .rw [kr.tk x,ntk x (by unfold Yy;exact decide_eq_true hx)];rfl
  .have tl2:=f2.tl kd1
   refine ⟨C,_,_,_,kd2.ins,T.cl,T.sh,Mp _,_,VJ.k (k:=Sum.inr y) kd2.sh (ZK (by show S.sh.length<=1000;omega)),?_⟩;have kd3:=kd2.put_sh (putK S.sh (Sum.inr y) (.ref p));have f3:=f2.put (x:=A'.sh) (by simp [KA6.ds]) (.dK (putK S.sh (Sum.inr y) (.ref p)));have tl3:=tl2.trans ((KFr.put (KFr.refl A' H2) (x:=A'.sh) (by simp [KA6.ds]) (.dK (putK S.sh (Sum.inr y) (.ref p)))).tl kd2);have t23:=(KFr.put (KFr.refl A' H2) (x:=A'.sh) (by simp [KA6.ds]) (.dK (putK S.sh (Sum.inr y) (.ref p)))).tl kd2;refine q _ _ (s1.kfr.trans f3) kd3 (KR.snoc (v:= .ref p) (r:=r) kr1 tl3 kk ⟨t1,t4,by assumption,t0,by assumption⟩ ny rfl (Has.tl tl3 _ hv1) rfl ⟨_,t23.2 _ _ hr2,?_⟩ rfl (by rw [t0];rfl) (fun x=>?_) tl ntk (fun a b=>rfl) (Nat.le_add_right _ _) npk)
   .show HasL _ (V.non::ts.map V.str) ((W.non::ts.map W.tag).map W.dat)
    exact HasL.cons Xl (Xs ts)
   .rw [tv x]
    unfold Yy
    by_cases m:x∈ts
    .rw [if_pos m,if_pos (decide_eq_true m)]
    .rw [if_neg m,if_neg (by simp [m])]
 | pair a b=>
  obtain ⟨p,rfl,hp⟩:=Y5 hv1;obtain ⟨q1,q2,q3,q4,q5,q6⟩:=id k1;have m1:=Nat.le_max_left (d a) (d b);have m2:=Nat.le_max_right (d a) (d b);refine ⟨p,_,rfl, .inr (SqT.of hp),rfl,_,rfl,?_⟩;refine Zk (by simp) ?_;refine Zk (by simp) ?_;refine ⟨p,_,rfl, .inr (SqT.of hp),rfl,_,rfl,?_⟩;refine Yb (by simp) ?_;refine ⟨_,_,SqT.of hp,rfl,rfl,_,rfl,?_⟩;refine Yb (by simp) ?_;obtain ⟨la,pa,_⟩:=Yx kk 3 a q1 (by omega);obtain ⟨lb,pb,_⟩:=Yx kk 3 b q2 (by omega)
  have pt:∀ z,z∈ks.map (·.1)->Pt H1 S z (Zd ks 3 z) (UM ks 3 z) (d z):=fun z hz=>by
   obtain ⟨s',hs'⟩:=Yj hz;obtain ⟨v',e1,_⟩:=kr.sh z s' hs';exact ⟨by rw [e1];rfl,kr1.wo z hz,kr.he z hz,kr.pd z hz⟩
  have ca:c a<=30:=by rcases L3 kk q1 with h | h <;> omega
  have cb:c b<=30:=by rcases L3 kk q2 with h | h <;> omega
  refine ⟨_,_,kd1.ins,PQ _,_,_,SqT.of hp,rfl,_,_,SqT.of hp,rfl,A',S,y,a,b,Zd ks 3 a,Zd ks 3 b,UM ks 3 a,UM ks 3 b,d a,d b,rfl,kd1,pt a q1,pt b q2,?_,by omega,?_,by omega,by omega,by omega,by omega,by omega,by omega,fun z=>by subst z;exact ny q1,fun z=>by subst z;exact ny q2,fun H2 r f2 kd2 hr2=>?_⟩
  .rw [kr.pk a b,npk a b (by unfold Yp;simp)];rfl
  .rw [la,lb];omega
  .have tl2:=f2.tl kd1
   refine ⟨C,_,_,_,kd2.ins,T.cl,T.sh,Mp _,_,VJ.k (k:=Sum.inr y) kd2.sh (ZK (by show S.sh.length<=1000;omega)),?_⟩;have kd3:=kd2.put_sh (putK S.sh (Sum.inr y) (.ref p));have f3:=f2.put (x:=A'.sh) (by simp [KA6.ds]) (.dK (putK S.sh (Sum.inr y) (.ref p)));have t23:=(KFr.put (KFr.refl A' H2) (x:=A'.sh) (by simp [KA6.ds]) (.dK (putK S.sh (Sum.inr y) (.ref p)))).tl kd2;have tl3:=tl2.trans t23;obtain ⟨xs,hx1,hx2⟩:=hr2;refine q _ _ (s1.kfr.trans f3) kd3 (KR.snoc (v:= .ref p) (r:=r) kr1 tl3 kk k1 ny rfl (Has.tl tl3 _ hv1) rfl ⟨xs,t23.2 _ _ hx1,HasL.tl t23 _ hx2⟩ rfl (by rw [q5]) (fun x=>rfl) (Nat.le_add_right _ _) ntk (fun e g=>?_) (by have:=YJ S.pk [Sum.inr a,Sum.inr b] (.str y);show (putK S.pk [Sum.inr a,Sum.inr b] (V.str y)).length<=_;omega) npk);show Zp (putK S.pk [Sum.inr a,Sum.inr b] (V.str y)) [Sum.inr e,Sum.inr g]=_;rw [VA];unfold Yp
   by_cases h1:a=e
   .by_cases h2:b=g
    .subst h1 h2;simp
    .have z: ¬ ([Sum.inr e,Sum.inr g]:List Key)= [Sum.inr a,Sum.inr b]:=fun w=>by injection w with w1 w2;injection w2 with w2 _;exact h2 (Sum.inr.inj w2).symm
     rw [if_neg z,if_neg (by simp [h2])]
   .have z: ¬ ([Sum.inr e,Sum.inr g]:List Key)= [Sum.inr a,Sum.inr b]:=fun w=>by injection w with w1 _;exact h1 (Sum.inr.inj w1).symm
    rw [if_neg z,if_neg (by simp [h1])]
end
end K4
namespace L2
open PySem
theorem VH(hx:H x=some (.ins C dx fs))(hp:H p=none):
  upd (upd H p o) x (.ins C dx (YH f (.ref p) fs)) x=some (.ins C dx (YH f (.ref p) fs))/\upd (upd H p o) x (.ins C dx (YH f (.ref p) fs)) p=some o/\p≠x/\∀ b u,b≠x->H b=some u->upd (upd H p o) x (.ins C dx (YH f (.ref p) fs)) b=some u:=by
 have ne:p≠x:=(ZJ hx hp).symm;exact ⟨ZD,(ZI ne).trans ZD,ne,fun b u hb h=>by rw [ZI hb,ZI (ZJ h hp)];exact h⟩
theorem KK.take(h:KK top c d ks)(i:Nat):KK top c d (ks.take i):=fun j y s e=>by
 have hj:j < i:=by
  have:=(List.getElem?_eq_some_iff.mp e).1;rw [List.length_take] at this;omega
 rw [List.getElem?_take,if_pos hj] at e;have q:=h j y s e;rw [List.take_take,Nat.min_eq_left (Nat.le_of_lt hj)];exact q
theorem KG.apart(g:KG ks){i j:Nat}(hi:ks[i]?=some (y, .tags ts))(hj:ks[j]?=some (z, .tags us))(h1:x∈ts)(h2:x∈us):i=j:=by
 obtain ⟨tgs,wd,q⟩:=g.tg;obtain ⟨r,hr,rfl⟩:=q i y ts hi;obtain ⟨r',hr',rfl⟩:=q j z us hj;obtain ⟨a,ha,ea⟩:=List.mem_iff_getElem.mp h1;obtain ⟨b,hb,eb⟩:=List.mem_iff_getElem.mp h2;rw [List.length_take,List.length_drop] at ha hb;rw [List.getElem_take,List.getElem_drop] at ea eb;have e:tgs[4 * i + a]'(by omega)=tgs[4 * j + b]'(by omega):=ea.trans eb.symm;have pw:=List.pairwise_iff_getElem.mp wd.nd
 have ee:4 * i + a=4 * j + b:=by
  rcases Nat.lt_trichotomy (4 * i + a) (4 * j + b) with h | h | h
  .exact absurd e (pw _ _ _ _ h)
  .exact h
  .exact absurd e.symm (pw _ _ _ _ h)
 omega
theorem KG.ntk(g:KG ks)(hi:ks[i]?=some (y,s))(x:Str)(h:Yy x s=true):Y1 (ks.take i) x=none:=by
 cases s with
 | pair a b=>cases h
 | tags ts=>
  have hx:x∈ts:=of_decide_eq_true h;unfold Y1
  cases e:(ks.take i).find? fun k=>Yy x k.2 with
  | none=>rfl
  | some k=>
   have m:=List.mem_of_find?_eq_some e;have q:=List.find?_some e;obtain ⟨z,s'⟩:=k
   cases s' with
   | pair a b=>cases q
   | tags us=>
    have hx':x∈us:=of_decide_eq_true q;obtain ⟨j,hj,ej⟩:=List.mem_iff_getElem.mp m;have hj':j < i:=by rw [List.length_take] at hj;omega
    have e2:ks[j]?=some (z, .tags us):=by
     have:=List.getElem?_eq_getElem hj;rw [ej,List.getElem?_take,if_pos hj'] at this;exact this
    have:=g.apart hi e2 hx hx';omega
theorem KG.npk(g:KG ks)(hi:ks[i]?=some (y,s))(a b:Str)(h:Yp a b s=true):Ym (ks.take i) a b=none:=by
 have is:∀ {s':Shp},Yp a b s'=true->s'= .pair a b:=fun {s'} h=>by
  cases s' with
  | tags ts=>cases h
  | pair c e=>
   unfold Yp at h;rw [Bool.and_eq_true] at h;rw [of_decide_eq_true h.1,of_decide_eq_true h.2]
 unfold Ym
 cases e:(ks.take i).find? fun k=>Yp a b k.2 with
 | none=>rfl
 | some k=>
  have m:=List.mem_of_find?_eq_some e;have q:=List.find?_some e;obtain ⟨z,s'⟩:=k;have e1:=is h;have e3:s'= .pair a b:=is q;subst e1 e3;obtain ⟨j,hj,ej⟩:=List.mem_iff_getElem.mp m;have hj':j < i:=by rw [List.length_take] at hj;omega
  have e2:ks[j]?=some (z, .pair a b):=by
   have:=List.getElem?_eq_getElem hj;rw [ej,List.getElem?_take,if_pos hj'] at this;exact this
  have:=g.pr i j y z a b hi e2;omega
end L2
namespace K4
open PySem L2
section
variable{f g C gt:Addr}
def Ri(C:Addr):Sp:=fun vs H Q _=> ∃ (x dx l:Addr) (xs:List V) (ks:List (Str × Shp)) (c d:Str->Nat),vs= [.ref x, .ref l]/\H x=some (.ins C dx [])/\H l=some (.lst xs)/\HasL H xs (ks.map Yq)/\KK 30 c d ks/\(ks.map (·.1)).Nodup/\KG ks/\0 < ks.length/\ks.length<=6/\
 ∀ H',(∀ b o,b≠x->H b=some o->H' b=some o)->KI H' C x ks d->Q .non H'
theorem Ol(A:KA6):(XQ A).lookup ("take" :Str)=none:=rfl
theorem Ro:ZX ["self","told","name","shape"] ["self","told"] (ZL DX):=Zl
theorem IX(B:Blt mg)(T:KCl K C)(F:Fun K "__init__" "Kinds.__init__" DX f fd)(hM:mg "MOST_KINDS" =some u)(rM:RelV (.int 6) u)(GT:ZN P w K mg base CX0 n gt td ["self","name","shape"] (GX C))(bT:Binds K td ["self","name","shape"] [])(mT:Yc K C "take" gt):
  ZN P w K mg base CX0 (n + 1) f fd ["self","told"] (Ri C):=by
 refine F.ok Ro (fun vs H Q E h=>?_) (fun cdv A outer s H vs Q E hr h=>?_)
 .obtain ⟨x,dx,l,xs,ks,c,d,rfl,_⟩:=h
  rfl
 obtain ⟨x,dx,l,xs,ks,c,d,rfl,hx,hl,hxs,kk,nd,kg,k0,k6,q⟩:=h;refine ⟨_,ZC (Zh (Yk (T3 XG XG ZG (Zj Zg rfl B.len PySem.boot_len (ZA (pv 1) ZE)) (Y3 rfl hM rM))) (ZH Z0) ZU)
  (ZC (V1 (pv 0) Yl rfl) (ZC (V1 (pv 0) Yl rfl) (ZC (V1 (pv 0) Yl rfl) (ZC (V1 (pv 0) Yl rfl) (ZC (V1 (pv 0) Yl rfl) (ZC (V1 (pv 0) Dn rfl)
  (ZH (YO PassesOwn.never rfl (Z6 (pv 1)) (YR (n:=2) rfl (Zc (ZO 2 Ro.nd) (Zc (ZO 3 Ro.nd) Z9)))
   (ZH (YC (YA (pv 0) T.cl mT GT hr bT .nil ZT (ZA (pv 2) (ZA (pv 3) ZE))))))))))))),?_⟩
 show let a:=_;let b:=VX _ _ a;let c:=ZQ _ b;let d:=ZQ _ c;let e:=ZQ _ d;let f:=ZQ _ e;let g:=ZQ _ f;let h:=ZQ _ g;let i:=_;ZQ (Zw _ i _) h _ _ _
 intros
 have lx:=hxs.length;rw [List.length_map] at lx;refine ⟨l,_,rfl, .inl (SqL.of hl),_,rfl,?_⟩;refine Yb (by simp;omega) ?_;refine ⟨_,rfl,?_⟩;refine Zk (by simp;omega) ?_;intro p1 hp1;refine ⟨x,C,dx,_,rfl,by rw [ZI (ZJ hx hp1)];exact hx,T.cl,T.sh,by decide,?_⟩;obtain ⟨x1,a1,n1,r1⟩:=VH (f:="shapes") (o:= .dK []) hx hp1;generalize upd (upd H p1 (.dK [])) x (.ins C dx (YH "shapes" (.ref p1) []))=H1 at x1 a1 r1 |-;intro p2 hp2;refine ⟨x,C,dx,_,rfl,by rw [ZI (ZJ x1 hp2)];exact x1,T.cl,T.wo,(by show 1 < 1000;decide),?_⟩;obtain ⟨x2,a2,n2,r2⟩:=VH (f:="worths") (o:= .dK []) x1 hp2;generalize upd (upd H1 p2 (.dK [])) x (.ins C dx (YH "worths" (.ref p2) (YH "shapes" (.ref p1) [])))=H2 at x2 a2 r2 |-;intro p3 hp3;refine ⟨x,C,dx,_,rfl,by rw [ZI (ZJ x2 hp3)];exact x2,T.cl,T.he,(by show 2 < 1000;decide),?_⟩;obtain ⟨x3,a3,n3,r3⟩:=VH (f:="heights") (o:= .dK []) x2 hp3;generalize upd (upd H2 p3 (.dK [])) x (.ins C dx (YH "heights" (.ref p3) (YH "worths" (.ref p2) (YH "shapes" (.ref p1) []))))=H3 at x3 a3 r3 |-;intro p4 hp4;refine ⟨x,C,dx,_,rfl,by rw [ZI (ZJ x3 hp4)];exact x3,T.cl,T.pd,(by show 3 < 1000;decide),?_⟩;obtain ⟨x4,a4,n4,r4⟩:=VH (f:="pairs_deep") (o:= .dK []) x3 hp4;generalize upd (upd H3 p4 (.dK [])) x (.ins C dx (YH "pairs_deep" (.ref p4) (YH "heights" (.ref p3) (YH "worths" (.ref p2) (YH "shapes" (.ref p1) [])))))=H4 at x4 a4 r4 |-;intro p5 hp5;refine ⟨x,C,dx,_,rfl,by rw [ZI (ZJ x4 hp5)];exact x4,T.cl,T.tk,(by show 4 < 1000;decide),?_⟩;obtain ⟨x5,a5,n5,r5⟩:=VH (f:="tag_kinds") (o:= .dK []) x4 hp5;generalize upd (upd H4 p5 (.dK [])) x (.ins C dx (YH "tag_kinds" (.ref p5) (YH "pairs_deep" (.ref p4) (YH "heights" (.ref p3) (YH "worths" (.ref p2) (YH "shapes" (.ref p1) []))))))=H5 at x5 a5 r5 |-;intro p6 hp6;refine ⟨x,C,dx,_,rfl,by rw [ZI (ZJ x5 hp6)];exact x5,T.cl,T.pk,(by show 5 < 1000;decide),?_⟩;obtain ⟨x6,a6,n6,r6⟩:=VH (f:="pair_kinds") (o:= .dT []) x5 hp6;generalize upd (upd H5 p6 (.dT [])) x (.ins C dx (YH "pair_kinds" (.ref p6) (YH "tag_kinds" (.ref p5) (YH "pairs_deep" (.ref p4) (YH "heights" (.ref p3) (YH "worths" (.ref p2) (YH "shapes" (.ref p1) [])))))))=H6 at x6 a6 r6 |-
 let A':KA6:=⟨x,dx,p1,p2,p3,p4,p5,p6⟩
 have frame:∀ b o,b≠x->H b=some o->H6 b=some o:=fun b o hb h=>r6 b o hb (r5 b o hb (r4 b o hb (r3 b o hb (r2 b o hb (r1 b o hb h)))));have c12:=r2 _ _ n1 a1;have c13:=r3 _ _ n1 c12;have c14:=r4 _ _ n1 c13;have c15:=r5 _ _ n1 c14;have c16:=r6 _ _ n1 c15;have c23:=r3 _ _ n2 a2;have c24:=r4 _ _ n2 c23;have c25:=r5 _ _ n2 c24;have c26:=r6 _ _ n2 c25;have c34:=r4 _ _ n3 a3;have c35:=r5 _ _ n3 c34;have c36:=r6 _ _ n3 c35;have c45:=r5 _ _ n4 a4;have c46:=r6 _ _ n4 c45;have c56:=r6 _ _ n5 a5
 have ndA:A'.ds.Nodup:=by
  have e12:=ZJ a1 hp2;have e13:=ZJ c12 hp3;have e14:=ZJ c13 hp4;have e15:=ZJ c14 hp5;have e16:=ZJ c15 hp6;have e23:=ZJ a2 hp3;have e24:=ZJ c23 hp4;have e25:=ZJ c24 hp5;have e26:=ZJ c25 hp6;have e34:=ZJ a3 hp4;have e35:=ZJ c34 hp5;have e36:=ZJ c35 hp6;have e45:=ZJ a4 hp5;have e46:=ZJ c45 hp6;have e56:=ZJ a5 hp6;simp [KA6.ds,A',e12,e13,e14,e15,e16,e23,e24,e25,e26,e34,e35,e36,e45,e46,e56]
 have kd:KD H6 C A' ⟨[], [], [], [], [], []⟩:=⟨x6,c16,c26,c36,c46,c56,a6,ndA⟩
 have new:∀ b,b∈A'.ds->H b=none:=fun b hb=>by
  cases e:H b with
  | none=>rfl
  | some o=>
   simp only [KA6.ds,A',List.mem_cons,List.not_mem_nil,or_false] at hb;rcases hb with z | z | z | z | z | z
   .subst z;rw [hp1] at e;cases e
   .subst z;rw [r1 _ _ n2 e] at hp2;cases hp2
   .subst z;rw [r2 _ _ n3 (r1 _ _ n3 e)] at hp3;cases hp3
   .subst z;rw [r3 _ _ n4 (r2 _ _ n4 (r1 _ _ n4 e))] at hp4;cases hp4
   .subst z;rw [r4 _ _ n5 (r3 _ _ n5 (r2 _ _ n5 (r1 _ _ n5 e)))] at hp5;cases hp5
   .subst z;rw [r5 _ _ n6 (r4 _ _ n6 (r3 _ _ n6 (r2 _ _ n6 (r1 _ _ n6 e))))] at hp6;cases hp6
 have lnx:l≠x:=YM hl hx (by intro z;cases z);have hl6:=frame _ _ lnx hl;have tl06:TL H H6:=⟨fun b ys h=>frame _ _ (YM h hx (by intro z;cases z)) h,fun b ys h=>frame _ _ (YM h hx (by intro z;cases z)) h⟩;have hx6:=HasL.tl tl06 _ hxs;refine ⟨⟨_,SqL.of hl6⟩,?_⟩
 let I:Nat->St->Hp->Prop:=fun i U H'=> ∃ S z1 z2,KFr A' H6 H'/\KD H' C A' S/\KR H' S (ks.take i) d/\U= [some (.ref x),some (.ref l),z1,z2]
 refine Vg (xs:=xs) I ⟨_,_,_,KFr.refl _ _,kd,?_,rfl⟩ ?_ ?_ ?_
 .rw [List.take_zero]
  exact ⟨rfl,fun y s e=>by simp [YQ] at e,fun y hy=>by simp at hy,fun y hy=>by simp at hy,fun y hy=>by simp at hy,fun y=>rfl,fun a b=>rfl,by decide⟩
 .rintro i U H' _ ⟨S,z1,z2,fr,kd',kr',rfl⟩
  exact SqL.of ((fr.tl kd).2 _ _ hl6)
 .rintro BB RR i v U H' hv ⟨S,z1,z2,fr,kd',kr',rfl⟩
  have ilt:=(List.getElem?_eq_some_iff.mp hv).1;obtain ⟨dv,hdv,hhv⟩:=hx6.get hv;rw [List.getElem?_map] at hdv
  cases hk:ks[i]? with
  | none=>rw [hk] at hdv;cases hdv
  | some ys=>
   rw [hk] at hdv;cases hdv;obtain ⟨y,sh⟩:=ys;have tl6:=fr.tl kd;obtain ⟨a,v2,rfl,ha,hv2⟩:=JC (Has.tl tl6 _ hhv);have my:y∈ks.map (·.1):=List.mem_map.mpr ⟨_,List.mem_of_getElem? hk,rfl⟩
   have ny:y ∉ (ks.take i).map (·.1):=fun hm=>by
    have q':((ks.take i++ [(y,sh)]).map (·.1)).Nodup:=by rw [<-take_snoc hk];exact nd.sublist ((List.take_sublist _ _).map _)
    rw [List.map_append] at q';exact (List.nodup_append.mp q').2.2 y hm y (by simp) rfl
   refine ⟨_,SqT.of ha,rfl,?_⟩;refine ⟨_,_,kd'.ins,Ol A',A',S,y,v2,sh,ks.take i,c,d,rfl,kd',kr',kk.take i,kk i y sh hk,ny,⟨(kg.nm.len y my).1,(kg.nm.len y my).2,kg.nm.abc y my⟩,fun ts e=>?_,kg.ntk hk,kg.npk hk,hv2,by rw [List.length_take];omega,fun H2 S2 f2 kd2 kr2=>?_⟩
   .subst e
    exact kg.tags (List.mem_of_getElem? hk)
   .rw [<-take_snoc hk] at kr2
    exact ⟨S2,_,_,fr.trans f2,kd2,kr2,rfl⟩
 .rintro U H' ⟨S,z1,z2,fr,kd',kr',rfl⟩
  rw [List.take_of_length_le (by omega)] at kr';refine q H' (fun b o hb h=>fr b o (fun hm=>?_) (frame b o hb h)) ⟨A',S,rfl,kd',kr'⟩;rw [new b hm] at h;cases h
end
end K4
namespace L2
open PySem
theorem WM{α:Type}{p:α->Bool}{l:List α}{x:α}(h:(l.take i).find? p=none)(e:l[i]?=some x)(hp:p x=true):l.find? p=some x:=by
 have hi:=(List.getElem?_eq_some_iff.mp e).1;have e2:l.drop i=x::l.drop (i + 1):=by rw [List.drop_eq_getElem_cons hi,(List.getElem?_eq_some_iff.mp e).2]
 rw [<-List.take_append_drop i l,List.find?_append,h,e2,List.find?_cons,hp]
 rfl
theorem Km(h:YQ ks y=some s):∃ i:Nat,ks[i]?=some (y,s):=List.mem_iff_getElem?.mp (Jg h)
theorem Ra(g:KG ks)(h:YQ ks y=some (.tags ts))(m:t∈ts):Y1 ks t=some y:=by
 obtain ⟨i,hi⟩:=Km h;have ht:Yy t (.tags ts)=true:=by unfold Yy;exact decide_eq_true m
 have n:=g.ntk hi t ht;unfold Y1 at n |-
 rw [WM (by cases e:(ks.take i).find? fun k=>Yy t k.2 with
  | none=>rfl
  | some k=>rw [e] at n;cases n) hi ht]
 rfl
theorem T4(g:KG ks)(h:YQ ks y=some (.pair a b)):Ym ks a b=some y:=by
 obtain ⟨i,hi⟩:=Km h;have ht:Yp a b (.pair a b)=true:=by unfold Yp;simp
 have n:=g.npk hi a b ht;unfold Ym at n |-
 rw [WM (by cases e:(ks.take i).find? fun k=>Yp a b k.2 with
  | none=>rfl
  | some k=>rw [e] at n;cases n) hi ht]
 rfl
theorem Eh(h:Has H v (.tup [.str b,d])):∃ a u,v= .ref a/\H a=some (.tup [.str b,u])/\Has H u d:=by
 obtain ⟨t,ys,rfl,ht,hl⟩:=Zn h;obtain ⟨x1,r1,rfl,h1,hlA⟩:=ZP hl;obtain ⟨x2,r2,rfl,h2,hlB⟩:=ZP hlA;obtain rfl:=YK hlB;obtain rfl:=has_str h1;exact ⟨t,x2,rfl,ht,h2⟩
end L2
namespace K4
open PySem L2
section
variable{f g C CK:Addr}
def Bu(C CK:Addr):Sp:=fun vs H Q _=> ∃ (t:Addr) (ks:List (Str × Shp)) (d:Str->Nat) (ds:List Dd) (x:Dd),vs= [.ref t, .str x.1.1]/\BI H C CK t ks d ds/\x∈ds/\∀ v,Has H v (psD x.1.2.1)->Q v H
def M9(C CK:Addr):Sp:=fun vs H Q _=> ∃ (t:Addr) (ks:List (Str × Shp)) (d:Str->Nat) (ds:List Dd) (x:Dd),vs= [.ref t, .str x.1.1]/\BI H C CK t ks d ds/\x∈ds/\Q (.str x.1.2.2) H
theorem LI:ZX ["self","F"] ["self","F"] (ZL MH):=Zl
theorem Fe:ZX ["self","F"] ["self","F"] (ZL MI):=Zl
theorem Fj:ZX ["self","F"] ["self","F"] (ZL ML):=Zl
def spR(C CK:Addr)(p:Bd->Prop):Sp:=fun vs H Q _=> ∃ (t a fl:Addr) (v:V) (ks:List (Str × Shp)) (d:Str->Nat) (ds:List Dd) (kv:List (Key × V)) (b:Bd) (y:Str) (zs:List Str),
 vs= [.ref t, .ref a,v, .ref fl]/\BI H C CK t ks d ds/\KG ks/\Rd H a (.dK kv)/\Has H v b.dat/\p b/\H fl=some (.lst (zs.map V.str))/\Kr ks (JX (ds.map (·.1))) kv y b zs/\zs.length<=6/\∀ H',Same H H'->Q (.str y) H'
abbrev rps:List Str:= ["book","around","body","found"]
theorem LJ:ZX ["book","around","body","found"] ["book","around","body","found"] (ZL DJ):=Zl
theorem Fh:ZX ["book","around","body","found"] ["book","around","body","found"] (ZL MB):=Zl
theorem Fg:ZX ["book","around","body","found"] ["book","around","body","found"] (ZL MA):=Zl
theorem LL:ZX ["book","around","body","found"] ["book","around","body","found"] (ZL DU):=Zl
theorem IT(TB:BCl K C)(TK:KCl K CK)(F:Fun K "kind_of_tag_body" "kind_of_tag_body" DJ f fd)(m1:Yc K C "kinds" g1)(G1:ZN P w K mg base CX0 n g1 d1 ["self"] (VC C CK))(b1:Binds K d1 ["self"] [])(m2:Yc K CK "kind_of_tag" g2)(G2:ZN P w K mg base CX0 n g2 d2 ["self","tag"] (Xw CK))(b2:Binds K d2 ["self","tag"] []):ZN P w K mg base CX0 (n + 1) f fd rps (spR C CK fun b=> ∃ t,b= .tag t):=by
 refine F.ok LJ (fun vs H Q E h=>?_) (fun cdv A outer s H vs Q E hr h=>?_)
 .obtain ⟨t,a,fl,v,ks,d,ds,kv,b,y,zs,rfl,_⟩:=h
  rfl
 obtain ⟨t,a,fl,v,ks,d,ds,kv,b,y,zs,rfl,bi,kg,ha,hv,⟨tg,rfl⟩,hf,⟨_,ts,k1,k2⟩,_,q⟩:=h;obtain ⟨A',kt,rfl,b'⟩:=id bi;refine ⟨_,ZH (ZW (YA (YS (pv 0) TB.cl m1 G1 hr b1 .nil ZT) TK.cl m2 G2 hr b2 .nil ZT (ZA (ZY Za (pv 2) ZG) ZE))),?_⟩;unfold Bd.dat at hv;obtain ⟨bt,rfl,hb⟩:=JR hv;refine ⟨_,_,b'.ins,rfl,A'.t,ks,d,ds,rfl,bi,fun so ki=>?_⟩;obtain ⟨AK,SK,rfl,kd,kr⟩:=id ki;refine ⟨_,_,kd.ins,rfl,_,_,SqT.of hb,rfl,AK.t,ks,d,tg,rfl,ki,?_⟩;rw [Ra kg k1 k2];exact q H (Same.refl _)
theorem EA(F:Fun K "kind_of_name_body" "kind_of_name_body" MB f fd):ZN P w K mg base CX0 (n + 1) f fd rps (spR C CK fun b=> ∃ x,b= .name x):=by
 refine F.ok Fh (fun vs H Q E h=>?_) (fun cdv A outer s H vs Q E hr h=>?_)
 .obtain ⟨t,a,fl,v,ks,d,ds,kv,b,y,zs,rfl,_⟩:=h
  rfl
 obtain ⟨t,a,fl,v,ks,d,ds,kv,b,y,zs,rfl,bi,kg,ha,hv,⟨x,rfl⟩,hf,⟨_,k1⟩,_,q⟩:=h;have hu:=Yg hr;refine ⟨_,ZH (ZW (WE hu (pv 1) (ZY Za (pv 2) ZG) ⟨rfl,rfl,rfl,rfl⟩)),?_⟩;unfold Bd.dat at hv;obtain ⟨bt,rfl,hb⟩:=JR hv;refine ⟨.inl ⟨kv,ha⟩,_,_,SqT.of hb,rfl,some (.str y), .inl ⟨kv,Sum.inr x,ha,rfl,k1.symm⟩,q H (Same.refl _)⟩
theorem D9(TB:BCl K C)(TK:KCl K CK)(F:Fun K "kind_of_pair_body" "kind_of_pair_body" MA f fd)(m1:Yc K C "kinds" g1)(G1:ZN P w K mg base CX0 n g1 d1 ["self"] (VC C CK))(b1:Binds K d1 ["self"] [])(m2:Yc K CK "kind_of_pair" g2)(G2:ZN P w K mg base CX0 n g2 d2 ["self","one","other"] (Uq CK))(b2:Binds K d2 ["self","one","other"] []):ZN P w K mg base CX0 (n + 1) f fd rps (spR C CK fun b=> ∃ e g,b= .pair e g):=by
 refine F.ok Fg (fun vs H Q E h=>?_) (fun cdv A outer s H vs Q E hr h=>?_)
 .obtain ⟨t,a,fl,v,ks,d,ds,kv,b,y,zs,rfl,_⟩:=h
  rfl
 obtain ⟨t,a,fl,v,ks,d,ds,kv,b,y,zs,rfl,bi,kg,ha,hv,⟨e,g,rfl⟩,hf,⟨z1,z2,rfl,k1⟩,_,q⟩:=h;obtain ⟨A',kt,rfl,b'⟩:=id bi;refine ⟨_,ZH (ZW (YA (YS (pv 0) TB.cl m1 G1 hr b1 .nil ZT) TK.cl m2 G2 hr b2 .nil ZT (ZA (ZY Zm (pv 3) ZG) (ZA (ZY Zm (pv 3) ZG) ZE)))),?_⟩;refine ⟨_,_,b'.ins,rfl,A'.t,ks,d,ds,rfl,bi,fun so ki=>?_⟩;obtain ⟨AK,SK,rfl,kd,kr⟩:=id ki;refine ⟨_,_,kd.ins,rfl,_,_,SqL.of hf,rfl,_,_,SqL.of hf,rfl,AK.t,ks,d,z1,z2,rfl,ki,fun H' s'=>?_⟩;rw [T4 kg k1];exact q H' s'
theorem IV(F:Fun K "kind_of_let_body" "kind_of_let_body" DU f fd):ZN P w K mg base CX0 (n + 1) f fd rps (spR C CK fun b=> ∃ x k e g,b= .letb x k e g):=by
 refine F.ok LL (fun vs H Q E h=>?_) (fun cdv A outer s H vs Q E hr h=>?_)
 .obtain ⟨t,a,fl,v,ks,d,ds,kv,b,y,zs,rfl,_⟩:=h
  rfl
 obtain ⟨t,a,fl,v,ks,d,ds,kv,b,y,zs,rfl,bi,kg,ha,hv,⟨x,k,e,g,rfl⟩,hf,⟨rfl,_,_⟩,_,q⟩:=h;refine ⟨_,ZC (Zh (ZV XF (ZY Zm (pv 3) ZG) (ZY Za (pv 2) ZG) (Zb _)) (ZH Z0) ZU)
  (ZH (ZW (ZY Zm (pv 3) ZG))),?_⟩
 unfold Bd.dat at hv;obtain ⟨bt,ys,rfl,hb,hl⟩:=Zn hv;obtain ⟨x1,r1,rfl,h1,hlA⟩:=ZP hl;obtain ⟨x2,r2,rfl,h2,hlB⟩:=ZP hlA;obtain ⟨x3,r3,rfl,h3,hlC⟩:=ZP hlB;obtain ⟨x4,r4,rfl,h4,hlD⟩:=ZP hlC;obtain ⟨x5,r5,rfl,h5,hlE⟩:=ZP hlD;obtain rfl:=YK hlE;obtain rfl:=has_str h3;refine ⟨_,_,SqL.of hf,rfl,_,_,SqT.of hb,rfl,rfl,_,rfl,Zk (by simp) ?_⟩;exact ⟨_,_,SqL.of hf,rfl,q H (Same.refl _)⟩
end
section
variable{f g C CK:Addr}
def Xb(C CK:Addr):Sp:=fun vs H Q _=> ∃ (t:Addr) (ks:List (Str × Shp)) (d:Str->Nat) (ds:List Dd) (z a b:Str) (i:Nat),vs= [.ref t, .str z, .int i]/\BI H C CK t ks d ds/\YQ ks z=some (.pair a b)/\(i=1/\Q (.str a) H \/ i=2/\Q (.str b) H)
theorem ND:ZX ["book","kind","at","shape"] ["book","kind","at"] (ZL R9):=Zl
theorem D8(TB:BCl K C)(TK:KCl K CK)(F:Fun K "kind_of_part" "kind_of_part" R9 f fd)(m1:Yc K C "kinds" g1)(G1:ZN P w K mg base CX0 n g1 d1 ["self"] (VC C CK))(b1:Binds K d1 ["self"] [])(m2:Yc K CK "shape_of" g2)(G2:ZN P w K mg base CX0 n g2 d2 ["self","kind"] (V6 CK))(b2:Binds K d2 ["self","kind"] []):ZN P w K mg base CX0 (n + 1) f fd ["book","kind","at"] (Xb C CK):=by
 refine F.ok ND (fun vs H Q E h=>?_) (fun cdv A outer s H vs Q E hr h=>?_)
 .obtain ⟨t,ks,d,ds,z,a,b,i,rfl,_⟩:=h
  rfl
 obtain ⟨t,ks,d,ds,z,a,b,i,rfl,bi,hz,q⟩:=h;obtain ⟨A',kt,rfl,b'⟩:=id bi;refine ⟨_,ZC (ZZ 3 ND.nd (YA (YS (pv 0) TB.cl m1 G1 hr b1 .nil ZT) TK.cl m2 G2 hr b2 .nil ZT (ZA (pv 1) ZE)))
  (ZC (Zh (ZV XF (ZY Za (pv 3) ZG) Zf (Zb _)) (ZH Z0) ZU)
  (ZH (ZW (ZY Za (pv 3) (pv 2) (fun _ _=>rfl))))),?_⟩
 refine ⟨_,_,b'.ins,rfl,A'.t,ks,d,ds,rfl,bi,fun so ki=>?_⟩;obtain ⟨AK,SK,rfl,kd,kr⟩:=id ki;refine ⟨_,_,kd.ins,rfl,AK.t,ks,d,z,_,rfl,ki,hz,fun v hv=>?_⟩;obtain ⟨ps,rfl,hp⟩:=Y5 hv;refine ⟨_,_,SqT.of hp,rfl,rfl,_,rfl,Zk (by decide +kernel) ?_⟩;rcases q with ⟨rfl,q⟩ | ⟨rfl,q⟩
 .exact ⟨_,_,SqT.of hp,rfl,q⟩
 .exact ⟨_,_,SqT.of hp,rfl,q⟩
theorem LK:ZX ["book","around","body","found"] ["book","around","body","found"] (ZL DQ):=Zl
theorem B5:ZX ["book","around","body","found"] ["book","around","body","found"] (ZL Gn):=Zl
theorem IU(F:Fun K "kind_of_one_body" "kind_of_one_body" DQ f fd)(G:ZN P w K mg base CX0 n g gd ["book","kind","at"] (Xb C CK))(bG:Binds K gd ["book","kind","at"] [])(kG:W.keepIn K (.ref g)=true)(mG:mg "kind_of_part" =some (.ref g)):
  ZN P w K mg base CX0 (n + 1) f fd rps (spR C CK fun b=> ∃ e,b= .one e):=by
 refine F.ok LK (fun vs H Q E h=>?_) (fun cdv A outer s H vs Q E hr h=>?_)
 .obtain ⟨t,a,fl,v,ks,d,ds,kv,b,y,zs,rfl,_⟩:=h
  rfl
 obtain ⟨t,a,fl,v,ks,d,ds,kv,b,y,zs,rfl,bi,kg,ha,hv,⟨e,rfl⟩,hf,⟨z,o,rfl,k1⟩,_,q⟩:=h;refine ⟨_,ZH (ZW (ZM G hr rfl mG kG bG .nil ZT (ZA (pv 0) (ZA (ZY Zm (pv 3) ZG) (ZA ZG ZE))))),?_⟩;exact ⟨_,_,SqL.of hf,rfl,t,ks,d,ds,z,y,o,1,rfl,bi,k1, .inl ⟨rfl,q H (Same.refl _)⟩⟩
theorem N8(F:Fun K "kind_of_other_body" "kind_of_other_body" Gn f fd)(G:ZN P w K mg base CX0 n g gd ["book","kind","at"] (Xb C CK))(bG:Binds K gd ["book","kind","at"] [])(kG:W.keepIn K (.ref g)=true)(mG:mg "kind_of_part" =some (.ref g)):
  ZN P w K mg base CX0 (n + 1) f fd rps (spR C CK fun b=> ∃ e,b= .other e):=by
 refine F.ok B5 (fun vs H Q E h=>?_) (fun cdv A outer s H vs Q E hr h=>?_)
 .obtain ⟨t,a,fl,v,ks,d,ds,kv,b,y,zs,rfl,_⟩:=h
  rfl
 obtain ⟨t,a,fl,v,ks,d,ds,kv,b,y,zs,rfl,bi,kg,ha,hv,⟨e,rfl⟩,hf,⟨z,o,rfl,k1⟩,_,q⟩:=h;refine ⟨_,ZH (ZW (ZM G hr rfl mG kG bG .nil ZT (ZA (pv 0) (ZA (ZY Zm (pv 3) ZG) (ZA ZG ZE))))),?_⟩;exact ⟨_,_,SqL.of hf,rfl,t,ks,d,ds,z,o,y,2,rfl,bi,k1, .inr ⟨rfl,q H (Same.refl _)⟩⟩
end
end K4
namespace L2
open PySem
theorem Iv(h:Has H v (Bd.ask fn as).dat):∃ a u,v= .ref a/\H a=some (.tup [.str "ask", .str fn,u])/\Has H u (.tup (Bd.dats as)):=by
 unfold Bd.dat at h;obtain ⟨t,ys,rfl,ht,hl⟩:=Zn h;obtain ⟨x1,r1,rfl,h1,hlA⟩:=ZP hl;obtain ⟨x2,r2,rfl,h2,hlB⟩:=ZP hlA;obtain ⟨x3,r3,rfl,h3,hlC⟩:=ZP hlB;obtain rfl:=YK hlC;obtain rfl:=has_str h1;obtain rfl:=has_str h2;exact ⟨t,x3,rfl,ht,h3⟩
theorem Ir(h:JX hs fn=some (ps,y)):(fn,ps,y)∈hs:=by
 unfold JX at h
 cases e:hs.find? (fun h=>decide (h.1=fn)) with
 | none=>rw [e] at h;cases h
 | some g=>
  rw [e] at h;have m:=List.mem_of_find?_eq_some e;have q:g.1=fn:=by simpa using List.find?_some e
  have e2:g.2=(ps,y):=Option.some.inj h;obtain ⟨g1,g2⟩:=g;dsimp only at q e2;subst q e2;exact m
theorem NJ:∀ zs:List Str,Dat.pqs (zs.map Dat.str) (zs.map Dat.str)=true
 | []=>by unfold List.map Dat.pqs;rfl
 | z::zs=>by
  rw [List.map_cons];unfold Dat.pqs;rw [NJ zs];simp [Dat.pq]
end L2
namespace K4
open PySem L2
section
theorem LM:ZX ["book","around","body","found"] ["book","around","body","found"] (ZL DV):=Zl
theorem EV:List.Nodup [("name" :Str),"kind"]:=by decide +kernel
theorem IW(TB:BCl K C)(F:Fun K "kind_of_ask_body" "kind_of_ask_body" DV f fd)(m1:Yc K C "names" g1)(G1:ZN P w K mg base CX0 (n + 2) g1 d1 ["self"] (Jf C CK))(b1:Binds K d1 ["self"] [])(m2:Yc K C "parameters" g2)(G2:ZN P w K mg base CX0 (n + 2) g2 d2 ["self","F"] (Bu C CK))(b2:Binds K d2 ["self","F"] [])(m3:Yc K C "kind_of" g3)(G3:ZN P w K mg base CX0 (n + 2) g3 d3 ["self","F"] (M9 C CK))(b3:Binds K d3 ["self","F"] []):
  ZN P w K mg base CX0 (n + 2 + 1) f fd rps (spR C CK fun b=> ∃ fn as,b= .ask fn as):=by
 refine F.ok LM (fun vs H Q E h=>?_) (fun cdv A outer s H vs Q E hr h=>?_)
 .obtain ⟨t,a,fl,v,ks,d,ds,kv,b,y,zs,rfl,_⟩:=h
  rfl
 obtain ⟨t,a,fl,v,ks,d,ds,kv,b,y,zs,rfl,bi,kg,ha,hv,⟨fn,as,rfl⟩,hf,⟨ps,k1,rfl⟩,lz,q⟩:=h;have hr2:=hr.mono (show 2<=n + 2 by omega);refine ⟨_,ZC (Zh (ZV Vf (ZY Za (pv 2) ZG) (YS (pv 0) TB.cl m1 G1 hr b1 .nil ZT) rfl) (ZH Z0) ZU)
  (ZC (Zh (ZV (G8 hr2) (Yd ["name","kind"] [] (Vc (YA (pv 0) TB.cl m2 G2 hr b2 .nil ZT (ZA (ZY Za (pv 2) ZG) ZE))) TR (fun cl C fp s H=>YR (n:=2) rfl (Zc (ZO 0 EV rfl (Or.inl rfl) (Or.inr rfl)) (Zc (ZO 1 EV rfl (Or.inl rfl) (Or.inr rfl)) Z9)))
    (fun cl C fp s H=>pv 1)) (pv 3) (Zb _)) (ZH Z0) ZU)
  (ZH (ZW (YA (pv 0) TB.cl m3 G3 hr b3 .nil ZT (ZA (ZY Za (pv 2) ZG) ZE))))),?_⟩
 show let a:=_;let b:=_;let c:=ZQ (Zw _ b _) a;let d:=_;ZQ (Zw _ d _) c _ _ _
 intros
 obtain ⟨bt,ub,rfl,hb,_⟩:=Iv hv;obtain ⟨x,hx,ex⟩:∃ x∈ds,x.1=(fn,ps,y):=List.mem_map.mp (Ir k1);have ex1:x.1.1=fn:=by rw [ex]
 obtain ⟨A',kt,rfl,b'⟩:=id bi;refine ⟨_,_,SqT.of hb,rfl,_,_,b'.ins,rfl,A'.t,ks,d,ds,rfl,bi,fun l H1 s1 hl g1=>?_⟩;have el:(ds.map fun x=>V.str x.1.1)=(ds.map fun x=>x.1.1).map V.str:=by rw [List.map_map];rfl
 rw [el] at g1;refine ⟨l,_,rfl, .inl (SqL.of g1),rfl,JD _,_,rfl,Zk ?_ ?_⟩
 .rw [Jo]
  simp only [if_true,Bool.not_eq_true',decide_eq_false_iff_not,Classical.not_not];exact List.mem_map.mpr ⟨x,hx,ex1⟩
 have bi1:=bi.mono s1;obtain ⟨A1,kt1,e1,b1'⟩:=id bi1;refine ⟨_,_,s1 _ _ b'.ins,rfl,_,_,SqT.of (s1 _ _ hb),rfl,A'.t,ks,d,ds,x,by rw [ex1];rfl,bi1,hx,fun v hv2=>?_⟩;unfold psD at hv2;rw [ex] at hv2;dsimp only at hv2;obtain ⟨pa,pxs,rfl,hpa,hps⟩:=Zn hv2;have lp:=hps.length;rw [List.length_map] at lp;have lps:ps.length<=6:=by rw [List.length_map] at lz;exact lz
 refine ⟨⟨_,SqT.of hpa⟩,?_⟩;refine YE pxs.length (ZK (by omega)) (fun j vs H'=>Same H1 H'/\vs.length=j/\vs=((ps.map (·.2)).take j).map V.str) ⟨Same.refl _,rfl,rfl⟩ (fun j vs H' z=>z.2.1) ?_ ?_ ?_ ?_
 .intro j vs H' hj z
  exact ⟨pxs,pxs[j],SqT.of (z.1 _ _ hpa),by simp [hj]⟩
 .intro vs H' z
  exact ⟨pxs,SqT.of (z.1 _ _ hpa),Nat.le_refl _⟩
 .intro j vs H' u H'' R hj z yl hR
  obtain ⟨rfl,yy⟩:=yl;obtain ⟨dd,hd1,hd2⟩:=hps.get (yy pxs (SqT.of (z.1 _ _ hpa)));rw [List.getElem?_map] at hd1
  cases hp:ps[j]? with
  | none=>rw [hp] at hd1;cases hd1
  | some pr=>
   rw [hp] at hd1;cases hd1;obtain ⟨t2,rfl,ht2⟩:=JR hd2;refine ⟨_,SqT.of (z.1 _ _ ht2),rfl,?_⟩;refine hR _ _ ⟨z.1,by rw [List.length_append,z.2.1];rfl,?_⟩;rw [z.2.2,show (ps.map (·.2)).take (j + 1)=(ps.map (·.2)).take j++ [pr.2] from take_snoc (by rw [List.getElem?_map,hp];rfl),List.map_append]
   rfl
 .intro vs H' l2 z hl2
  obtain ⟨z1,_,rfl⟩:=z;rw [List.take_of_length_le (by rw [List.length_map];omega)];have s2:=ZF hl2 (.lst ((ps.map (·.2)).map V.str));have g2:upd H' l2 (.lst ((ps.map (·.2)).map V.str)) l2=some (.lst ((ps.map (·.2)).map V.str)):=ZD;generalize upd H' l2 (.lst ((ps.map (·.2)).map V.str))=H2 at s2 g2 |-;have s02:=(s1.trans z1).trans s2;refine ⟨.lst ((ps.map (·.2)).map Dat.str), .lst ((ps.map (·.2)).map Dat.str),Ea g2,Ea (s02 _ _ hf),Jc _,_,rfl,Zk ?_ ?_⟩
  .unfold Dat.pq
   rw [NJ];simp
  have bi2:=bi.mono s02;refine ⟨_,_,s02 _ _ b'.ins,rfl,_,_,SqT.of (s02 _ _ hb),rfl,A'.t,ks,d,ds,x,by rw [ex1];rfl,bi2,hx,?_⟩;rw [ex];exact q H2 s02
end
end K4
namespace L2
open PySem PySem.Spec PyProof.Rows
section
theorem Bh(hc:X.calm=true):Y9 X (.builtin "any") (fun xs H Q=> ∃ (p:Addr) (n:Nat),xs= [.ref p]/\SqL X.K H p (List.replicate n (V.bl false))/\Q (.bl false) H):=by
 intro pins s U H xs us Q I r h;obtain ⟨p,n,rfl,hq,q⟩:=h;obtain ⟨u,rfl,ru⟩:=vals1 r;cases ru;obtain ⟨its,r',pl,hz⟩:=I.list hq;have hp:p < s.heap.objs.size:=let ⟨o,_,e,_⟩:=pl;Heap.lt_size e
 have eb:List.replicate n (V.bl false)=(List.replicate n false).map V.bl:=by rw [List.map_replicate]
 rw [eb] at r';have no:((List.range its.toArray.size).any fun _=>false)=false:=by simp
 refine call_any_walk (wpAny_pyIter_list pl.isList ⟨s.heap.objs.size,_,_,its.toArray.size,_,_,fun _=>false,rfl,Walks.list (A:=X.A.in1) (I.ok.hd hc) _ p (Nat.ne_of_lt hp) its.toArray,⟨⟨_,Heap.get?_push_size _ rfl,rfl,rfl⟩,pl.isList.push _⟩,?_,?_⟩)
 .intro i v s' Q' E' hP hQ
  obtain ⟨b,e,rfl⟩:=XA r' i v (by simpa using hP)
  have hb:b=false:=by
   rw [List.getElem?_replicate] at e
   split at e
   .exact (Option.some.inj e).symm
   .cases e
  subst hb;exact wpAny_truthy_bool hQ
 .intro h' tk hk
  rw [no];refine ⟨.bl false,H,I.kept fun b o e=>hk b o (fun hm=>?_) (Heap.get?_push_of_some _ e),rfl,q⟩;have e':b=s.heap.objs.size:=by simpa using hm
  rw [e'] at e;exact Nat.lt_irrefl _ (Heap.lt_size e)
end
theorem Mh(h:Has H v (Bd.choose e ts bs).dat):∃ a u l xs,v= .ref a/\H a=some (.tup [.str "choose",u, .ref l])/\H l=some (.tup xs)/\HasL H xs (Bd.brs bs ts):=by
 unfold Bd.dat at h;obtain ⟨t,ys,rfl,ht,hl⟩:=Zn h;obtain ⟨x1,r1,rfl,h1,hlA⟩:=ZP hl;obtain ⟨x2,r2,rfl,h2,hlB⟩:=ZP hlA;obtain ⟨x3,r3,rfl,h3,hlC⟩:=ZP hlB;obtain rfl:=YK hlC;obtain rfl:=has_str h1;obtain ⟨l,xs,rfl,h4,h5⟩:=Zn h3;exact ⟨t,x2,l,xs,rfl,ht,h4,h5⟩
theorem brs_len:∀ {bs:List Bd}{ts:List Str},bs.length=ts.length->(Bd.brs bs ts).length=ts.length
 | [], [],_=>by simp [Bd.brs]
 | [],_::_,h=>by simp at h
 | _::_, [],h=>by simp at h
 | b::bs,t::ts,h=>by
  unfold Bd.brs;have:=brs_len (bs:=bs) (ts:=ts) (by simpa using h);simp [this]
theorem brs_get:∀ {bs:List Bd}{ts:List Str}{i:Nat}{d:Dat},(Bd.brs bs ts)[i]?=some d->∃ t b,ts[i]?=some t/\d= .tup [.str t,Bd.dat b]
 | [],ts,i,d,h=>by unfold Bd.brs at h;simp at h
 | b::bs, [],i,d,h=>by unfold Bd.brs at h;simp at h
 | b::bs,t::ts,0,d,h=>by
  unfold Bd.brs at h;exact ⟨t,b,rfl,(Option.some.inj h).symm⟩
 | b::bs,t::ts,i + 1,d,h=>by
  unfold Bd.brs at h;exact brs_get (bs:=bs) (ts:=ts) h
theorem PU:JE ((z::List.replicate (m + 1) y).map V.str) (some 2) none=List.replicate m (V.str y):=by
 have e:HT.sIx ((z::List.replicate (m + 1) y).map V.str).length 0 (some 2)=2:=by
  unfold HT.sIx;simp
  try omega
 unfold JE;rw [e];simp [HT.sIx,List.replicate_succ,List.take_replicate]
end L2
namespace K4
open PySem L2
section
theorem Bl:bootBuiltins "any" =some (.builtin "any"):=by decide +kernel
theorem Ut:ZX ["book","around","body","found","shape","kind"] ["book","around","body","found"] (ZL X8):=Zl
theorem ET:List.Nodup [("tag" :Str),"branch"]:=by decide +kernel
theorem OZ:List.Nodup [("other" :Str),"kind"]:=by decide +kernel
theorem MW(B:Blt mg)(ma:mg "any" =none)(TB:BCl K C)(TK:KCl K CK)(F:Fun K "kind_of_choose_body" "kind_of_choose_body" X8 f fd)(m1:Yc K C "kinds" g1)(G1:ZN P w K mg base CX0 (n + 2) g1 d1 ["self"] (VC C CK))(b1:Binds K d1 ["self"] [])(m2:Yc K CK "shape_of" g2)(G2:ZN P w K mg base CX0 (n + 2) g2 d2 ["self","kind"] (V6 CK))(b2:Binds K d2 ["self","kind"] []):ZN P w K mg base CX0 (n + 2 + 1) f fd rps (spR C CK fun b=> ∃ e ts bs,b= .choose e ts bs/\1<=bs.length):=by
 refine F.ok Ut (fun vs H Q E h=>?_) (fun cdv A outer s H vs Q E hr h=>?_)
 .obtain ⟨t,a,fl,v,ks,d,ds,kv,b,y,zs,rfl,_⟩:=h
  rfl
 obtain ⟨t,a,fl,v,ks,d,ds,kv,b,y,zs,rfl,bi,kg,ha,hv,⟨e,ts,bs,rfl,b0⟩,hf,⟨z,rfl,k1,lb⟩,lz,q⟩:=h;have hr2:=hr.mono (show 2<=n + 2 by omega);refine ⟨_,ZC (ZZ 4 Ut.nd (YA (YS (pv 0) TB.cl m1 G1 hr b1 .nil ZT) TK.cl m2 G2 hr b2 .nil ZT (ZA (ZY Zm (pv 3) ZG) ZE)))
  (ZC (Zh (PW.pt (Vm (ZV XF (ZY Za (pv 4) ZG) Zf (Zb _)) (VO (ZV (G8 hr2) (Zo Yn rfl B.tuple YZ (ZA (Yd ["tag","branch"] [] (Vc (ZY Za (pv 2) ZG)) TR (fun cl C fp s H=>YR (n:=2) rfl (Zc (ZO 0 ET rfl (Or.inl rfl) (Or.inr rfl)) (Zc (ZO 1 ET rfl (Or.inl rfl) (Or.inr rfl)) Z9))) (fun cl C fp s H=>pv 0)) ZE)) (ZY Za (pv 4) ZG) (Zb _))))) (ZH Z0) ZU)
  (ZC (ZZ 5 Ut.nd (hx:=Or.inr rfl) (ZY Zm (pv 3) ZG))
  (ZC (Zh (YN (Zj (Bh rfl) rfl ma Bl (ZA (Yd ["other"] [5] (Z6 (Yw Ge (pv 3) (Y2 ZG) VU)) (YI (i:=0) (by decide)) (fun cl C fp s H=>ZO 0 OZ rfl (Or.inl rfl) (Or.inr rfl)) (fun cl C fp s H=>Y4 XF (pv 0) (pv 1) rfl)) ZE))) (ZH Z0) ZU)
  (ZH (ZW (pv 5)))))),?_⟩
 dsimp only [Ys,Cx.nox,Cx.wish];show let a:=_;let b:=_;let c:=ZQ (Zw _ b _) a;let d:=ZQ _ c;let e:=_;let f:=ZQ (Zw _ e _) d;ZQ _ f _ _ _
 intros
 obtain ⟨bt,ub,bl,xs,rfl,hb,hbl,hxs⟩:=Mh hv;obtain ⟨A',kt,rfl,b'⟩:=id bi;have lx:=hxs.length;rw [brs_len lb] at lx;have l6:bs.length + 1<=6:=by simpa using lz
 refine ⟨_,_,b'.ins,rfl,A'.t,ks,d,ds,rfl,bi,fun so ki=>?_⟩;obtain ⟨AK,SK,rfl,kd,kr⟩:=id ki;have a0:atI ((z::List.replicate bs.length y).map V.str) 0=some (.str z):=Z7 (j:=0) rfl;refine ⟨_,_,kd.ins,rfl,_,_,SqL.of hf,a0,AK.t,ks,d,z,_,rfl,ki,k1,fun v hv2=>?_⟩;obtain ⟨ps,l,rfl,hp,hl⟩:=Va hv2;refine ⟨_,_,SqT.of hp,rfl,rfl,_,rfl,Zk (by decide +kernel) ?_⟩;refine ⟨_,_,SqT.of hb,rfl,⟨_,SqT.of hbl⟩,?_⟩;refine YE xs.length (ZK (by omega)) (fun j vs H'=>Same H H'/\vs.length=j/\vs=(ts.take j).map V.str) ⟨Same.refl _,rfl,rfl⟩ (fun j vs H' z=>z.2.1) ?_ ?_ ?_ ?_
 .intro j vs H' hj z
  exact ⟨xs,xs[j],SqT.of (z.1 _ _ hbl),by simp [hj]⟩
 .intro vs H' z
  exact ⟨xs,SqT.of (z.1 _ _ hbl),Nat.le_refl _⟩
 .intro j vs H' u H'' R hj z yl hR
  obtain ⟨rfl,yy⟩:=yl;obtain ⟨dd,hd1,hd2⟩:=hxs.get (yy xs (SqT.of (z.1 _ _ hbl)));obtain ⟨tg,bb,ht,rfl⟩:=brs_get hd1;obtain ⟨t2,ub2,rfl,ht2,_⟩:=Eh hd2;refine ⟨_,SqT.of (z.1 _ _ ht2),rfl,?_⟩;refine hR _ _ ⟨z.1,by rw [List.length_append,z.2.1];rfl,?_⟩;rw [z.2.2,take_snoc ht,List.map_append]
  rfl
 .intro vs H1 l2 z hl2
  obtain ⟨z1,_,rfl⟩:=z;rw [List.take_of_length_le (by omega)];have s2:=ZF hl2 (.lst (ts.map V.str));have g2:upd H1 l2 (.lst (ts.map V.str)) l2=some (.lst (ts.map V.str)):=ZD;generalize upd H1 l2 (.lst (ts.map V.str))=H2 at s2 g2 |-;refine ⟨l2,_,rfl, .inl ⟨SqL.of g2,fun t3 ht3=>?_⟩⟩;have s3:=ZF ht3 (.tup (ts.map V.str));have g3:upd H2 t3 (.tup (ts.map V.str)) t3=some (.tup (ts.map V.str)):=ZD;generalize upd H2 t3 (.tup (ts.map V.str))=H3 at s3 g3 |-;have s03:=(z1.trans s2).trans s3;refine ⟨_,_,SqT.of (s03 _ _ hp),rfl, .tup (ts.map Dat.str), .tup (ts.map Dat.str),Zr g3 (Jv ts),Zr (s03 _ _ hl) (Jv ts),?_,_,rfl,Zk ?_ ?_⟩
  .have:=Jc ts
   unfold Dat.dep at this |-;exact this
  .rw [Dat.pq_self]
   simp
  obtain ⟨m,em⟩:∃ m,bs.length=m + 1:=⟨bs.length - 1,by omega⟩;rw [em] at hf;have hf3:=s03 _ _ hf;have a1:atI ((z::List.replicate (m + 1) y).map V.str) 1=some (.str y):=Z7 (j:=1) rfl;refine ⟨_, .str y,SqL.of hf3,a1,?_⟩;refine ⟨2,rfl,fl,_,rfl,SqL.of hf3,fun l4 hl4=>?_⟩;rw [PU];have s4:=ZF hl4 (.lst (List.replicate m (V.str y)));have g4:upd H3 l4 (.lst (List.replicate m (V.str y))) l4=some (.lst (List.replicate m (V.str y))):=ZD;generalize upd H3 l4 (.lst (List.replicate m (V.str y)))=H4 at s4 g4 |-;refine ⟨⟨_,SqL.of g4⟩,?_⟩;refine YE m (ZK (by omega)) (fun j vs H'=>Same H4 H'/\vs=List.replicate j (V.bl false)) ⟨Same.refl _,rfl⟩ (fun j vs H' z=>by rw [z.2,List.length_replicate]) ?_ ?_ ?_ ?_
  .intro j vs H' hj z
   exact ⟨_, .str y,SqL.of (z.1 _ _ g4),by rw [List.getElem?_replicate,if_pos hj]⟩
  .intro vs H' z
   exact ⟨_,SqL.of (z.1 _ _ g4),by rw [List.length_replicate];exact Nat.le_refl _⟩
  .intro j vs H' u H'' R hj z yl hR
   obtain ⟨rfl,yy⟩:=yl;have e5:=yy _ (SqL.of (z.1 _ _ g4));rw [List.getElem?_replicate,if_pos hj] at e5;cases Option.some.inj e5;refine ⟨rfl,hR _ _ ⟨z.1,?_⟩⟩;rw [z.2,List.replicate_succ'];simp
  .intro vs H5 l6' z hl6
   obtain ⟨z5,rfl⟩:=z;have s6:=ZF hl6 (.lst (List.replicate m (V.bl false)));have g6:upd H5 l6' (.lst (List.replicate m (V.bl false))) l6'=some (.lst (List.replicate m (V.bl false))):=ZD;generalize upd H5 l6' (.lst (List.replicate m (V.bl false)))=H6 at s6 g6 |-;refine ⟨l6',m,rfl,SqL.of g6,_,rfl,Zk (by simp) ?_⟩;exact q H6 (((s03.trans s4).trans z5).trans s6)
end
end K4
namespace L2
open PySem
def Bd.word:Bd->Str
 | .tag _=>"tag"
 | .name _=>"name"
 | .pair _ _=>"pair"
 | .one _=>"one"
 | .other _=>"other"
 | .choose _ _ _=>"choose"
 | .ask _ _=>"ask"
 | .letb _ _ _ _=>"let"
theorem Ek{b:Bd}(h:Has H v b.dat):∃ a ys,v= .ref a/\H a=some (.tup (.str b.word::ys)):=by
 obtain ⟨ds,e⟩:∃ ds,b.dat= .tup (.str b.word::ds):=by cases b <;> exact ⟨_,by unfold Bd.dat;rfl⟩
 rw [e] at h;obtain ⟨t,ys,rfl,ht,hl⟩:=Zn h;obtain ⟨x1,r1,rfl,h1,_⟩:=ZP hl;obtain rfl:=has_str h1;exact ⟨t,r1,rfl,ht⟩
theorem Iu(h:Has H v (Bd.letb x k e b).dat):∃ a u1 u2,v= .ref a/\H a=some (.tup [.str "let", .str x, .str k,u1,u2]):=by
 unfold Bd.dat at h;obtain ⟨t,ys,rfl,ht,hl⟩:=Zn h;obtain ⟨x1,r1,rfl,h1,hlA⟩:=ZP hl;obtain ⟨x2,r2,rfl,h2,hlB⟩:=ZP hlA;obtain ⟨x3,r3,rfl,h3,hlC⟩:=ZP hlB;obtain ⟨x4,r4,rfl,h4,hlD⟩:=ZP hlC;obtain ⟨x5,r5,rfl,h5,hlE⟩:=ZP hlD;obtain rfl:=YK hlE;obtain rfl:=has_str h1;obtain rfl:=has_str h2;obtain rfl:=has_str h3;exact ⟨t,x4,x5,rfl,ht⟩
theorem TU{g:TG}{tb:TS}{D:Ends}(Pv:Nat->St->Hp->Prop)(h0:Pv 0 U H)(hl:∀ i U H,i<=xs.length->Pv i U H->Sq K tp H a xs)(hs:∀ (B:St->Hp->Prop) (R:VK) i x U H r,xs[i]?=some x->Pv i U H->H r=none->g (.ref r) U (upd H r (.tup [.int ((i:Nat):Int),x])) fun σ2 H2=>tb {nx:=Pv (i + 1),rt:=R,bk:=B,ct:=Pv (i + 1)} σ2 H2)(hd:∀ U H,Pv xs.length U H->D.nx U H):
  ∃ W:Nat->Nat->St->Hp->Prop,(∃ m,W 0 m U H)/\∀ i m U H,W i m U H->
   ((Ite K tp a).stop i H/\D.nx U H) \/ ((Ite K tp a).go i H/\∃ N:St->Hp->Prop,(∀ U' H',N U' H'->∃ m',m' < m/\W (i + 1) m' U' H')/\∀ x H',(Ite K tp a).yld i H x H'->g x U H' fun σ2 H2=>tb {D with nx:=N,ct:=N,bk:=D.nx} σ2 H2):=by
 refine ⟨fun i m U H=>m=xs.length - i/\i<=xs.length/\Pv i U H,⟨xs.length,by simp,Nat.zero_le _,h0⟩,fun i m U H z=>?_⟩;obtain ⟨rfl,hi,p⟩:=z;have q:=hl i U H hi p;rcases Nat.lt_or_ge i xs.length with hlt | hge
 .refine .inr ⟨⟨xs,xs[i],q,List.getElem?_eq_getElem hlt⟩,Pv (i + 1),fun U' H' p'=>⟨xs.length - (i + 1),by omega,rfl,hlt,p'⟩,fun x H' y=>?_⟩
  obtain ⟨r,x1,rfl,hr,rfl,hx⟩:=y;exact hs _ _ i x1 U H r (hx xs q) p hr
 .have e:i=xs.length:=by omega
  exact .inl ⟨⟨xs,q,by omega⟩,by subst e;exact hd U H p⟩
theorem Rd.same(r:Rd H a u)(e:Same H H'):Rd H' a u:=r.imp (fun h=>e _ _ h) (fun ⟨o,h⟩=>⟨o,e _ _ h⟩)
theorem FN(kv:List (Key × V))(b:Bd):(wth kv b).length<=kv.length + 1:=by
 cases b with
 | letb x z e g=>exact WA kv _ _
 | _=>exact Nat.le_succ _
end L2
namespace K4
open PySem L2
section
variable{f g C CK:Addr}
def Np(C CK:Addr)(n:Nat):Sp:=fun vs H Q _=> ∃ (t a:Addr) (v:V) (ks:List (Str × Shp)) (d:Str->Nat) (ds:List Dd) (kv:List (Key × V)) (b:Bd) (y:Str),
 vs= [.ref t, .ref a,v]/\BI H C CK t ks d ds/\KG ks/\(∀ z ts,YQ ks z=some (.tags ts)->1<=ts.length)/\ks.length<=6/\Rd H a (.dK kv)/\kv.length + b.dep<=500/\Has H v b.dat/\b.ok/\b.dep < n/\Kd ks (JX (ds.map (·.1))) kv y b/\
 ∀ r H',Same H H'->H' r=some (.tup [.str y, .non])->Q (.ref r) H'
theorem WY:ZX ["book","around","body","within","found","number","part","kind","place","rule"] ["book","around","body"] (ZL sKP):=Zl
theorem Fa(h:U[i]?=some (some v))(k:u D (U.set j (some v)) H):ZQ (Re (UF i) (Yi j)) u D U H:=by
 show RX U[i]? _;rw [h];exact k
theorem OV(B:Blt mg)(me:mg "enumerate" =none)(TB:BCl K C)(TC:KCl K CK)(F:Fun K "kind_or_place" "kind_or_place" sKP f fd)(G:ZN P w K mg base CX0 (L + 3) f fd ["book","around","body"] (Np C CK n))(bG:Binds K fd ["book","around","body"] [])(mG:mg "kind_or_place" =some (.ref f))(m1:Yc K C "kinds" g1)(G1:ZN P w K mg base CX0 (L + 3) g1 d1 ["self"] (VC C CK))(b1:Binds K d1 ["self"] [])(m2:Yc K CK "names" g2)(G2:ZN P w K mg base CX0 (L + 3) g2 d2 ["self"] (JJ CK))(b2:Binds K d2 ["self"] [])(G3:ZN P w K mg base CX0 (L + 3) g3 d3 ["body"] Xa)(b3:Binds K d3 ["body"] [])(k3:W.keepIn K (.ref g3)=true)(m3:mg "parts" =some (.ref g3))(mU:mg "RULES" =some (.ref aR))(hM:base.MapOf (Zq P w) aR mR)(hR:∀ b:Bd,(∀ e ts bs,b= .choose e ts bs->1<=bs.length)->∃ (g:Addr) (gd:FuncData) (p:Bd->Prop),mR (Sum.inr b.word)=some (.ref g)/\ZN P w K mg base CX0 (L + 3) g gd rps (spR C CK p)/\p b/\W.keepIn K (.ref g)=true/\Binds K gd rps []):
  ZN P w K mg base CX0 (L + 3 + 1) f fd ["book","around","body"] (Np C CK (n + 1)):=by
 refine F.ok WY (fun vs H Q E h=>?_) (fun cdv A outer s H vs Q E hr h=>?_)
 .obtain ⟨t,a,v,ks,d,ds,kv,b,y,rfl,_⟩:=h
  rfl
 obtain ⟨t,a,v,ks,d,ds,kv,b,y,rfl,bi,kg,nt,k6,ha,kl,hv,ok,dn,kd,q⟩:=h;have hu:=Yg hr;obtain ⟨zs,kr,lz,kp⟩:=kd.inv;refine ⟨_,ZC (ZZ 3 WY.nd (pv 1))
  (ZC (Zh (ZV YL (ZY Za (pv 2) ZG) Zf (Zb _))
   (ZC (Zh (PW.pt (Vm (V0 (Ux hu (ZY Za (pv 2) ZG) (pv 1))) (VO (ZV Vf (ZY Za (pv 2) ZG) (YS (YS (pv 0) TB.cl m1 G1 hr b1 .nil ZT) TC.cl m2 G2 hr b2 .nil ZT) rfl)))) (ZH Z0) ZU)
   (ZC (ZZ 3 WY.nd (Zo WR rfl B.dict Y6 (ZA (pv 1) ZE)))
   (ZH (YD hu (pv 3) (ZY Za (pv 2) ZG) (ZY Za (pv 2) ZG) rfl)))) ZU)
  (ZC (ZZ 4 WY.nd (Z8 ZE))
  (ZC (YO PassesOwn.never rfl (G6 rfl me (ZA (ZM G3 hr rfl m3 k3 b3 .nil ZT (ZA (pv 2) ZE)) ZE)) (YR (n:=2) rfl (Zc (ZO 5 WY.nd) (Zc (ZO 6 WY.nd) Z9)))
   (ZC (Vo (ZM G hr rfl mG F.kp bG .nil ZT (ZA (pv 0) (ZA (pv 3) (ZA (pv 6) ZE)))) (YR (n:=2) rfl (Zc (ZO 7 WY.nd) (Zc (ZO 8 WY.nd) Z9))))
   (ZC (Zh (ZV Uy (pv 7) VP (Zb _)) (ZH Z0) ZU)
   (ZH (YC (Vw PySem.F.plainAttrs_list PySem.F.slot_list_append PySem.F.type_list_append Yf (pv 4) (ZA (pv 7) ZE)))))))
  (ZC (ZZ 9 WY.nd (F0 rfl mU hM hu (ZY Za (pv 2) ZG) (fun _ _=>rfl)))
  (ZC (ZZ 7 WY.nd (Dp (pv 9) hr ZT (ZA (pv 0) (ZA (pv 1) (ZA (pv 2) (ZA (pv 4) ZE))))))
  (ZC (Zh (ZV Uy (pv 7) VP (Zb _)) (ZH Z0) ZU)
  (ZH (ZW (Zs (ZA (pv 7) (ZA VP ZE))))))))))),?_⟩
 dsimp only [Ys,Cx.nox,Cx.wish];show let a:=_;let b:=_;let c:=ZQ (Zw _ b _) a;let d:=ZQ _ c;let e:=ZQ _ d;let f:=_;let g:=_;let h:=ZQ (Zw _ g _) f;let i:=ZQ _ h;let j:=ZQ (VX _ _ i) e;let k:=ZQ _ j;let l:=_;let m:=ZQ _ l;let n:=_;let o:=ZQ (Zw _ n _) m;let p:=ZQ (Zw _ o _) k;ZQ _ p _ _ _
 intros
 obtain ⟨bt,ys,rfl,hb⟩:=Ek hv;have few:=Bd.few ok;refine Fa rfl ?_;refine Vi (fun U' H1=> ∃ wa,Same H H1/\Rd H1 wa (.dK (wth kv b))/\U'= [some (.ref t),some (.ref a),some (.ref bt),some (.ref wa),none,none,none,none,none,none]) ?_ ?_
 .rintro U' H1 ⟨wa,s1,hw,rfl⟩
  refine ⟨sl 0,fun fl hfl=>?_⟩;have s2:=ZF hfl (.lst []);have g2:upd H1 fl (.lst []) fl=some (.lst []):=ZD;generalize upd H1 fl (.lst [])=H2 at s2 g2 |-;refine ⟨.ref bt,b,rfl,(hv.mono s1).mono s2,ok,fun u H3 s3 hu3=>?_⟩;obtain ⟨pa,xs,rfl,hpa,hxs⟩:=Zn hu3;have lx:=hxs.length;rw [Bd.dats_map,List.length_map] at lx;refine ⟨pa,true,xs,rfl,SqT.of hpa,?_⟩
  let I:Nat->St->Hp->Prop:=fun i U Hi=>Same H1 Hi/\Hi pa=some (.tup xs)/\HasL Hi xs (Bd.dats b.parts)/\Hi fl=some (.lst ((zs.take i).map V.str))/\∃ z5 z6 z7 z8,U= [some (.ref t),some (.ref a),some (.ref bt),some (.ref wa),some (.ref fl),z5,z6,z7,z8,none]
  refine TU (tp:=true) (xs:=xs) I ⟨s2.trans s3,hpa,hxs,s3 _ _ g2,_,_,_,_,rfl⟩ (fun i U Hi _ z=>SqT.of z.2.1) ?_ ?_
  .rintro BB RR i x U Hi r hx ⟨si,hai,hxi,hfi,z5,z6,z7,z8,rfl⟩ hr'
   have sR:=ZF hr' (.tup [.int ((i:Nat):Int),x]);have gR:upd Hi r (.tup [.int ((i:Nat):Int),x]) r=some (.tup [.int ((i:Nat):Int),x]):=ZD;generalize upd Hi r (.tup [.int ((i:Nat):Int),x])=HR at sR gR |-;obtain ⟨dd,hd1,hd2⟩:=hxi.get hx;rw [Bd.dats_map,List.getElem?_map] at hd1
   cases hc:b.parts[i]? with
   | none=>rw [hc] at hd1;cases hd1
   | some c=>
    rw [hc] at hd1;cases hd1;have hcm:=List.mem_of_getElem? hc;have dc:=Bd.dep_mem hcm;have il:i < zs.length:=by rw [lz];exact (List.getElem?_eq_some_iff.mp hc).1
    have hz:zs[i]?=some zs[i]:=List.getElem?_eq_getElem il;have wl:=FN kv b;have sHR:=(s1.trans si).trans sR;refine ⟨_,SqT.of gR,rfl,?_⟩;refine ⟨t,wa,x,ks,d,ds,wth kv b,c,zs[i],rfl,bi.mono sHR,kg,nt,k6,hw.same (si.trans sR),by omega,hd2.mono sR,Bd.ok_parts ok c hcm,by omega,kp i c _ hc hz,fun r2 H4 s4 h4=>?_⟩;refine ⟨_,SqT.of h4,rfl,?_⟩;refine ⟨rfl,_,rfl,Zk (by simp) ?_⟩;have hf4:=s4 _ _ (sR _ _ hfi);refine ⟨.inl ⟨rfl,_,SqL.of hf4⟩,fl,_,_,rfl,rfl,hf4,ZK (by rw [List.length_map,List.length_take];omega),?_⟩;have hp4:=s4 _ _ (sR _ _ hai);have tk:TK H4 (upd H4 fl (.lst ((zs.take i).map V.str++ [.str zs[i]]))):=fun b us h=>by rw [ZI (fun e=>by rw [e,hf4] at h;cases h)];exact h
    refine ⟨((si.trans sR).trans s4).putN hfl,tk _ _ hp4,Zv tk _ (Bd.sts _) ((hxi.mono sR).mono s4),?_,_,_,_,_,rfl⟩;rw [ZD,take_snoc hz,List.map_append]
    rfl
  .rintro U Hi ⟨si,hai,hxi,hfi,z5,z6,z7,z8,rfl⟩
   rw [List.take_of_length_le (by omega)] at hfi;have sH:=s1.trans si;have a0:atI (V.str b.word::ys) 0=some (.str b.word):=Z7 (j:=0) rfl
   obtain ⟨gr,gdr,pr,r1,r2,r3,r4,r5⟩:=hR b (fun e' ts' bs' eb=>by
    subst eb;obtain ⟨z',_,e2,e3⟩:=kr;rw [e3];exact nt _ _ e2)
   refine ⟨_,_,SqT.of (sH _ _ hb),a0,Sum.inr b.word,_, .ref gr,rfl,r1,rfl,?_⟩;refine ⟨gr,gdr,rps,spR C CK pr,rfl,r2,r4,r5,t,a,fl, .ref bt,ks,d,ds,kv,b,y,zs,rfl,bi.mono sH,kg,ha.same sH,hv.mono sH,r3,hfi,kr,by omega,fun H5 s5=>?_⟩;refine ⟨rfl,_,rfl,Zk (by simp) ?_⟩;refine ⟨sl 2,fun r6 hr6=>?_⟩;exact q r6 _ ((sH.trans s5).trans (ZF hr6 _)) ZD
 .intro N key
  have a0:atI (V.str b.word::ys) 0=some (.str b.word):=Z7 (j:=0) rfl;refine ⟨_,_,SqT.of hb,a0,rfl,_,rfl,?_⟩
  cases b with
  | letb x k e g=>
   obtain ⟨_,kn,km⟩:=kr;obtain ⟨bt',u1,u2,e1,hb'⟩:=Iu hv;cases e1;obtain ⟨A',kt,rfl,b'⟩:=id bi;refine Yb (decide_eq_true rfl) ?_;refine ⟨_,_,SqT.of hb',rfl,_, .inl ⟨kv,Sum.inr x,ha,rfl,rfl⟩,_,rfl,Zk (by rw [kn];simp) ?_⟩;refine ⟨_,_,SqT.of hb',rfl,_,_,b'.ins,rfl,A'.t,ks,d,ds,rfl,bi,fun so ki=>?_⟩;obtain ⟨AK,SK,rfl,kd',kr'⟩:=id ki;refine ⟨_,_,kd'.ins,rfl,AK.t,ks,d,rfl,ki,fun l H1 s1 hl g1=>?_⟩;have el:(ks.map fun k=>V.str k.1)=(ks.map (·.1)).map V.str:=by rw [List.map_map];rfl
   rw [el] at g1;refine ⟨l,_,rfl, .inl (SqL.of g1),rfl,JD _,_,rfl,Zk ?_ ?_⟩
   .rw [Jo]
    simp only [if_true,Bool.not_eq_true',decide_eq_false_iff_not,Classical.not_not];exact km
   refine ⟨a,kv,rfl,ha.same s1,fun l2 hl2=>?_⟩;have s2:=ZF hl2 (.dK kv);have g2:upd H1 l2 (.dK kv) l2=some (.dK kv):=ZD;generalize upd H1 l2 (.dK kv)=H2 at s2 g2 |-;have hb2:=s2 _ _ (s1 _ _ hb');refine ⟨_,_,SqT.of hb2,rfl,_,_,SqT.of hb2,rfl,_,VJ.k (k:=Sum.inr x) g2 (ZK (by omega)),?_⟩;exact key _ _ ⟨l2,(s1.trans s2).putN (s1.free hl2), .inl ZD,rfl⟩
  | _=>exact Zk (fun z=>by have z1:=of_decide_eq_true z;injection z1 with z2;exact absurd z2 (by dsimp only [Bd.word];decide +kernel)) (key _ _ ⟨a,Same.refl _,ha,rfl⟩)
end
end K4
namespace L2
open PySem
def Y8(ks:List (Str × Shp))(ps:List (Str × Str)):List (List W):=ps.foldl (fun rows p=>rows.flatMap fun r=>(Zd ks 3 p.2).map fun u=>r++ [u]) [[]]
def V9(r:List W):Dat:= .tup (r.map W.dat)
theorem X9(ks:List (Str × Shp))(ps:List (Str × Str))(p:Str × Str):Y8 ks (ps++ [p])=(Y8 ks ps).flatMap fun r=>(Zd ks 3 p.2).map fun u=>r++ [u]:=by
 unfold Y8;rw [List.foldl_append]
 rfl
theorem Ww{α β:Type}(f:α->List β)(k:Nat):∀ l:List α,(∀ a∈l,(f a).length=k)->(l.flatMap f).length=l.length * k
 | [],_=>by simp
 | a::l,h=>by
  rw [List.flatMap_cons,List.length_append,h a List.mem_cons_self,Ww f k l (fun b hb=>h b (List.mem_cons_of_mem _ hb)),List.length_cons,Nat.succ_mul,Nat.add_comm]
theorem JL(c:Str->Nat):∀ (ps:List (Str × Str)) (n:Nat),ps.foldl (fun r p=>r * c p.2) n=n * Ye c ps
 | [],n=>by unfold Ye;simp
 | p::ps,n=>by
  unfold Ye;rw [List.foldl_cons,List.foldl_cons,JL c ps (n * c p.2),JL c ps (1 * c p.2),Nat.one_mul,Nat.mul_assoc]
theorem UJ(h:∀ p∈ps,0 < c p.2)(i:Nat):Ye c (ps.take i)<=Ye c ps/\0 < Ye c ps:=by
 have pos:∀ qs:List (Str × Str),(∀ p∈qs,0 < c p.2)->0 < Ye c qs:=fun qs=>by
  induction qs with
  | nil=>intro _;exact Nat.one_pos
  | cons q qs ih=>
   intro hq;unfold Ye;rw [List.foldl_cons,JL,Nat.one_mul];exact Nat.mul_pos (hq q List.mem_cons_self) (ih fun p hp=>hq p (List.mem_cons_of_mem _ hp))
 refine ⟨?_,pos ps h⟩
 have e:Ye c ps=Ye c (ps.take i) * Ye c (ps.drop i):=by
  conv=>lhs;rw [<-List.take_append_drop i ps]
  unfold Ye;rw [List.foldl_append,JL]
  rfl
 rw [e];exact Nat.le_mul_of_pos_right _ (pos _ fun p hp=>h p (List.mem_of_mem_drop hp))
theorem KK.c0(h:KK 30 c d ks)(hy:y∈ks.map (·.1)):(Zd ks 3 y).length=c y/\0 < c y:=by
 have s:=h.small hy;obtain ⟨a,b,_⟩:=Yx h 3 y hy (by omega);exact ⟨a,b⟩
theorem Jy(h:KK 30 c d ks)(ps:List (Str × Str))(hp:∀ p∈ps,p.2∈ks.map (·.1)):(Y8 ks ps).length=Ye c ps:=by
 have go:∀ (ps:List (Str × Str)) (rows:List (List W)),(∀ p∈ps,p.2∈ks.map (·.1))->(ps.foldl (fun rows p=>rows.flatMap fun r=>(Zd ks 3 p.2).map fun u=>r++ [u]) rows).length=ps.foldl (fun r p=>r * c p.2) rows.length:=fun ps=>by
  induction ps with
  | nil=>intro rows _;rfl
  | cons p ps ih=>
   intro rows hq;rw [List.foldl_cons,List.foldl_cons,ih _ fun q m=>hq q (List.mem_cons_of_mem _ m),Ww _ (c p.2) rows fun a _=>by rw [List.length_map];exact (h.c0 (hq p List.mem_cons_self)).1]
 exact go ps [[]] hp
theorem UI(ps:List (Str × Str)):∀ r∈Y8 ks ps,r.length=ps.length:=by
 have go:∀ (ps:List (Str × Str)) (n:Nat) (rows:List (List W)),(∀ r∈rows,r.length=n)->∀ r∈ps.foldl (fun rows p=>rows.flatMap fun r=>(Zd ks 3 p.2).map fun u=>r++ [u]) rows,r.length=n + ps.length:=fun ps=>by
  induction ps with
  | nil=>intro n rows h r hr;exact h r hr
  | cons p ps ih=>
   intro n rows h r hr
   have:=ih (n + 1) _ (fun r hr=>by
    obtain ⟨r0,m0,m1⟩:=List.mem_flatMap.mp hr;obtain ⟨u,_,rfl⟩:=List.mem_map.mp m1;rw [List.length_append,h r0 m0];rfl) r hr
   rw [this,List.length_cons];omega
 intro r hr;have:=go ps 0 [[]] (fun r hr=>by rw [List.mem_singleton.mp hr];rfl) r hr;omega
theorem Ni(hx:Has H x (V9 r))(hb:H b=some (.tup [wv]))(hw:Has H wv u.dat)(hr:r.length<=3)(q:∀ v H',Same H H'->Has H' v (V9 (r++ [u]))->Q v H'):
  T1 K x (.ref b) H Q \/ Tz K x (.ref b) H Q:=by
 unfold V9 at hx q;obtain ⟨a,xs,rfl,ha,hl⟩:=Zn hx;have ll:=hl.length;rw [List.length_map] at ll
 cases r with
 | nil=>
  obtain rfl:=YK hl;exact .inl ⟨a,b, [wv],rfl,rfl,SqT.of ha,SqT.of hb,q _ _ (Same.refl _) (Zr hb (HasL.one hw))⟩
 | cons y r=>
  refine .inr ⟨a,b,xs, [wv],rfl,rfl,SqT.of ha,SqT.of hb,(fun z=>by subst z;cases ll),Nat.le_of_lt (ZK (by simp only [List.length_singleton];omega)),(fun z=>nomatch z),fun _ p hp=>?_⟩;have s:=ZF hp (.tup (xs++ [wv]));refine q _ _ s (Zr ZD ?_);rw [List.map_append];exact HasL.append (hl.mono s) (HasL.one (hw.mono s))
theorem G7{ps:List (Str × Str)}{i:Nat}(h:HasL H xs (ps.map fun p=> .tup [.str p.1, .str p.2]))(hx:xs[i]?=some x):∃ p t,ps[i]?=some p/\x= .ref t/\H t=some (.tup [.str p.1, .str p.2]):=by
 obtain ⟨d,h1,h2⟩:=h.get hx;rw [List.getElem?_map] at h1
 cases e:ps[i]? with
 | none=>rw [e] at h1;cases h1
 | some p=>
  rw [e] at h1;cases h1;obtain ⟨t,rfl,ht⟩:=JR h2;exact ⟨p,t,rfl,rfl,ht⟩
end L2
namespace K4
open PySem L2
section
variable{f g C CK:Addr}
def Gc(CK:Addr):Sp:=fun vs H Q _=> ∃ (so:Addr) (ks:List (Str × Shp)) (d:Str->Nat) (ps:List (Str × Str)) (v:V),vs= [.ref so,v]/\KI H CK so ks d/\ks.length<=6/\Has H v (psD ps)/\ps.length<=3/\(∀ p∈ps,p.2∈ks.map (·.1))/\(ps.map (·.1)).Nodup/\(∀ p∈ps,WdS p.1)/\
 ∀ H',Same H H'->Q (.bl true) H'
theorem Xe:ZX ["kinds","parameters","seen","name","kind"] ["kinds","parameters"] (ZL MM):=Zl
theorem EL(B:Blt mg)(TC:KCl K CK)(F:Fun K "are_parameters" "are_parameters" MM f fd)(hM:mg "MOST_PARAMETERS" =some u)(rM:RelV (.int 3) u)(DN:Df P w K mg base n "is_name" ["text"] (Jd 97))(m2:Yc K CK "names" g)(G2:ZN P w K mg base CX0 n g gd ["self"] (JJ CK))(b2:Binds K gd ["self"] []):ZN P w K mg base CX0 (n + 1) f fd ["kinds","parameters"] (Gc CK):=by
 obtain ⟨gn,nd',mN,kN,bN,GN⟩:=DN;refine F.ok Xe (fun vs H Q E h=>?_) (fun cdv A outer s H vs Q E hr h=>?_)
 .obtain ⟨so,ks,d,ps,v,rfl,_⟩:=h
  rfl
 obtain ⟨so,ks,d,ps,v,rfl,ki,k6,hv,l3,pk,nd,spl,q⟩:=h;have hu:=Yg hr;unfold psD at hv;obtain ⟨pa,xs,rfl,hpa,hxs⟩:=Zn hv;have lx:=hxs.length;rw [List.length_map] at lx;refine ⟨_,ZC (Zh (ZV Jl (Zj Zg rfl B.len PySem.boot_len (ZA (pv 1) ZE)) (Y3 rfl hM rM) (Zb _)) (ZH Z0) ZU)
  (ZC (ZZ 2 Xe.nd Yl)
  (ZC (YO PassesOwn.never rfl (Vc (pv 1)) (YR (n:=2) rfl (Zc (ZO 3 Xe.nd) (Zc (ZO 4 Xe.nd) Z9)))
   (ZC (Zh (PW.pt (Vm (Yk (YN (ZM GN hr rfl mN kN bN .nil ZT (ZA (pv 3) ZE)))) (Vm (V0 (Ux hu (pv 3) (pv 2))) (VO (ZV Vf (pv 4) (YS (pv 0) TC.cl m2 G2 hr b2 .nil ZT) rfl))))) (ZH Z0) ZU)
   (ZH (YD hu (pv 2) (pv 3) UB rfl))))
  (ZH (ZW UB)))),?_⟩
 dsimp only [Ys,Cx.nox,Cx.wish];show let a:=_;let b:=_;let c:=_;let d:=ZQ (Zw _ c _) b;let e:=ZQ (VX _ _ d) a;let f:=ZQ _ e;let g:=_;ZQ (Zw _ g _) f _ _ _
 intros
 refine ⟨pa,_,rfl, .inr (SqT.of hpa),_,rfl,Zk (by simp;omega) ?_⟩;intro sd hsd;have s1:=ZF hsd (.dK []);have g1:upd H sd (.dK []) sd=some (.dK []):=ZD;generalize upd H sd (.dK [])=H1 at s1 g1 |-;refine ⟨⟨_,SqT.of (s1 _ _ hpa)⟩,?_⟩
 let I:Nat->St->Hp->Prop:=fun i U Hi=>Same H Hi/\∃ kv z3 z4,Hi sd=some (.dK kv)/\kv.map (·.1)=(ps.take i).map (fun p=>(Sum.inr p.1:Key))/\U= [some (.ref so),some (.ref pa),some (.ref sd),z3,z4]
 refine UO (xs:=xs) I ⟨s1, [],_,_,g1,rfl,rfl⟩ (fun i U Hi _ z=>SqT.of (z.1 _ _ hpa)) ?_ ?_
 .rintro BB RR i x U Hi hx ⟨si,kv,z3,z4,hk,ek,rfl⟩
  obtain ⟨p,t,hp,rfl,ht⟩:=G7 hxs hx;have hpm:=List.mem_of_getElem? hp;have i3:=(List.getElem?_eq_some_iff.mp hp).1;obtain ⟨w1,w2,w3⟩:=spl p hpm
  have nk:Zp kv (Sum.inr p.1)=none:=US (by
   rw [ek];intro z;obtain ⟨q1,hq1,e1⟩:=List.mem_map.mp z;exact Uz nd (show (ps.map (·.1))[i]?=some p.1 by rw [List.getElem?_map,hp];rfl) (by rw [<-List.map_take];exact List.mem_map.mpr ⟨q1,hq1,Sum.inr.inj e1⟩))
  refine ⟨_,SqT.of (si _ _ ht),rfl,?_⟩;refine ⟨p.1,rfl,w1,w2,w3,fun H2 s2=>⟨_,rfl,Zk (by simp) ?_⟩⟩;refine ⟨_,(show Zz H2 sd (.str p.1) none by rw [<-nk];exact Zz.k (k:=Sum.inr p.1) (s2 _ _ hk)),_,rfl,Zk (by simp) ?_⟩;have ki2:=ki.mono (si.trans s2);obtain ⟨AK,SK,e1,kd,kr⟩:=id ki2;refine ⟨_,_,by rw [<-e1];exact kd.ins,rfl,so,ks,d,rfl,ki2,fun l H3 s3 hl g3=>?_⟩;have el:(ks.map fun k=>V.str k.1)=(ks.map (·.1)).map V.str:=by rw [List.map_map];rfl
  rw [el] at g3;refine ⟨l,_,rfl, .inl (SqL.of g3),rfl,JD _,_,rfl,Zk ?_ ?_⟩
  .rw [Jo]
   simp only [if_true,Bool.not_eq_true',decide_eq_false_iff_not,Classical.not_not];exact pk p hpm
  have lk:kv.length<=3:=by
   have:=congrArg List.length ek;rw [List.length_map,List.length_map,List.length_take] at this;omega
  refine ⟨_,VJ.k (k:=Sum.inr p.1) (s3 _ _ (s2 _ _ hk)) (ZK (by omega)),?_⟩;refine ⟨((si.trans s2).trans s3).putN hsd,_,_,_,ZD,?_,rfl⟩;rw [Jj _ nk,List.map_append,ek,take_snoc hp,List.map_append]
  rfl
 .rintro U Hi ⟨si,_⟩
  exact q Hi si
def UH(CK:Addr):Sp:=fun vs H Q _=> ∃ (so:Addr) (ks:List (Str × Shp)) (c d:Str->Nat) (ps:List (Str × Str)) (v:V),vs= [.ref so,v]/\KI H CK so ks d/\KK 30 c d ks/\Has H v (psD ps)/\(∀ p∈ps,p.2∈ks.map (·.1))/\Ye c ps<=1000/\
 ∀ H',Same H H'->Q (.int (Ye c ps:Nat)) H'
theorem Vk:ZX ["kinds","parameters","count","name","kind"] ["kinds","parameters"] (ZL Uw):=Zl
theorem T7(B:Blt mg)(TC:KCl K CK)(F:Fun K "row_count" "row_count" Uw f fd)(m2:Yc K CK "worths_of" g)(G2:ZN P w K mg base CX0 n g gd ["self","kind"] (VM CK))(b2:Binds K gd ["self","kind"] []):ZN P w K mg base CX0 (n + 1) f fd ["kinds","parameters"] (UH CK):=by
 refine F.ok Vk (fun vs H Q E h=>?_) (fun cdv A outer s H vs Q E hr h=>?_)
 .obtain ⟨so,ks,c,d,ps,v,rfl,_⟩:=h
  rfl
 obtain ⟨so,ks,c,d,ps,v,rfl,ki,kk,hv,pk,top,q⟩:=h;unfold psD at hv;obtain ⟨pa,xs,rfl,hpa,hxs⟩:=Zn hv;have lx:=hxs.length;rw [List.length_map] at lx;refine ⟨_,ZC (ZZ 2 Vk.nd ZG)
  (ZC (YO PassesOwn.never rfl (Vc (pv 1)) (YR (n:=2) rfl (Zc (ZO 3 Vk.nd) (Zc (ZO 4 Vk.nd) Z9)))
   (ZH (Dk (i:=2) Vk.nd rfl (Or.inl rfl) (Zj Zg rfl B.len PySem.boot_len (ZA (YA (pv 0) TC.cl m2 G2 hr b2 .nil ZT (ZA (pv 4) ZE)) ZE)) Io)))
  (ZH (ZW (pv 2)))),?_⟩
 dsimp only [Ys,Cx.nox,Cx.wish];show let a:=_;let b:=_;let c:=ZQ (VX _ _ b) a;ZQ _ c _ _ _
 intros
 refine FF ?_;refine ⟨⟨_,SqT.of hpa⟩,?_⟩
 let I:Nat->St->Hp->Prop:=fun i U Hi=>Same H Hi/\∃ z3 z4,U= [some (.ref so),some (.ref pa),some (.int (Ye c (ps.take i):Nat)),z3,z4]
 refine UO (xs:=xs) I ⟨Same.refl _,_,_,rfl⟩ (fun i U Hi _ z=>SqT.of (z.1 _ _ hpa)) ?_ ?_
 .rintro BB RR i x U Hi hx ⟨si,z3,z4,rfl⟩
  obtain ⟨p,t,hp,rfl,ht⟩:=G7 hxs hx;have hk:=pk p (List.mem_of_getElem? hp);refine ⟨_,SqT.of (si _ _ ht),rfl,?_⟩;have ki2:=ki.mono si;obtain ⟨AK,SK,e1,kd,kr⟩:=id ki2;refine ⟨_,rfl,_,_,by rw [<-e1];exact kd.ins,rfl,so,ks,d,p.2,rfl,ki2,hk,fun l ys H3 s3 hl g3 hy=>?_⟩;have ly:=hy.length;obtain ⟨c1,c2⟩:=kk.c0 hk;rw [List.length_map,c1] at ly;have le:=(UJ (c:=c) (ps:=ps) (fun p hp=>(kk.c0 (pk p hp)).2) i).1;refine ⟨l,_,rfl, .inl (SqL.of g3), .inl ⟨by omega,by omega⟩,?_⟩;have e:((Ye c (ps.take i):Nat):Int) * ((ys.length:Nat):Int)=((Ye c (ps.take (i + 1)):Nat):Int):=by rw [take_snoc hp,JK,ly,Int.natCast_mul]
  exact ⟨si.trans s3,some (.str p.1),some (.str p.2),by rw [<-e];rfl⟩
 .rintro U Hi ⟨si,z3,z4,rfl⟩
  rw [List.take_of_length_le (by omega)];exact q Hi si
def UG(CK:Addr):Sp:=fun vs H Q _=> ∃ (so:Addr) (ks:List (Str × Shp)) (c d:Str->Nat) (ps:List (Str × Str)) (v:V),vs= [.ref so,v]/\KI H CK so ks d/\KK 30 c d ks/\Has H v (psD ps)/\(∀ p∈ps,p.2∈ks.map (·.1))/\ps.length<=3/\Ye c ps<=1000/\
 ∀ l xs H',Same H H'->H l=none->H' l=some (.lst xs)->HasL H' xs ((Y8 ks ps).map V9)->Q (.ref l) H'
theorem Vj:ZX ["kinds","parameters","rows","name","kind"] ["kinds","parameters"] (ZL Uv):=Zl
theorem Kt:List.Nodup [("row" :Str),"worth","kinds","kind"]:=by decide +kernel
theorem T6(B:Blt mg)(TC:KCl K CK)(F:Fun K "rows_over" "rows_over" Uv f fd)(m2:Yc K CK "worths_of" g)(G2:ZN P w K mg base CX0 n g gd ["self","kind"] (VM CK))(b2:Binds K gd ["self","kind"] []):ZN P w K mg base CX0 (n + 1) f fd ["kinds","parameters"] (UG CK):=by
 refine F.ok Vj (fun vs H Q E h=>?_) (fun cdv A outer s H vs Q E hr h=>?_)
 .obtain ⟨so,ks,c,d,ps,v,rfl,_⟩:=h
  rfl
 obtain ⟨so,ks,c,d,ps,v,rfl,ki,kk,hv,pk,l3,top,q⟩:=h;unfold psD at hv;obtain ⟨pa,xs,rfl,hpa,hxs⟩:=Zn hv;have lx:=hxs.length;rw [List.length_map] at lx;refine ⟨_,ZC (ZZ 2 Vj.nd (Z8 (ZA (Zs ZE) ZE)))
  (ZC (YO PassesOwn.never rfl (Vc (pv 1)) (YR (n:=2) rfl (Zc (ZO 3 Vj.nd) (Zc (ZO 4 Vj.nd rfl (Or.inr rfl)) Z9)))
   (ZH (Fx (i0:=2) (wi2:=NW K (M4 CK "worths_of" (VM CK) [] E (UF 2) (Ve (UF 3) W9))) [0,4] Vj.nd rfl (Or.inl rfl) (Z6 (pv 2))
    (fun cl C fp s H=>ZO 0 Kt rfl (Or.inl rfl) (Or.inr rfl)) (fun cl C fp s H=>Z6 (YA (pv 2) TC.cl m2 G2 hr b2 .nil ZT (ZA (pv 3) ZE))) (fun cl C fp s H=>ZO 1 Kt rfl (Or.inl rfl) (Or.inr rfl))
    (fun cl C fp s H=>Zi (r:=fun x y H Q=>T1 K x y H Q \/ Tz K x y H Q) NP (pv 0) (Zs (ZA (pv 1) ZE))))))
  (ZH (ZW (pv 2)))),?_⟩
 dsimp only [Ys,Cx.nox,Cx.wish];show let a:=_;let b:=_;let c:=ZQ (VX _ _ b) a;ZQ _ c _ _ _
 intros
 refine ⟨sl 0,fun t0 ht0=>⟨sl 1,fun l0 hl0=>?_⟩⟩;have s1:=ZF ht0 (.tup []);have g1:upd H t0 (.tup []) t0=some (.tup []):=ZD;generalize upd H t0 (.tup [])=H1 at s1 g1 hl0 |-;have s2:=ZF hl0 (.lst [.ref t0]);have g2:upd H1 l0 (.lst [.ref t0]) l0=some (.lst [.ref t0]):=ZD;generalize upd H1 l0 (.lst [.ref t0])=H2 at s2 g2 |-;have s02:=s1.trans s2;refine ⟨⟨_,SqT.of (s02 _ _ hpa)⟩,?_⟩;refine UO (xs:=xs) (fun i U Hi=>Same H Hi/\∃ l ys z3 z4,H l=none/\Hi l=some (.lst ys)/\HasL Hi ys ((Y8 ks (ps.take i)).map V9)/\U= [some (.ref so),some (.ref pa),some (.ref l),z3,z4]) ⟨s02,l0,_,_,_,s1.free hl0,g2,HasL.one (Zr (s2 _ _ g1) HasL.nil),rfl⟩ (fun i U Hi _ z=>SqT.of (z.1 _ _ hpa)) ?_ ?_
 .rintro BB RR i x U Hi hx ⟨si,l,ys,z3,z4,fl,hl,hy,rfl⟩
  obtain ⟨p,t,hp,rfl,ht⟩:=G7 hxs hx;have hk:=pk p (List.mem_of_getElem? hp);obtain ⟨c1,c2⟩:=kk.c0 hk;have i3:=(List.getElem?_eq_some_iff.mp hp).1;have lR:=Jy kk (ps.take i) fun p hp=>pk p (List.mem_of_mem_take hp);have rl:=UI (ks:=ks) (ps.take i);have le:=(UJ (c:=c) (ps:=ps) (fun p hp=>(kk.c0 (pk p hp)).2) (i + 1)).1;have eR:Y8 ks (ps.take (i + 1))=(Y8 ks (ps.take i)).flatMap fun r=>(Zd ks 3 p.2).map fun u=>r++ [u]:=by rw [take_snoc hp,X9]
  rw [take_snoc hp,JK,<-lR,<-c1] at le;rw [eR];have ly:=hy.length;rw [List.length_map] at ly;rw [List.length_take] at rl;generalize Y8 ks (ps.take i)=R at lR rl le hy ly |-;generalize hus:Zd ks 3 p.2=us at le |-;refine ⟨_,SqT.of (si _ _ ht),rfl,?_⟩;refine ⟨⟨ys,SqL.of hl⟩,?_⟩;refine WP ys.length (fun i' zs H'=>Same Hi H'/\zs.length=i' * us.length/\i'<=R.length/\HasL H' zs (((R.take i').flatMap fun r=>us.map fun u=>r++ [u]).map V9)) ⟨Same.refl _,by simp,Nat.zero_le _,by rw [List.take_zero];exact HasL.nil⟩
   (fun i' zs H' z=>ZK (by rw [z.2.1];have:i' * us.length<=R.length * us.length:=Nat.mul_le_mul_right _ z.2.2.1;omega)) ?_ ?_ ?_ ?_
  .intro i' zs H' hi z
   exact ⟨ys,ys[i'],SqL.of (z.1 _ _ hl),by simp [hi]⟩
  .intro zs H' z
   exact ⟨ys,SqL.of (z.1 _ _ hl),Nat.le_refl _⟩
  .intro i' zs H' x H'' RR' hi z yl hR
   obtain ⟨rfl,yy⟩:=yl;obtain ⟨dx,hdx,hhx⟩:=hy.get (yy ys (SqL.of (z.1 _ _ hl)));rw [List.getElem?_map] at hdx
   cases hr1:R[i']? with
   | none=>rw [hr1] at hdx;cases hdx
   | some r=>
    rw [hr1] at hdx;cases hdx;have ri:=rl r (List.mem_of_getElem? hr1);have ki2:=ki.mono (si.trans z.1);obtain ⟨AK,SK,e1,kd,kr⟩:=id ki2;refine ⟨_,_,by rw [<-e1];exact kd.ins,rfl,so,ks,d,p.2,rfl,ki2,hk,fun lw xw H3 s3 hlw gw hw=>⟨⟨xw,SqL.of gw⟩,?_⟩⟩;rw [hus] at hw;have lw':=hw.length;rw [List.length_map] at lw';have hhx3:=(hhx.mono z.1).mono s3;refine RG xw.length (fun j ws H4=>Same H3 H4/\ws.length=i' * us.length + j/\j<=us.length/\HasL H4 ws (((R.take i').flatMap fun r=>us.map fun u=>r++ [u]).map V9++ ((us.take j).map fun u=>r++ [u]).map V9)) ⟨Same.refl _,by rw [z.2.1];rfl,Nat.zero_le _,by rw [List.take_zero,List.map_nil,List.map_nil,List.append_nil];exact z.2.2.2.mono s3⟩
     (fun j ws H4 y3=>ZK (by
      rw [y3.2.1];have:(i' + 1) * us.length<=R.length * us.length:=Nat.mul_le_mul_right _ (by omega);rw [Nat.succ_mul] at this;have:=y3.2.2.1;omega)) ?_ ?_ ?_ ?_
    .intro j ws H4 hj y3
     exact ⟨xw,xw[j],SqL.of (y3.1 _ _ gw),by simp [hj]⟩
    .intro ws H4 y3
     exact ⟨xw,SqL.of (y3.1 _ _ gw),Nat.le_refl _⟩
    .intro j ws H4 x2 H5 T2 hj y3 yl2 hT
     obtain ⟨rfl,yy2⟩:=yl2;obtain ⟨dz,hdz,hhz⟩:=hw.get (yy2 xw (SqL.of (y3.1 _ _ gw)));rw [List.getElem?_map] at hdz
     cases hv1:us[j]? with
     | none=>rw [hv1] at hdz;cases hdz
     | some v=>
      rw [hv1] at hdz;cases hdz;refine ⟨sl 1,fun b hb=>?_⟩;have sb:=ZF hb (.tup [x2]);have gb:upd H5 b (.tup [x2]) b=some (.tup [x2]):=ZD;refine Ni ((hhx3.mono y3.1).mono sb) gb ((hhz.mono y3.1).mono sb) (by omega) fun v' H6 s6 h6=>hT _ _ ?_;have s46:=sb.trans s6;refine ⟨y3.1.trans s46,by rw [List.length_append,y3.2.1];rfl,(List.getElem?_eq_some_iff.mp hv1).1,?_⟩;rw [take_snoc hv1,List.map_append,List.map_append,<-List.append_assoc];exact HasL.append (y3.2.2.2.mono s46) (HasL.one h6)
    .intro ws H4 y3
     refine hR _ _ ⟨z.1.trans (s3.trans y3.1),by rw [y3.2.1,lw',Nat.succ_mul],(List.getElem?_eq_some_iff.mp hr1).1,?_⟩;have y4:=y3.2.2.2;rw [show us.take xw.length=us from List.take_of_length_le (by omega)] at y4;rw [take_snoc hr1,List.flatMap_append,List.map_append];simp only [List.flatMap_cons,List.flatMap_nil,List.append_nil];exact y4
  .intro zs H' p3 z hp3
   have s3:=ZF hp3 (.lst zs);have z4:=z.2.2.2;rw [List.take_of_length_le (by omega)] at z4;exact ⟨si.trans (z.1.trans s3),p3,zs,_,_,(si.trans z.1).free hp3,ZD,z4.mono s3,rfl⟩
 .rintro U Hi ⟨si,l,ys,z3,z4,fl,hl,hy,rfl⟩
  rw [List.take_of_length_le (by omega)] at hy;exact q l ys Hi si fl hl hy
end
end K4
namespace L2
open PySem
def Ua(H:Hp)(x:Addr):Hp:=fun b=>if b=x then none else H b
structure BB(Hm H:Hp)(C CK:Addr)(A:BA)(ks:List (Str × Shp))(d:Str->Nat):Prop where
 ins:H A.t=some (.ins C A.dx (Ju A))
 sm:Same Hm H
 so:KI Hm CK A.so ks d
 nd:Hm A.td=none
 nr:Hm A.rd=none
 ne:A.td≠A.rd
 n1:A.t≠A.td
 n2:A.t≠A.rd
theorem BB.same(b:BB Hm H C CK A ks d)(s:Same H H'):BB Hm H' C CK A ks d:=⟨s _ _ b.ins,b.sm.trans s,b.so,b.nd,b.nr,b.ne,b.n1,b.n2⟩
theorem BB.td(b:BB Hm H C CK A ks d)(o:HO):BB Hm (upd H A.td o) C CK A ks d:=⟨by rw [ZI b.n1];exact b.ins,b.sm.putN b.nd,b.so,b.nd,b.nr,b.ne,b.n1,b.n2⟩
theorem BB.rd(b:BB Hm H C CK A ks d)(o:HO):BB Hm (upd H A.rd o) C CK A ks d:=⟨by rw [ZI b.n2];exact b.ins,b.sm.putN b.nr,b.so,b.nd,b.nr,b.ne,b.n1,b.n2⟩
structure BT(H:Hp)(A:BA)(kv rv:List (Key × V))(ks:List (Str × Shp))(ds:List Dd):Prop where
 td:H A.td=some (.dK kv)
 rd:H A.rd=some (.dK rv)
 ke:kv.map (·.1)=ds.map (fun x=>(Sum.inr x.1.1:Key))
 va:HasL H (kv.map (·.2)) (ds.map Jb)
 ro:∀ x∈ds,∃ l xs,Zp rv (Sum.inr x.1.1)=some (.ref l)/\H l=some (.lst xs)/\HasL H xs ((Y8 ks x.1.2.1).map V9)
 ln:rv.length<=ds.length
theorem BT.same(b:BT H A kv rv ks ds)(s:Same H H'):BT H' A kv rv ks ds:=
 ⟨s _ _ b.td,s _ _ b.rd,b.ke,b.va.mono s,fun x hx=>let ⟨l,xs,h1,h2,h3⟩:=b.ro x hx;⟨l,xs,h1,s _ _ h2,h3.mono s⟩,b.ln⟩
theorem Xm(e:TK H H'):∀ (u:W) {v:V},Has H v u.dat->Has H' v u.dat
 | .non,_,h=>by unfold W.dat Has at h |-;exact h
 | .tag _,_,h=>by unfold W.dat Has at h |-;exact h
 | .pair a b,_,h=>by
  obtain ⟨p,x1,x2,rfl,hp,h1,h2⟩:=Ej h;unfold W.dat Has;exact ⟨p,_,rfl,e _ _ hp,HasL.cons (Xm e a h1) (HasL.one (Xm e b h2))⟩
theorem Xn{α:Type}{D:α->Dat}(e:∀ u {v:V},Has H v (D u)->Has H' v (D u)):∀ {us:List α}{xs:List V},HasL H xs (us.map D)->HasL H' xs (us.map D)
 | [], [],_=>HasL.nil
 | [],_::_,h=>by rw [List.map_nil] at h;unfold HasL at h;exact h.elim
 | _::_, [],h=>by rw [List.map_cons] at h;unfold HasL at h;exact h.elim
 | u::us,x::xs,h=>by
  rw [List.map_cons] at h |-;unfold HasL at h;exact HasL.cons (e u h.1) (Xn e h.2)
theorem TQ(e:TK H H'){rs:List (List W)}(h:HasL H xs (rs.map V9)):HasL H' xs (rs.map V9):=Xn (fun u v hv=>by
 unfold V9 Has at hv |-;obtain ⟨a,ys,h1,h2,h3⟩:=hv;exact ⟨a,ys,h1,e _ _ h2,Xn (fun u {v}=>Xm e u) h3⟩) h
theorem To(x:Dd):(Jb x).st=true:=by
 unfold Jb psD;simp [Dat.st,Dat.sts,Xi,Bd.st]
theorem Xq:∀ ds:List Dd,Dat.sts (ds.map Jb)=true
 | []=>by unfold List.map Dat.sts;rfl
 | x::ds=>by rw [List.map_cons];unfold Dat.sts;rw [Xq ds,To];rfl
theorem TN(h:Has H v (Jr x)):∃ a u w,v= .ref a/\H a=some (.tup [.str x.1.1,u, .str x.1.2.2,w])/\Has H u (psD x.1.2.1)/\Has H w x.2.dat:=by
 unfold Jr at h;obtain ⟨t,ys,rfl,ht,hl⟩:=Zn h;obtain ⟨x1,r1,rfl,h1,hlA⟩:=ZP hl;obtain ⟨x2,r2,rfl,h2,hlB⟩:=ZP hlA;obtain ⟨x3,r3,rfl,h3,hlC⟩:=ZP hlB;obtain ⟨x4,r4,rfl,h4,hlD⟩:=ZP hlC;obtain rfl:=YK hlD;obtain rfl:=has_str h1;obtain rfl:=has_str h3;exact ⟨t,x2,x4,rfl,ht,h2,h4⟩
theorem PL(A:BA):(Ju A).lookup ("is_head" :Str)=none:=rfl
theorem Oi(A:BA):(Ju A).lookup ("rows" :Str)=some (V.ref A.rd):=rfl
theorem NK(hc:X.calm=true)(h1:PG X (.Name x1 p1) t1)(h2:PG X (.Name x2 p2) t2)(h3:PG X (.Name x3 p3) t3)(h4:PG X (.Name x4 p4) t4):
  PG X (.Tuple [.Name x1 p1, .Name x2 p2, .Name x3 p3, .Name x4 p4] k pos) (KB X.K 4 (Jp t1 (Jp t2 (Jp t3 (Jp t4 Ml))))):=
 YR (n:=4) hc (Zc h1 (Zc h2 (Zc h3 (Zc h4 Z9))))
theorem BT.put(b:BT H0 A kv rv ks ds)(ne:A.td≠A.rd)(nx:x.1.1 ∉ ds.map fun y=>y.1.1)(e2:H2=upd H0 A.td (.dK (putK kv (Sum.inr x.1.1) v)))(hv:Has H0 v (Jb x))(s:Same H2 Hb)(hl:Hb l=some (.lst xs))(hx:HasL Hb xs ((Y8 ks x.1.2.1).map V9))(e4:H4=upd Hb A.rd (.dK (putK rv (Sum.inr x.1.1) (.ref l)))):
  BT H4 A (putK kv (Sum.inr x.1.1) v) (putK rv (Sum.inr x.1.1) (.ref l)) ks (ds++ [x]):=by
 have nk:Zp kv (Sum.inr x.1.1)=none:=US (by
  rw [b.ke];intro z;obtain ⟨q1,hq1,e1⟩:=List.mem_map.mp z;exact nx (List.mem_map.mpr ⟨q1,hq1,Sum.inr.inj e1⟩))
 have td2:H2 A.td=some (.dK (putK kv (Sum.inr x.1.1) v)):=by rw [e2];exact ZD
 have rd2:Hb A.rd=some (.dK rv):=s _ _ (by rw [e2,ZI (Ne.symm ne)];exact b.rd);have tk1:TK H0 H2:=by rw [e2];exact Xr b.td fun ys z=>nomatch z
 have tk3:TK Hb H4:=by rw [e4];exact Xr rd2 fun ys z=>nomatch z
 have tk:TK H0 H4:=fun b us h=>tk3 _ _ (s _ _ (tk1 _ _ h))
 have ls:∀ b us,H0 b=some (.lst us)->H4 b=some (.lst us):=fun c us h=>by
  have n1:c≠A.td:=YM h b.td (by intro z;cases z);have h2:Hb c=some (.lst us):=s _ _ (by rw [e2,ZI n1];exact h);have n2:c≠A.rd:=YM h2 rd2 (by intro z;cases z);rw [e4,ZI n2];exact h2
 have ll:H4 l=some (.lst xs):=by
  rw [e4,ZI (YM hl rd2 (by intro z;cases z))];exact hl
 refine ⟨by rw [e4,ZI ne];exact s _ _ td2,by rw [e4];exact ZD,by rw [Jj _ nk,List.map_append,b.ke,List.map_append];rfl,?_,fun y hy=>?_,?_⟩
 .rw [Jj _ nk,List.map_append,List.map_append]
  exact HasL.append (Zv tk _ (Xq ds) b.va) (HasL.one (Yh tk _ (To x) hv))
 .rw [VA]
  rcases List.mem_append.mp hy with m | m
  .have ny: ¬ (Sum.inr y.1.1:Key)=Sum.inr x.1.1:=fun z=>nx (List.mem_map.mpr ⟨y,m,Sum.inr.inj z⟩)
   rw [if_neg ny];obtain ⟨l',xs',h1,h2,h3⟩:=b.ro y m;exact ⟨l',xs',h1,ls _ _ h2,TQ tk h3⟩
  .cases List.mem_singleton.mp m
   rw [if_pos rfl];exact ⟨l,xs,rfl,ll,TQ tk3 hx⟩
 .have:=WA rv (Sum.inr x.1.1) (.ref l)
  have:=b.ln;rw [List.length_append,List.length_singleton];omega
end L2
namespace K4
open PySem L2
section
variable{f g C CK:Addr}
def Gb(C CK:Addr):Sp:=fun vs H Q _=> ∃ (A:BA) (kv:List (Key × V)) (ks:List (Str × Shp)) (d:Str->Nat) (y k:Str) (ps:List (Str × Str)) (v:V),vs= [.ref A.t, .str y,v, .str k]/\H A.t=some (.ins C A.dx (Ju A))/\H A.td=some (.dK kv)/\KI H CK A.so ks d/\ks.length<=6/\Zp kv (Sum.inr y)=none/\WdS y/\
 Has H v (psD ps)/\ps.length<=3/\(∀ p∈ps,p.2∈ks.map (·.1))/\(ps.map (·.1)).Nodup/\(∀ p∈ps,WdS p.1)/\k∈ks.map (·.1)/\∀ H',Same H H'->Q (.bl true) H'
theorem Fm:ZX ["self","name","parameters","kind"] ["self","name","parameters","kind"] (ZL MK):=Zl
theorem EJ(TB:BCl K C)(TC:KCl K CK)(F:Fun K "is_head" "Book.is_head" MK f fd)(DN:Df P w K mg base n "is_name" ["text"] (Jd 97))(DA:Df P w K mg base n "are_parameters" ["kinds","parameters"] (Gc CK))(m2:Yc K CK "names" g)(G2:ZN P w K mg base CX0 n g gd ["self"] (JJ CK))(b2:Binds K gd ["self"] []):ZN P w K mg base CX0 (n + 1) f fd ["self","name","parameters","kind"] (Gb C CK):=by
 obtain ⟨gn,nd',mN,kN,bN,GN⟩:=DN;obtain ⟨ga,ad',mA,kA,bA,GA⟩:=DA;refine F.ok Fm (fun vs H Q E h=>?_) (fun cdv A outer s H vs Q E hr h=>?_)
 .obtain ⟨A',kv,ks,d,y,k,ps,v,rfl,_⟩:=h
  rfl
 obtain ⟨A',kv,ks,d,y,k,ps,v,rfl,hi,ht,ki,k6,nk,⟨w1,w2,w3⟩,hv,l3,pk,nd,spl,hk,q⟩:=h;have hu:=Yg hr;refine ⟨_,ZC (Zh (PW.pt (Vm (Yk (YN (ZM GN hr rfl mN kN bN .nil ZT (ZA (pv 1) ZE)))) (VO (V0 (Ux hu (pv 1) (Zt (pv 0) rfl)))))) (ZH Z0) ZU)
  (ZH (ZW (UL (ZM GA hr rfl mA kA bA .nil ZT (ZA (Zt (pv 0) rfl) (ZA (pv 2) ZE))) (UK (Y4 Wp (pv 3) (YS (Zt (pv 0) rfl) TC.cl m2 G2 hr b2 .nil ZT) rfl))))),?_⟩
 dsimp only [Ys,Cx.nox,Cx.wish];refine ⟨y,rfl,w1,w2,w3,fun H1 s1=>⟨_,rfl,Zk (by simp) ?_⟩⟩;refine ⟨C,_,_,_,s1 _ _ hi,TB.cl,TB.td,Mj _,_,(show Zz H1 A'.td (.str y) none by rw [<-nk];exact Zz.k (k:=Sum.inr y) (s1 _ _ ht)),_,rfl,Zk (by simp) ?_⟩;refine ⟨C,_,_,_,s1 _ _ hi,TB.cl,TB.so,Es _,A'.so,ks,d,ps,v,rfl,ki.mono s1,k6,hv.mono s1,l3,pk,nd,spl,fun H2 s2=>⟨true,rfl,Yb rfl ?_⟩⟩;have s02:=s1.trans s2;have ki2:=ki.mono s02;obtain ⟨AK,SK,e1,kd,kr⟩:=id ki2;refine ⟨C,_,_,_,s02 _ _ hi,TB.cl,TB.so,Es _,_,_,by rw [<-e1];exact kd.ins,rfl,A'.so,ks,d,rfl,ki2,fun l H3 s3 hl g3=>?_⟩;have el:(ks.map fun k=>V.str k.1)=(ks.map (·.1)).map V.str:=by rw [List.map_map];rfl
 rw [el] at g3;refine ⟨l,_,rfl, .inl (SqL.of g3),rfl,JD _,?_⟩;rw [Jo];have e:decide (k∈ks.map (·.1))=true:=decide_eq_true hk;dsimp only [rI0,rI,Vt];rw [e];exact q H3 (s02.trans s3)
end
section
variable{f g C CK:Addr}
def Bw(C CK:Addr):Sp:=fun vs H Q _=> ∃ (Hm:Hp) (A:BA) (dl:Addr) (zs:List V) (ks:List (Str × Shp)) (c d:Str->Nat) (ds:List Dd),vs= [.ref A.t, .ref dl]/\BB Hm H C CK A ks d/\BT H A [] [] ks []/\KK 30 c d ks/\ks.length<=6/\Hm dl=some (.lst zs)/\HasL Hm zs (ds.map Jr)/\0 < ds.length/\ds.length<=8/\
 Wds 97 (ds.map fun x=>x.1.1)/\(∀ x∈ds,WZ (ks.map (·.1)) c 40 x.1)/\∀ H' kv rv,BB Hm H' C CK A ks d->BT H' A kv rv ks ds->Q .non H'
theorem UW:ZX ["self","definitions","in_all","number","name","parameters","kind","body","count"] ["self","definitions"] (ZL MF):=Zl
theorem EF(B:Blt mg)(me:mg "enumerate" =none)(TB:BCl K C)(F:Fun K "take_heads" "Book.take_heads" MF f fd)(h1:mg "MOST_DEFINITIONS" =some u1)(r1:RelV (.int 8) u1)(h2:mg "MOST_ROWS" =some u2)(r2:RelV (.int 200) u2)(h3:mg "MOST_ROWS_IN_ALL" =some u3)(r3:RelV (.int 400) u3)(mH:Yc K C "is_head" g)(GH:ZN P w K mg base CX0 n g gd ["self","name","parameters","kind"] (Gb C CK))(bH:Binds K gd ["self","name","parameters","kind"] [])(DC:Df P w K mg base n "row_count" ["kinds","parameters"] (UH CK))(DO:Df P w K mg base n "rows_over" ["kinds","parameters"] (UG CK)):ZN P w K mg base CX0 (n + 1) f fd ["self","definitions"] (Bw C CK):=by
 obtain ⟨gc,cd',mC,kC,bC,GC⟩:=DC;obtain ⟨go,od',mO,kO,bO,GO⟩:=DO;refine F.ok UW (fun vs H Q E h=>?_) (fun cdv A outer s H vs Q E hr h=>?_)
 .obtain ⟨Hm,A',dl,zs,ks,c,d,ds,rfl,_⟩:=h
  rfl
 obtain ⟨Hm,A',dl,zs,ks,c,d,ds,rfl,bb,bt,kk,k6,hdl,hzs,d0,d8,wd,ho,q⟩:=h;have hu:=Yg hr;have lz:=hzs.length;rw [List.length_map] at lz;refine ⟨_,ZC (Zh (ZV YL (Zj Zg rfl B.len PySem.boot_len (ZA (pv 1) ZE)) ZG (Zb _)) (ZH Z0) ZU)
  (ZC (ZZ 2 UW.nd ZG)
  (ZH (YO PassesOwn.never rfl (G6 rfl me (ZA (pv 1) ZE)) (YR (n:=2) rfl (Zc (ZO 3 UW.nd) (Zc (NK rfl (ZO 4 UW.nd) (ZO 5 UW.nd) (ZO 6 UW.nd) (ZO 7 UW.nd)) Z9)))
   (ZC (Zh (PW.pt (Vm (ZV Kq (pv 3) (Y3 rfl h1 r1) (Zb _)) (VO (Yk (YN (YA (pv 0) TB.cl mH GH hr bH .nil ZT (ZA (pv 4) (ZA (pv 5) (ZA (pv 6) ZE))))))))) (ZH Z0) ZU)
   (ZC (ZZ 8 UW.nd (ZM GC hr rfl mC kC bC .nil ZT (ZA (Zt (pv 0) rfl) (ZA (pv 5) ZE))))
   (ZC (Dk (i:=2) UW.nd rfl (Or.inl rfl) (pv 8) Ip)
   (ZC (Zh (PW.pt (Vm (ZV Jl (pv 8) (Y3 rfl h2 r2) (Zb _)) (VO (ZV Jl (pv 2) (Y3 rfl h3 r3) (Zb _))))) (ZH Z0) ZU)
   (ZC (YD hu (Zt (pv 0) rfl) (pv 4) (Zs (ZA (pv 5) (ZA (pv 6) (ZA (pv 7) ZE)))) rfl)
   (ZH (YD hu (Zt (pv 0) rfl) (pv 4) (ZM GO hr rfl mO kO bO .nil ZT (ZA (Zt (pv 0) rfl) (ZA (pv 5) ZE))) rfl)))))))))),?_⟩
 dsimp only [Ys,Cx.nox,Cx.wish];show let a:=_;let b:=ZQ _ a;let c:=_;let d:=ZQ (Zw _ c _) b;let e:=ZQ _ d;let f:=ZQ _ e;let g:=_;let h:=ZQ (Zw _ g _) f;let i:=VX _ _ h;let j:=ZQ _ i;let k:=_;ZQ (Zw _ k _) j _ _ _
 intros
 refine ⟨dl,_,rfl, .inl (SqL.of (bb.sm _ _ hdl)),rfl,_,rfl,Zk (fun z=>by have z1:=of_decide_eq_true z;injection z1 with z2;omega) ?_⟩;refine FF ?_;refine ⟨dl,false,zs,rfl,SqL.of (bb.sm _ _ hdl),?_⟩
 let I:Nat->St->Hp->Prop:=fun i U Hi=>BB Hm Hi C CK A' ks d/\∃ (kv rv:List (Key × V)) (n:Nat) (z3 z4 z5 z6 z7 z8:Option V),BT Hi A' kv rv ks (ds.take i)/\n<=40 * i/\U= [some (.ref A'.t),some (.ref dl),some (.int (n:Nat)),z3,z4,z5,z6,z7,z8]
 refine TU (tp:=false) (xs:=zs) I
  ⟨bb, [], [],0,_,_,_,_,_,_,bt,Nat.le_refl _,rfl⟩ (fun i U Hi _ z=>SqL.of (z.1.sm _ _ hdl)) ?_ ?_
 .rintro BB' RR i x U Hi r hx ⟨bbi,kv,rv,n',z3,z4,z5,z6,z7,z8,bti,n40,rfl⟩ hr'
  obtain ⟨dd,hd1,hd2⟩:=hzs.get hx;rw [List.getElem?_map] at hd1
  cases hc:ds[i]? with
  | none=>rw [hc] at hd1;cases hd1
  | some dx=>
   rw [hc] at hd1;cases hd1;have i8:=(List.getElem?_eq_some_iff.mp hc).1;have hm:=List.mem_of_getElem? hc;obtain ⟨p3,pk,hk,psn,psw,psr⟩:=ho dx hm;have sR:=ZF hr' (.tup [.int ((i:Nat):Int),x]);have gR:upd Hi r (.tup [.int ((i:Nat):Int),x]) r=some (.tup [.int ((i:Nat):Int),x]):=ZD;generalize upd Hi r (.tup [.int ((i:Nat):Int),x])=HR at sR gR |-;have bbR:=bbi.same sR;have btR:=bti.same sR;obtain ⟨ta,u,wv,rfl,hta,hup,hwb⟩:=TN (hd2.mono bbR.sm)
   have nx:dx.1.1 ∉ (ds.take i).map fun y=>y.1.1:=by
    rw [List.map_take];exact Uz wd.nd (show (ds.map fun y:Dd=>y.1.1)[i]?=some dx.1.1 by rw [List.getElem?_map,hc];rfl)
   have nk:Zp kv (Sum.inr dx.1.1)=none:=US (by
    rw [bti.ke];intro z;obtain ⟨q1,hq1,e1⟩:=List.mem_map.mp z;exact nx (List.mem_map.mpr ⟨q1,hq1,Sum.inr.inj e1⟩))
   have lk:kv.length<=8:=by
    have:=congrArg List.length bti.ke;rw [List.length_map,List.length_map,List.length_take] at this;omega
   have lr:=bti.ln;rw [List.length_take] at lr;refine ⟨_,SqT.of gR,rfl,⟨_,SqT.of hta,rfl,?_⟩⟩;refine ⟨_,rfl,Zk (by simp;omega) ?_⟩;refine ⟨_,_,bbR.ins,PL _,A',kv,ks,d,dx.1.1,dx.1.2.2,dx.1.2.1,u,rfl,bbR.ins,btR.td,bbR.so.mono bbR.sm,k6,nk,wd.wdS (List.mem_map.mpr ⟨dx,hm,rfl⟩),hup,p3,pk,psn,psw,hk,fun H1 s1=>⟨_,rfl,Zk (by simp) ?_⟩⟩;have bb1:=bbR.same s1;have bt1:=btR.same s1;have hu1:=hup.mono s1;refine ⟨C,_,_,_,bb1.ins,TB.cl,TB.so,Es _,A'.so,ks,c,d,dx.1.2.1,u,rfl,bb1.so.mono bb1.sm,kk,hu1,pk,by omega,fun H2 s2=>?_⟩;have bb2:=bb1.same s2;have bt2:=bt1.same s2;refine ⟨_,rfl,?_⟩;refine ⟨_,rfl,Zk (by simp;omega) ?_⟩;refine ⟨_,rfl,Zk (by simp;omega) ?_⟩;refine ⟨sl 3,fun tt htt=>?_⟩;have s3:=ZF htt (.tup [u, .str dx.1.2.2,wv]);have g3:upd H2 tt (.tup [u, .str dx.1.2.2,wv]) tt=some (.tup [u, .str dx.1.2.2,wv]):=ZD;generalize upd H2 tt (.tup [u, .str dx.1.2.2,wv])=H3 at s3 g3 |-;have bb3:=bb2.same s3;have bt3:=bt2.same s3;have hv3:Has H3 (.ref tt) (Jb dx):=Zr g3 (HasL.cons ((hu1.mono s2).mono s3) (HasL.cons YG (HasL.one (((hwb.mono s1).mono s2).mono s3))));refine ⟨C,_,_,_,bb3.ins,TB.cl,TB.td,Mj _,_,VJ.k (k:=Sum.inr dx.1.1) bt3.td (ZK (by omega)),?_⟩;have bb4:=bb3.td (.dK (putK kv (Sum.inr dx.1.1) (.ref tt)));obtain ⟨H4,e4⟩:∃ H4,H4=upd H3 A'.td (.dK (putK kv (Sum.inr dx.1.1) (.ref tt))):=⟨_,rfl⟩;have tk4:TK H3 H4:=by rw [e4];exact Xr bt3.td fun ys z=>nomatch z
   have rd4:H4 A'.rd=some (.dK rv):=by rw [e4,ZI (Ne.symm bb.ne)];exact bt3.rd
   rw [<-e4] at bb4;dsimp only [rI0,rI,Vt];rw [<-e4];refine ⟨C,_,_,_,bb4.ins,TB.cl,TB.so,Es _,A'.so,ks,c,d,dx.1.2.1,u,rfl,bb4.so.mono bb4.sm,kk,Yh tk4 _ (by unfold psD;unfold Dat.st;exact Xi _) ((hu1.mono s2).mono s3),pk,p3,by omega,fun l xs H5 s5 fl hl hxs=>?_⟩;have bb5:=bb4.same s5;refine ⟨C,_,_,_,bb5.ins,TB.cl,TB.rd,Oi _,_,VJ.k (k:=Sum.inr dx.1.1) (s5 _ _ rd4) (ZK (by omega)),?_⟩;have fin:=bt3.put bb.ne nx e4 hv3 s5 hl hxs rfl;rw [<-take_snoc hc] at fin;exact ⟨bb5.rd _,_,_,n' + Ye c dx.1.2.1,_,_,_,_,_,_,fin,by omega,rfl⟩
 .rintro U Hi ⟨bbi,kv,rv,n',z3,z4,z5,z6,z7,z8,bti,n40,rfl⟩
  rw [List.take_of_length_le (by omega)] at bti;exact q Hi kv rv bbi bti
end
end K4
namespace L2
open PySem
def BJ(H:Hp)(C CK t:Addr)(ks:List (Str × Shp))(d:Str->Nat)(ds:List Dd):Prop:= ∃ A kv rv,A.t=t/\BD H C CK A kv ks d ds/\BT H A kv rv ks ds
theorem BJ.bi(b:BJ H C CK t ks d ds):BI H C CK t ks d ds:=let ⟨A,kv,_,h,k,_⟩:=b;⟨A,kv,h,k⟩
theorem BD.mono(k:BD H C CK A kv ks d ds)(e:Same H H'):BD H' C CK A kv ks d ds:=⟨e _ _ k.ins,k.so.mono e,e _ _ k.td,k.ke,k.va.mono e,k.nd⟩
theorem BJ.mono(b:BJ H C CK t ks d ds)(e:Same H H'):BJ H' C CK t ks d ds:=let ⟨A,kv,rv,h,k,r⟩:=b;⟨A,kv,rv,h,k.mono e,r.same e⟩
theorem MT(n:b≠x)(h:H b=some o):Ua H x b=some o:=by unfold Ua;rw [if_neg n];exact h
theorem KI.out(k:KI H CK t ks d)(hx:H x=some (.ins C dx [])):KI (Ua H x) CK t ks d:=by
 obtain ⟨A,S,rfl,kd,kr⟩:=k;have go:∀ {b:Addr}{o:HO},H b=some o->o≠ .ins C dx []->Ua H x b=some o:=fun {b o} h n=>MT (YM h hx n) h;have tl:TL H (Ua H x):=⟨fun b xs h=>go h (by intro z;cases z),fun b xs h=>go h (by intro z;cases z)⟩;refine ⟨A,S,rfl,⟨go kd.ins (fun z=>?_),go kd.sh (fun z=>by cases z),go kd.wo (fun z=>by cases z),go kd.he (fun z=>by cases z),go kd.pd (fun z=>by cases z),go kd.tk (fun z=>by cases z),go kd.pk (fun z=>by cases z),kd.nd⟩,kr.tl tl⟩;injection z with _ _ z;unfold XQ at z;cases z
end L2
namespace K4
open PySem L2
section
variable{f g C CK:Addr}
def Xx(C CK:Addr):Sp:=fun vs H Q _=> ∃ (A:BA) (kv:List (Key × V)) (ks:List (Str × Shp)) (c d:Str->Nat) (ds:List Dd),vs= [.ref A.t]/\BD H C CK A kv ks d ds/\KG ks/\KK 30 c d ks/\ks.length<=6/\(∀ x∈ds,WZ (ks.map (·.1)) c 40 x.1)/\(∀ x∈ds,FJ ks (ds.map (·.1)) x)/\∀ H',Same H H'->Q .non H'
theorem VZ:ZX ["self","number","name","parameters","kind","body","found","place"] ["self"] (ZL Gu):=Zl
theorem Oj(A:BA):(Ju A).lookup ("names" :Str)=none:=rfl
theorem BK(B:Blt mg)(me:mg "enumerate" =none)(TB:BCl K C)(F:Fun K "check_bodies" "Book.check_bodies" Gu f fd)(mH:Yc K C "names" g)(GH:ZN P w K mg base CX0 n g gd ["self"] (Jf C CK))(bH:Binds K gd ["self"] [])(DK:Df P w K mg base n "kind_or_place" ["book","around","body"] (Np C CK 12)):ZN P w K mg base CX0 (n + 1) f fd ["self"] (Xx C CK):=by
 obtain ⟨gk,kd',mK,kK,bK,GK⟩:=DK;refine F.ok VZ (fun vs H Q E h=>?_) (fun cdv A outer s H vs Q E hr h=>?_)
 .obtain ⟨A',kv,ks,c,d,ds,rfl,_⟩:=h
  rfl
 obtain ⟨A',kv,ks,c,d,ds,rfl,bd,kg,kk,k6,ho,dok,q⟩:=h;have hu:=Yg hr;refine ⟨_,ZH (YO PassesOwn.never rfl (G6 rfl me (ZA (YS (pv 0) TB.cl mH GH hr bH .nil ZT) ZE)) (YR (n:=2) rfl (Zc (ZO 1 VZ.nd) (Zc (ZO 2 VZ.nd) Z9)))
   (ZC (Vo (Ze hu (Zt (pv 0) rfl) (pv 2) (fun _ _=>rfl)) (YR (n:=3) rfl (Zc (ZO 3 VZ.nd) (Zc (ZO 4 VZ.nd) (Zc (ZO 5 VZ.nd) Z9)))))
   (ZC (Vo (ZM GK hr rfl mK kK bK .nil ZT (ZA (pv 0) (ZA (Zo (JG rfl) rfl B.dict Y6 (ZA (pv 3) ZE)) (ZA (pv 5) ZE)))) (YR (n:=2) rfl (Zc (ZO 6 VZ.nd) (Zc (ZO 7 VZ.nd) Z9))))
   (ZC (Zh (ZV Uy (pv 6) VP (Zb _)) (ZH Z0) ZU)
   (ZH (Zh (ZV XF (pv 6) (pv 4) (Zb _)) (ZH Z0) ZU)))))),?_⟩
 dsimp only [Ys,Cx.nox,Cx.wish];show let a:=_;let b:=Zw _ a _;let c:=_;let d:=ZQ (Zw _ c _) b;let e:=ZQ _ d;let f:=ZQ _ e;VX _ _ f _ _ _
 intros
 refine ⟨_,_,bd.ins,Oj _,A'.t,ks,d,ds,rfl,⟨A',kv,rfl,bd⟩,fun nl H1 s1 fnl hnl=>?_⟩;refine ⟨nl,false,_,rfl,SqL.of hnl,?_⟩
 let I:Nat->St->Hp->Prop:=fun i U Hi=>Same H1 Hi/\∃ (z1 z2 z3 z4 z5 z6 z7:Option V),U= [some (.ref A'.t),z1,z2,z3,z4,z5,z6,z7]
 refine TU (tp:=false) (xs:=ds.map fun x=>V.str x.1.1) I ⟨Same.refl _,_,_,_,_,_,_,_,rfl⟩ (fun i U Hi _ z=>SqL.of (z.1 _ _ hnl)) ?_ ?_
 .rintro BB' RR i x U Hi r hx ⟨si,z1,z2,z3,z4,z5,z6,z7,rfl⟩ hr'
  rw [List.getElem?_map] at hx
  cases hc:ds[i]? with
  | none=>rw [hc] at hx;cases hx
  | some dx=>
   rw [hc] at hx;cases hx;have hm:=List.mem_of_getElem? hc;have o1:=ho dx hm;have o2:=dok dx hm;have sR:=ZF hr' (.tup [.int ((i:Nat):Int), .str dx.1.1]);have gR:upd Hi r (.tup [.int ((i:Nat):Int), .str dx.1.1]) r=some (.tup [.int ((i:Nat):Int), .str dx.1.1]):=ZD;generalize upd Hi r (.tup [.int ((i:Nat):Int), .str dx.1.1])=HR at sR gR |-;have bdR:=bd.mono ((s1.trans si).trans sR);obtain ⟨v,e1,e2⟩:=bdR.at hm;obtain ⟨ta,u,wv,rfl,hta,hup,hwb⟩:=RI e2;refine ⟨_,SqT.of gR,rfl,?_⟩;refine ⟨C,_,_,_,bdR.ins,TB.cl,TB.td,Mj _,_,e1,?_⟩;refine ⟨_,SqT.of hta,rfl,?_⟩;unfold psD at hup;obtain ⟨l,xp,rfl,hl,hxs'⟩:=Zn hup;obtain ⟨tp,rfl,prs⟩:=MN (K:=K) hxs';replace prs:WV K HR tp (kvP dx.1.2.1):=prs;have lps:(kvP dx.1.2.1).length=dx.1.2.1.length:=List.length_map _;have psn:=o1.nd
   have ndk:((kvP dx.1.2.1).map (·.1)).Nodup:=by
    unfold kvP;rw [List.map_map];unfold List.Nodup at psn |-;rw [List.pairwise_map] at psn |-;exact psn.imp fun hab q=>hab (Sum.inr.inj q)
   refine ⟨l,tp,_,rfl,hl,prs,ndk,fun aA haA=>?_⟩;have s3:=ZF haA (.dK (kvP dx.1.2.1));have g3:upd HR aA (.dK (kvP dx.1.2.1)) aA=some (.dK (kvP dx.1.2.1)):=ZD;generalize upd HR aA (.dK (kvP dx.1.2.1))=H3 at s3 g3 |-;have l3:=o1.len;have d11:=o2.dep;refine ⟨A'.t,aA,wv,ks,d,ds,kvP dx.1.2.1,dx.2,dx.1.2.2,rfl,⟨A',kv,rfl,bdR.mono s3⟩,kg,fun z ts e=>(kk.at e).1,k6, .inl g3,by omega,hwb.mono s3,o2.ok,by omega,o2.kd,fun r4 H4 s4 h4=>?_⟩;refine ⟨_,SqT.of h4,rfl,?_⟩;refine ⟨rfl,_,rfl,Zk (by simp) ?_⟩;refine ⟨rfl,_,rfl,Zk (by simp) ?_⟩;exact ⟨((si.trans sR).trans s3).trans s4,_,_,_,_,_,_,_,rfl⟩
 .rintro U Hi ⟨si,_⟩
  exact q Hi (s1.trans si)
def Ga(C CK:Addr):Sp:=fun vs H Q _=> ∃ (x dx kl dl:Addr) (xs zs:List V) (ks:List (Str × Shp)) (c d:Str->Nat) (ds:List Dd),vs= [.ref x, .ref kl, .ref dl]/\H x=some (.ins C dx [])/\H kl=some (.lst xs)/\HasL H xs (ks.map Yq)/\KK 30 c d ks/\(ks.map (·.1)).Nodup/\KG ks/\0 < ks.length/\ks.length<=6/\
 H dl=some (.lst zs)/\HasL H zs (ds.map Jr)/\0 < ds.length/\ds.length<=8/\Wds 97 (ds.map fun x=>x.1.1)/\(∀ x∈ds,WZ (ks.map (·.1)) c 40 x.1)/\(∀ x∈ds,FJ ks (ds.map (·.1)) x)/\∀ H',(∀ b o,b≠x->H b=some o->H' b=some o)->BJ H' C CK x ks d ds->Q .non H'
theorem Fl:ZX ["self","kinds","definitions"] ["self","kinds","definitions"] (ZL MJ):=Zl
theorem PK(A:BA):(Ju A).lookup ("take_heads" :Str)=none:=rfl
theorem PM(A:BA):(Ju A).lookup ("check_bodies" :Str)=none:=rfl
theorem EI(hm:m + 1<=n)(TB:BCl K C)(F:Fun K "__init__" "Book.__init__" MJ f fd)(Mk':Mk K CK gi)(mC:mg "Kinds" =some (.ref CK))(GI:ZN P w K mg base CX0 m gi idd ["self","told"] (Ri CK))(bI:Binds K idd ["self","told"] [])(m1:Yc K C "take_heads" g1)(G1:ZN P w K mg base CX0 n g1 d1 ["self","definitions"] (Bw C CK))(b1:Binds K d1 ["self","definitions"] [])(m2:Yc K C "check_bodies" g2)(G2:ZN P w K mg base CX0 n g2 d2 ["self"] (Xx C CK))(b2:Binds K d2 ["self"] []):
  ZN P w K mg base CX0 (n + 1) f fd ["self","kinds","definitions"] (Ga C CK):=by
 refine F.ok Fl (fun vs H Q E h=>?_) (fun cdv A outer s H vs Q E hr h=>?_)
 .obtain ⟨x,dx,kl,dl,xs,zs,ks,c,d,ds,rfl,_⟩:=h
  rfl
 obtain ⟨x,dx,kl,dl,xs,zs,ks,c,d,ds,rfl,hx,hkl,hxs,kk,nd,kg,k0,k6,hdl,hzs,d0,d8,wd,ho,dok,q⟩:=h;have hrm:Ya (m + 1) _:=hr.mono hm;refine ⟨_,ZC (V1 (pv 0) (NL Mk' GI hrm rfl mC bI .nil ZT (ZA (pv 1) ZE)) rfl)
  (ZC (V1 (pv 0) Yl rfl) (ZC (V1 (pv 0) Yl rfl) (ZC (V1 (pv 0) Yl rfl)
  (ZC (YC (YA (pv 0) TB.cl m1 G1 hr b1 .nil ZT (ZA (pv 2) ZE)))
  (ZH (YC (YS (pv 0) TB.cl m2 G2 hr b2 .nil ZT))))))),?_⟩
 dsimp only [Ys,Cx.nox,Cx.wish];refine fun t dt ht hdt ndt=>?_;have tx:upd (upd H dt (.own t)) t (.ins CK dt []) t=some (.ins CK dt []):=ZD;have s7:Same H (upd (upd H dt (.own t)) t (.ins CK dt [])):=fun b o e=>by rw [ZI (ZJ e ht),ZI (ZJ e hdt)];exact e
 generalize upd (upd H dt (.own t)) t (.ins CK dt [])=H7 at tx s7 |-;have nxt:x≠t:=ZJ hx ht;refine ⟨t,dt,kl,xs,ks,c,d,rfl,tx,s7 _ _ hkl,hxs.mono s7,kk,nd,kg,k0,k6,fun H8 f8 ki8=>⟨rfl,?_⟩⟩;have s8:Same H H8:=fun b o e=>f8 b o (ZJ e ht) (s7 b o e);have x8:=s8 _ _ hx;refine ⟨x,C,dx,_,rfl,x8,TB.cl,TB.so,by decide,?_⟩;have x9:upd H8 x (.ins C dx (YH "sorts" (.ref t) [])) x=some (.ins C dx (YH "sorts" (.ref t) [])):=ZD;have r9:∀ b o,b≠x->H8 b=some o->upd H8 x (.ins C dx (YH "sorts" (.ref t) [])) b=some o:=fun b o n e=>by rw [ZI n];exact e
 generalize upd H8 x (.ins C dx (YH "sorts" (.ref t) []))=H9 at x9 r9 |-;intro p1 hp1;refine ⟨x,C,dx,_,rfl,by rw [ZI (ZJ x9 hp1)];exact x9,TB.cl,TB.td,(by show 1 < 1000;decide),?_⟩;obtain ⟨x1,a1,n1,r1⟩:=VH (f:="told") (o:= .dK []) x9 hp1;generalize upd (upd H9 p1 (.dK [])) x (.ins C dx (YH "told" (.ref p1) (YH "sorts" (.ref t) [])))=H1 at x1 a1 r1 |-;intro p2 hp2;refine ⟨x,C,dx,_,rfl,by rw [ZI (ZJ x1 hp2)];exact x1,TB.cl,TB.rd,(by show 2 < 1000;decide),?_⟩;obtain ⟨x2,a2,n2,r2⟩:=VH (f:="rows") (o:= .dK []) x1 hp2;generalize upd (upd H1 p2 (.dK [])) x (.ins C dx (YH "rows" (.ref p2) (YH "told" (.ref p1) (YH "sorts" (.ref t) []))))=H2 at x2 a2 r2 |-;intro p3 hp3;refine ⟨x,C,dx,_,rfl,by rw [ZI (ZJ x2 hp3)];exact x2,TB.cl,TB.tn,(by show 3 < 1000;decide),?_⟩;obtain ⟨x3,a3,n3,r3⟩:=VH (f:="turns") (o:= .dK []) x2 hp3;generalize upd (upd H2 p3 (.dK [])) x (.ins C dx (YH "turns" (.ref p3) (YH "rows" (.ref p2) (YH "told" (.ref p1) (YH "sorts" (.ref t) [])))))=H3 at x3 a3 r3 |-
 let A':BA:=⟨x,dx,t,p1,p2,p3⟩
 have out:∀ {b:Addr}{o:HO},Ua H8 x b=some o->b≠x/\H8 b=some o:=fun {b o} h=>by
  unfold Ua at h
  by_cases e:b=x
  .rw [if_pos e] at h;cases h
  .rw [if_neg e] at h;exact ⟨e,h⟩
 have fr:∀ b o,b≠x->H8 b=some o->H3 b=some o:=fun b o n e=>r3 b o n (r2 b o n (r1 b o n (r9 b o n e)));have sm:Same (Ua H8 x) H3:=fun b o h=>fr b o (out h).1 (out h).2
 have free:∀ p:Addr,(∀ o,p≠x->H8 p=some o->False)->Ua H8 x p=none:=fun p h=>by
  cases e:Ua H8 x p with
  | none=>rfl
  | some o=>exact (h o (out e).1 (out e).2).elim
 have c12:=r2 _ _ n1 a1;have c13:=r3 _ _ n1 c12;have c23:=r3 _ _ n2 a2;have bb:BB (Ua H8 x) H3 C CK A' ks d:=⟨x3,sm,ki8.out x8,free p1 fun o n e=>(by have:=r9 _ _ n e;rw [hp1] at this;cases this),free p2 fun o n e=>(by have:=r1 _ _ n (r9 _ _ n e);rw [hp2] at this;cases this),ZJ a1 hp2,Ne.symm n1,Ne.symm n2⟩;have bt:BT H3 A' [] [] ks []:=⟨c13,c23,rfl,HasL.nil,(fun y hy=>nomatch hy),Nat.le_refl _⟩;have hin:∀ {b:Addr}{o:HO},H b=some o->o≠ .ins C dx []->Ua H8 x b=some o:=fun {b o} h n=>MT (YM h hx n) (s8 _ _ h);have tl:TL H (Ua H8 x):=⟨fun b xs h=>hin h (by intro z;cases z),fun b xs h=>hin h (by intro z;cases z)⟩;refine ⟨_,_,x3,PK A',Ua H8 x,A',dl,zs,ks,c,d,ds,rfl,bb,bt,kk,k6,hin hdl (by intro z;cases z),HasL.tl tl _ hzs,d0,d8,wd,ho,fun H4 kv rv bb4 bt4=>?_⟩;have bd4:BD H4 C CK A' kv ks d ds:=⟨bb4.ins,bb4.so.mono bb4.sm,bt4.td,bt4.ke,bt4.va,wd.nd⟩;refine ⟨_,_,bb4.ins,PM A',A',kv,ks,c,d,ds,rfl,bd4,kg,kk,k6,ho,dok,fun H5 s5=>?_⟩;exact q H5 (fun b o n e=>s5 _ _ (bb4.sm _ _ (MT n (s8 _ _ e)))) ⟨A',kv,rv,rfl,bd4.mono s5,bt4.same s5⟩
end
end K4
namespace L2
open PySem
structure Tx(x:Str):Prop where
 len:x.length<=20
 asc:∀ c∈x.cps.toList,c < 128
section
variable{X:Cx}{E:XK}{x:Str}{C:Addr}
def Kg(t:TE):TE:=fun U H Q=>t U H fun v H1=> ∃ x,v= .str x/\Tx x/\∀ y,y.length<=1000->Q (.str y) H1
theorem II(hv:PE X v tv):PE X (.FormattedValue v 114 none pos) (Kg tv):=by
 intro pins s U H Q I h;refine wpAny_FormattedValue_repr (thn (hv pins s U H _ I h) fun u s1 ⟨y,H1,I1,r1,z,hz,hl,q⟩=>?_);subst hz;obtain ⟨tk,rfl⟩:=r1
 have hx:(reprText z).length<=1000:=by
  have e:=StrLaws.reprText_len z (fun c hc=>Nat.lt_of_lt_of_le (hl.asc c hc) (by decide));have:=hl.len;omega
 have hz:(reprText z).length<=sizeLine:=Nat.le_trans hx (by decide);refine pyReprObj_str (hx:=hz) (wpAny_formatField_str (hx:=hz) ?_ ?_)
 .exact ⟨.str (reprText z),H1,I1.tok _,⟨_,rfl⟩,q _ hx⟩
 .exact ⟨.str (reprText z),H1,(I1.tok _).tok _,⟨_,rfl⟩,q _ hx⟩
def Rb:List TE->St->Hp->(Hp->Prop)->Prop
 | [],_,H,R=>R H
 | t::ts,U,H,R=>t U H fun v H1=> ∃ x,v= .str x/\x.length<=1000/\Rb ts U H1 R
def WW(t:TE):Prop:= ∀ U H (Q Q':VK),(∀ v H',Q v H'->Q' v H')->t U H Q->t U H Q'
def FW(C:Addr)(E:XK)(ts:List TE):TS:=fun _ U H=>Rb ts U H fun H1=>E (.ref C) none H1
inductive PMs(X:Cx):List Expr->List TE->Prop where
 | nil:PMs X [] []
 | cons {e:Expr}{t:TE}{es:List Expr}{ts:List TE}:PE X e t->WW t->PMs X es ts->PMs X (e::es) (t::ts)
theorem PMs.pes(h:PMs X es ts):PEs X es ts:=by
 induction h with
 | nil=>exact .nil
 | cons a _ _ ih=>exact .cons a ih
theorem MR(h:PMs X es ts):∀ (acc:Str) (k:Nat) (U:St) (H:Hp) (R:Hp->Prop),acc.length<=1000 * k->k + ts.length<=10->Rb ts U H R->Wg ts acc U H fun _ H1=>R H1:=by
 induction h with
 | nil=>intro acc k U H R _ _ q;exact q
 | cons a m _ ih=>
  intro acc k U H R ha hk q;rw [List.length_cons] at hk;refine m U H _ _ (fun v H1 ⟨x,hx,lx,r⟩=>⟨x,hx,?_,ih (acc++ x) (k + 1) U H1 R ?_ (by omega) r⟩) q
  .rw [strLen_append]
   have:(10000:Nat)<=sizeLine:=by decide
   have:1000 * k<=9000:=by omega
   omega
  .rw [strLen_append];omega
theorem N0(hl:FI X E)(hex:X.ex= [])(hc:X.calm=true)(hg:Gl X x)(hm:X.mg x=some (.ref C))(hC:IsX X.K C)(hp:PMs X (v1::v2::vs) ts)(hn:ts.length<=10:=by simp)(hdb:(x==("__debug__" :Str))=false:=by decide):PS X (.Raise (some (.Call (.Name x np) [.JoinedStr (v1::v2::vs) jp] [] cpos)) none pos) (FW C E ts):=by
 intro pins s U H D I h;refine Dj hl hex hc hg hm hC (ZA (N2 hp.pes) ZE) hdb rfl rfl pins s U H D I ?_;have q:=MR hp Str.empty 0 U H _ (by decide) (by omega) h
 have mono:∀ (ts:List TE) (acc:Str),(∀ t∈ts,WW t)->∀ U H (Q Q':VK),(∀ v H',Q v H'->Q' v H')->Wg ts acc U H Q->Wg ts acc U H Q':=by
  intro ts
  induction ts with
  | nil=>intro acc _ U H Q Q' k q;exact k _ _ q
  | cons t ts ih=>intro acc hm U H Q Q' k q;exact hm t (List.mem_cons_self ..) U H _ _ (fun v H1 ⟨x,e,l,r⟩=>⟨x,e,l,ih (acc++ x) (fun t' ht'=>hm t' (List.mem_cons_of_mem _ ht')) U H1 Q Q' k r⟩) q
 have all:∀ {es:List Expr}{ts:List TE},PMs X es ts->∀ t∈ts,WW t:=by
  intro es ts h
  induction h with
  | nil=>intro t ht;cases ht
  | cons a m _ ih=>
   intro t ht;rcases List.mem_cons.mp ht with rfl | ht
   .exact m
   .exact ih t ht
 refine mono ts Str.empty (all hp) U H _ _ (fun v H1 r=>?_) q;exact ⟨sl 1,r⟩
theorem O9(v:V):WW (tC v):=fun U H Q Q' k q=>k _ _ q
theorem Lj(i:Nat):WW (UF i):=fun U H Q Q' k q=>by
 obtain ⟨v,e,q⟩:=RX.old q;show RX U[i]? _;rw [e];exact k _ _ q
theorem Ij(m:WW t):WW (Kg t):=fun U H Q Q' k q=>m U H _ _ (fun v H1 ⟨x,e,t,r⟩=>⟨x,e,t,fun y hy=>k _ _ (r y hy)⟩) q
end
theorem ZN.calm(F:ZN P w K mg base (CX1 P w) k f fd ps sp)(h:∀ vs H Q E,sp' vs H Q E->sp vs H Q E0):ZN P w K mg base CX0 k f fd ps sp':=
 ⟨fun vs H Q E q=>F.len _ _ _ _ (h _ _ _ _ q),fun A outer s H args us vs Q E hr he hb hv hs=>codeAny_mono (F.run A outer s H args us vs Q E0 hr he hb hv (h _ _ _ _ hs)) fun r s' q=>by
  cases r with
  | error e=>obtain ⟨_,_,_,_,_,_,_,_,_,_,z⟩:=q;exact z.elim
  | ok fl=>cases fl <;> exact q⟩
def Nl(N:Addr)(ds:List Dd)(y:Str)(H:Hp)(E:XK)(R:Dd->Prop):Prop:=(∃ x∈ds,x.1.1=y/\R x) \/ (y ∉ (ds.map fun x=>x.1.1)/\Tx y/\∀ H',Same H H'->E (.ref N) none H')
def FE(ks:List (Str × Shp))(x:Dd):Nat->Dat
 | 0=>psD x.1.2.1
 | 1=> .str x.1.2.2
 | 2=>x.2.dat
 | _=> .lst ((Y8 ks x.1.2.1).map V9)
end L2
namespace K4
open PySem L2
section
variable{f g C CK N:Addr}
def JI(C CK N:Addr):Sp:=fun vs H Q E=> ∃ (t:Addr) (ks:List (Str × Shp)) (d:Str->Nat) (ds:List Dd) (y:Str),vs= [.ref t, .str y]/\BI H C CK t ks d ds/\Nl N ds y H E fun x=> ∀ v,Has H v (Jb x)->Q v H
theorem Du(B:Blt mg)(T:BCl K C)(mN:mg "NoAsking" =some (.ref N))(cN:IsX K N)(F:Fun K "told_of" "Book.told_of" ME f fd):ZN P w K mg base (CX1 P w) (n + 1) f fd ["self","F"] (JI C CK N):=by
 refine F.okX Fk (fun vs H Q E h=>?_) (fun cdv A outer s H vs Q E hr h=>?_)
 .obtain ⟨t,ks,d,ds,x,rfl,_⟩:=h
  rfl
 obtain ⟨t,ks,d,ds,y,rfl,⟨A',kv,rfl,b⟩,q⟩:=h;have hu:=Yg hr;refine ⟨_,ZC (Zh (PW.pt (Vm (Yk (YN (VD rfl B.isi rfl B.str J9 (pv 1)))) (VO (V0 (Jz hu (pv 1) (Zt (pv 0) rfl)))))) (ZH (N0 J3 rfl rfl rfl mN cN (.cons Zf (O9 _) (.cons (II (pv 1)) (Ij (Lj _)) .nil)))) ZU)
  (ZH (ZW (Ze hu (Zt (pv 0) rfl) (pv 1) (fun _ _=>rfl)))),?_⟩
 refine ⟨_,_,_,_,rfl, .str _,RD K "str",_,rfl,Zk (by simp) ?_⟩;rcases q with ⟨x,hx,rfl,q⟩ | ⟨nx,tx,q⟩
 .obtain ⟨v,h1,h2⟩:=b.at hx
  refine ⟨C,_,_,_,b.ins,T.cl,T.td,Mj _,_,h1,_,rfl,Zk (by simp) ?_⟩;exact ⟨C,_,_,_,b.ins,T.cl,T.td,Mj _,v,h1,q v h2⟩
 .have nk:Zp kv (Sum.inr y)=none:=US (by
   rw [b.ke];intro z;obtain ⟨q1,hq1,e1⟩:=List.mem_map.mp z;exact nx (List.mem_map.mpr ⟨q1,hq1,Sum.inr.inj e1⟩))
  refine ⟨C,_,_,_,b.ins,T.cl,T.td,Mj _,_,(show Zz H A'.td (.str y) none by rw [<-nk];exact Zz.k (k:=Sum.inr y) b.td),_,rfl,Yb (by simp) ?_⟩;exact ⟨_,rfl,by decide,y,rfl,tx,fun z hz=>⟨z,rfl,hz,q H (Same.refl _)⟩⟩
def Vz(C CK N:Addr)(i:Nat):Sp:=fun vs H Q E=> ∃ (t:Addr) (ks:List (Str × Shp)) (d:Str->Nat) (ds:List Dd) (y:Str),vs= [.ref t, .str y]/\BI H C CK t ks d ds/\Nl N ds y H E fun x=> ∀ v,Has H v (FE ks x i)->Q v H
theorem TD{n i:Nat}(hi:i < 3)(S:ZX ["self","F"] ["self","F"] (ZL st))(F:Fun K x q st f fd)(hp:∀ (cdv:Value) (A:Around) (outer:List Env) (s:Shared) (H:Hp) (E:XK),Ya n (A.deeper (PyProof.Rows.envOfC q (ZL st) s.heap.objs.size f cdv))->PSs (Ys (CX1 P w) P w K mg base ["self","F"] q (ZL st) f cdv A outer s H E) (VI st) (OD (tOp (UY K) (M4 C "told_of" (JI C CK N) [] E (UF 0) (Ve (UF 1) W9)) (tC (.int i))))):
  ZN P w K mg base (CX1 P w) (n + 1) f fd ["self","F"] (Vz C CK N i):=by
 refine F.okX S (fun vs H Q E h=>?_) (fun cdv A outer s H vs Q E hr h=>?_)
 .obtain ⟨t,ks,d,ds,x,rfl,_⟩:=h
  rfl
 obtain ⟨t,ks,d,ds,y,rfl,b,qq⟩:=h;obtain ⟨A',kv,rfl,b'⟩:=id b;refine ⟨_,hp cdv A outer s H E hr,?_⟩;refine ⟨_,_,b'.ins,Oh _,A'.t,ks,d,ds,y,rfl,b,qq.imp (fun ⟨x,hx,e,qx⟩=>⟨x,hx,e,fun v hv=>?_⟩) id⟩;obtain ⟨a,u,w',rfl,ha,hu,hw⟩:=RI hv;have:i=0 \/ i=1 \/ i=2:=by omega
 rcases this with rfl | rfl | rfl
 .exact ⟨_,_,SqT.of ha,rfl,qx u hu⟩
 .exact ⟨_,_,SqT.of ha,rfl,qx _ YG⟩
 .exact ⟨_,_,SqT.of ha,rfl,qx w' hw⟩
theorem D2(T:BCl K C)(F:Fun K "parameters" "Book.parameters" MH f fd)(m:Yc K C "told_of" g)(G:ZN P w K mg base (CX1 P w) n g gd ["self","F"] (JI C CK N))(bG:Binds K gd ["self","F"] []):ZN P w K mg base (CX1 P w) (n + 1) f fd ["self","F"] (Vz C CK N 0):=
 TD (by decide) LI F fun cdv A outer s H E hr=>ZH (ZW (ZY Za (YA (pv 0) T.cl m G hr bG .nil (J3.passes rfl) (ZA (pv 1) ZE)) ZG))
theorem EC(T:BCl K C)(F:Fun K "kind_of" "Book.kind_of" MI f fd)(m:Yc K C "told_of" g)(G:ZN P w K mg base (CX1 P w) n g gd ["self","F"] (JI C CK N))(bG:Binds K gd ["self","F"] []):ZN P w K mg base (CX1 P w) (n + 1) f fd ["self","F"] (Vz C CK N 1):=
 TD (by decide) Fe F fun cdv A outer s H E hr=>ZH (ZW (ZY Za (YA (pv 0) T.cl m G hr bG .nil (J3.passes rfl) (ZA (pv 1) ZE)) ZG))
theorem EG(T:BCl K C)(F:Fun K "body_of" "Book.body_of" ML f fd)(m:Yc K C "told_of" g)(G:ZN P w K mg base (CX1 P w) n g gd ["self","F"] (JI C CK N))(bG:Binds K gd ["self","F"] []):ZN P w K mg base (CX1 P w) (n + 1) f fd ["self","F"] (Vz C CK N 2):=
 TD (by decide) Fj F fun cdv A outer s H E hr=>ZH (ZW (ZY Za (YA (pv 0) T.cl m G hr bG .nil (J3.passes rfl) (ZA (pv 1) ZE)) ZG))
theorem B3:ZX ["self","F"] ["self","F"] (ZL MG):=Zl
def Xu(C CK N:Addr):Sp:=fun vs H Q E=> ∃ (t:Addr) (ks:List (Str × Shp)) (d:Str->Nat) (ds:List Dd) (y:Str),vs= [.ref t, .str y]/\BJ H C CK t ks d ds/\Nl N ds y H E fun x=> ∀ l H',Same H H'->H l=none->Has H' (.ref l) (FE ks x 3)->Q (.ref l) H'
theorem N6(B:Blt mg)(T:BCl K C)(F:Fun K "rows_of" "Book.rows_of" MG f fd)(m:Yc K C "told_of" g)(G:ZN P w K mg base (CX1 P w) n g gd ["self","F"] (JI C CK N))(bG:Binds K gd ["self","F"] []):ZN P w K mg base (CX1 P w) (n + 1) f fd ["self","F"] (Xu C CK N):=by
 refine F.okX B3 (fun vs H Q E h=>?_) (fun cdv A outer s H vs Q E hr h=>?_)
 .obtain ⟨t,ks,d,ds,x,rfl,_⟩:=h
  rfl
 obtain ⟨t,ks,d,ds,y,rfl,b,qq⟩:=h;have hu:=Yg hr;obtain ⟨A',kv,rv,rfl,b',bt⟩:=id b;refine ⟨_,ZC (YC (YA (pv 0) T.cl m G hr bG .nil (J3.passes rfl) (ZA (pv 1) ZE)))
  (ZH (ZW (Zo YY rfl B.list YF (ZA (Ze hu (Zt (pv 0) rfl) (pv 1) (fun _ _=>rfl)) ZE)))),?_⟩
 show let a:=_;ZQ _ a _ _ _
 intros
 refine ⟨_,_,b'.ins,Oh _,A'.t,ks,d,ds,y,rfl,b.bi,qq.imp (fun ⟨x,hx,e,qx⟩=>⟨x,hx,e,fun v hv=>?_⟩) id⟩;subst e;obtain ⟨l,xs,h1,h2,h3⟩:=bt.ro x hx;refine ⟨C,_,_,_,b'.ins,T.cl,T.rd,Oi _,_,by rw [<-h1];exact Zz.k (k:=Sum.inr x.1.1) bt.rd,l,xs,rfl, .inl (SqL.of h2),fun r hr'=>?_⟩;have s1:=ZF hr' (.lst xs);exact qx r _ s1 hr' (Zx ZD (h3.mono s1))
theorem Fn:ZX ["book","way","f"] ["book","way","f"] (ZL Gv):=Zl
def UV(C CK N:Addr):Sp:=fun vs H Q E=> ∃ (t:Addr) (ks:List (Str × Shp)) (d:Str->Nat) (ds:List Dd) (y:Str) (i:Nat),vs= [.ref t, .int i, .str y]/\BJ H C CK t ks d ds/\i < 4/\Nl N ds y H E fun x=> ∀ v H',Same H H'->Has H' v (FE ks x i)->(i=3->∃ l,v= .ref l/\H l=none)->Q v H'
theorem EK(T:BCl K C)(F:Fun K "_law_asked" "_law_asked" Gv f fd)(m0:Yc K C "parameters" g0)(G0:ZN P w K mg base (CX1 P w) n g0 d0 ["self","F"] (Vz C CK N 0))(b0:Binds K d0 ["self","F"] [])(m1:Yc K C "kind_of" g1)(G1:ZN P w K mg base (CX1 P w) n g1 d1 ["self","F"] (Vz C CK N 1))(b1:Binds K d1 ["self","F"] [])(m2:Yc K C "body_of" g2)(G2:ZN P w K mg base (CX1 P w) n g2 d2 ["self","F"] (Vz C CK N 2))(b2:Binds K d2 ["self","F"] [])(m3:Yc K C "rows_of" g3)(G3:ZN P w K mg base (CX1 P w) n g3 d3 ["self","F"] (Xu C CK N))(b3:Binds K d3 ["self","F"] []):ZN P w K mg base (CX1 P w) (n + 1) f fd ["book","way","f"] (UV C CK N):=by
 refine F.okX Fn (fun vs H Q E h=>?_) (fun cdv A outer s H vs Q E hr h=>?_)
 .obtain ⟨t,ks,d,ds,y,i,rfl,_⟩:=h
  rfl
 obtain ⟨t,ks,d,ds,y,i,rfl,b,i4,qq⟩:=h;obtain ⟨A',kv,rv,rfl,b',_⟩:=id b;have ps:V4 (CX1 P w) (Ys (CX1 P w) P w K mg base ["book","way","f"] "_law_asked" (ZL Gv) f cdv A outer s H E) E:=J3.passes rfl;refine ⟨_,ZC (Zh (ZV YL (pv 1) ZG (Zb _)) (ZH (ZW (YA (pv 0) T.cl m0 G0 hr b0 .nil ps (ZA (pv 2) ZE)))) ZU)
  (ZC (Zh (ZV YL (pv 1) ZG (Zb _)) (ZH (ZW (YA (pv 0) T.cl m1 G1 hr b1 .nil ps (ZA (pv 2) ZE)))) ZU)
  (ZC (Zh (ZV YL (pv 1) ZG (Zb _)) (ZH (ZW (YA (pv 0) T.cl m2 G2 hr b2 .nil ps (ZA (pv 2) ZE)))) ZU)
  (ZH (ZW (YA (pv 0) T.cl m3 G3 hr b3 .nil ps (ZA (pv 2) ZE)))))),?_⟩
 show let a:=_;let b:=_;let c:=ZQ (Zw _ b _) a;let d:=_;let e:=ZQ (Zw _ d _) c;let f:=_;ZQ (Zw _ f _) e _ _ _
 intros
 have e:i=0 \/ i=1 \/ i=2 \/ i=3:=by omega
 rcases e with rfl | rfl | rfl | rfl
 .refine ⟨rfl,_,rfl,Yb (by simp) ?_⟩
  exact ⟨_,_,b'.ins,rfl,A'.t,ks,d,ds,y,rfl,b.bi,qq.imp (fun ⟨x,hx,e,qx⟩=>⟨x,hx,e,fun v hv=>qx v H (Same.refl _) hv (fun z=>nomatch z)⟩) id⟩
 .refine ⟨rfl,_,rfl,Zk (by simp) ?_⟩
  refine ⟨rfl,_,rfl,Yb (by simp) ?_⟩;exact ⟨_,_,b'.ins,rfl,A'.t,ks,d,ds,y,rfl,b.bi,qq.imp (fun ⟨x,hx,e,qx⟩=>⟨x,hx,e,fun v hv=>qx v H (Same.refl _) hv (fun z=>nomatch z)⟩) id⟩
 .refine ⟨rfl,_,rfl,Zk (by simp) ?_⟩
  refine ⟨rfl,_,rfl,Zk (by simp) ?_⟩;refine ⟨rfl,_,rfl,Yb (by simp) ?_⟩;exact ⟨_,_,b'.ins,rfl,A'.t,ks,d,ds,y,rfl,b.bi,qq.imp (fun ⟨x,hx,e,qx⟩=>⟨x,hx,e,fun v hv=>qx v H (Same.refl _) hv (fun z=>nomatch z)⟩) id⟩
 .refine ⟨rfl,_,rfl,Zk (by simp) ?_⟩
  refine ⟨rfl,_,rfl,Zk (by simp) ?_⟩;refine ⟨rfl,_,rfl,Zk (by simp) ?_⟩;exact ⟨_,_,b'.ins,rfl,A'.t,ks,d,ds,y,rfl,b,qq.imp (fun ⟨x,hx,e,qx⟩=>⟨x,hx,e,fun l H' s' fl hv=>qx _ H' s' hv fun _=>⟨l,rfl,fl⟩⟩) id⟩
end
end K4
namespace L2
open PySem
theorem JM(hg:Gl X x)(hm:X.mg x=some (.ref C))(hd:(x==("__debug__" :Str))=false:=by decide):PE X (.Name x pos) (tC (.ref C)):=Y3 (v:= .ref C) hg hm rfl hd
structure XC(K:W.Frag)(mg:Str->Option Value)(aW c1 c2 c3 c4 c5 c6 c7 c8 aN:Addr):Prop where
 mW:mg "WantError" =some (.ref aW)
 m1:mg "Falling" =some (.ref c1)
 m2:mg "NoBook" =some (.ref c2)
 m3:mg "NoCell" =some (.ref c3)
 m4:mg "NoKinds" =some (.ref c4)
 m5:mg "NoMore" =some (.ref c5)
 m6:mg "NoNote" =some (.ref c6)
 m7:mg "NoRows" =some (.ref c7)
 m8:mg "Torn" =some (.ref c8)
 mN:mg "NoAsking" =some (.ref aN)
 mV:mg "ValueError" =none
 hand:Ky K aW
 exc:W.ExcC K aN
 isx:IsX K aN
 sub:W.subIn K (.ref aN) (.ref aW)=some true
 k1:W.kitAny K (.ref aN) ([c1,c2,c3,c4,c5,c6,c7,c8].map Value.ref)=some false
 k3:W.kitOne K (.ref aN) (.ref aN)=some true
 k4:W.kitOne K (.ref aN) (.type "ValueError")=some true
end L2
namespace K4
open PySem L2
section
variable{f g C CK aW c1 c2 c3 c4 c5 c6 c7 c8 aN:Addr}
def Up(C CK:Addr):Sp:=fun vs H Q _=> ∃ (t:Addr) (ks:List (Str × Shp)) (d:Str->Nat) (ds:List Dd) (y:Str) (i:Nat),vs= [.ref t, .int i, .str y]/\BJ H C CK t ks d ds/\i < 4/\y ∉ (ds.map fun x=>x.1.1)/\Tx y/\∀ H',Same H H'->Q (.bl true) H'
theorem Tv:ZX ["book","way","f","marks","e","others"] ["book","way","f"] (ZL X5):=Zl
theorem MV(hn:2<=n)(B:Blt mg)(XX:XC K mg aW c1 c2 c3 c4 c5 c6 c7 c8 aN)(F:Fun K "_law_refused" "_law_refused" X5 f fd)(GA:ZN P w K mg base (CX1 P w) n g gd ["book","way","f"] (UV C CK aN))(bA:Binds K gd ["book","way","f"] [])(kA:W.keepIn K (.ref g)=true)(mA:mg "_law_asked" =some (.ref g)):
  ZN P w K mg base CX0 (n + 1) f fd ["book","way","f"] (Up C CK):=by
 refine F.ok Tv (fun vs H Q E h=>?_) (fun cdv A outer s H vs Q E hr h=>?_)
 .obtain ⟨t,ks,d,ds,y,i,rfl,_⟩:=h
  rfl
 obtain ⟨t,ks,d,ds,y,i,rfl,bj,i4,ny,tx,q⟩:=h;have hr2:Ya (1 + 1) _:=hr.mono hn;refine ⟨_,ZC (ZZ 3 Tv.nd (Z8 ZE))
  (ZC (LT (i:=4) rfl rfl Tv.nd rfl rfl rfl XX.mW XX.hand (tb:=fun EX=>Kh (Bt (UV C CK aN) [] EX (Ve (UF 0) (Ve (UF 1) (Ve (UF 2) W9)))))
    (fun EX pn W hp=>ZH (YC (Dq GA hr rfl mA kA bA .nil hp (ZA (pv 0) (ZA (pv 1) (ZA (pv 2) ZE))))))
    (fun A'=>ZC (ZZ 5 Tv.nd (Zj (r:=NI K) U8 rfl B.isi UA (ZA (pv 4) (ZA (Zs (ZA (JM rfl XX.m1) (ZA (JM rfl XX.m2) (ZA (JM rfl XX.m3) (ZA (JM rfl XX.m4) (ZA (JM rfl XX.m5) (ZA (JM rfl XX.m6) (ZA (JM rfl XX.m7) (ZA (JM rfl XX.m8) ZE))))))))) ZE))))
     (ZH (ZZ 3 Tv.nd (Z8 (ZA (Zj (r:=NI K) U8 rfl B.isi UA (ZA (pv 4) (ZA (JM rfl XX.mN) ZE))) (ZA (Zj (r:=NI K) U8 rfl B.isi UA (ZA (pv 4) (ZA (NM (v:= .ty "ValueError") rfl XX.mV PyProof.Rows.Boot.«ValueError» rfl) ZE))) (ZA (pv 5) ZE))))))))
  (ZH (ZW (Y4 (G9 hr2) (pv 3) (Z8 (ZA UB (ZA UB (ZA UB ZE)))) (Zb _))))),?_⟩
 dsimp only [Ys,Cx.nox,Cx.wish];refine ⟨sl 0,fun ml fml=>?_⟩;have s2:=ZF fml (.lst []);generalize upd H ml (.lst [])=H2 at s2 |-;refine ⟨t,ks,d,ds,y,i,rfl,bj.mono s2,i4, .inr ⟨ny,tx,fun H8 s8=>?_⟩⟩;refine ⟨aN,rfl,XX.sub,(fun d z=>nomatch z),fun ea hea=>?_⟩;have sE:=ZF hea (Uh ea aN none);have cE:Tg (upd H8 ea (Uh ea aN none)) ea aN none:=⟨ZD,fun d z=>nomatch z⟩;generalize upd H8 ea (Uh ea aN none)=HE at sE cE |-;refine ⟨sl 8,fun t1 ht1=>?_⟩;have sT:=ZF ht1 (.tup [.ref c1, .ref c2, .ref c3, .ref c4, .ref c5, .ref c6, .ref c7, .ref c8]);refine ⟨ea,aN,none, .ref t1,false,rfl,⟨sT _ _ cE.at_,fun d z=>nomatch z⟩,XX.exc, .inl ⟨t1, [c1,c2,c3,c4,c5,c6,c7,c8],rfl,ZD,XX.k1⟩,?_⟩;generalize upd HE t1 (.tup [.ref c1, .ref c2, .ref c3, .ref c4, .ref c5, .ref c6, .ref c7, .ref c8])=HU at sT |-;have cU:Tg HU ea aN none:=⟨sT _ _ cE.at_,fun d z=>nomatch z⟩;refine ⟨ea,aN,none, .ref aN,true,rfl,cU,XX.exc, .inr (.inl ⟨aN,rfl,XX.k3⟩),?_⟩;refine ⟨ea,aN,none, .ty "ValueError",true,rfl,cU,XX.exc, .inr (.inr ⟨"ValueError",rfl,XX.k4⟩),?_⟩;refine ⟨sl 3,fun l3 hl3=>?_⟩;have s3:=ZF hl3 (.lst [.bl true, .bl true, .bl false]);have g3:upd HU l3 (.lst [.bl true, .bl true, .bl false]) l3=some (.lst [.bl true, .bl true, .bl false]):=ZD;have s4:=((s8.trans sE).trans sT).trans s3;generalize upd HU l3 (.lst [.bl true, .bl true, .bl false])=HV at s4 g3 |-;refine ⟨sl 3,fun l4 hl4=>?_⟩;have s5:=ZF hl4 (.lst [.bl true, .bl true, .bl false]);have hb:∀ H,HasL H [.bl true, .bl true, .bl false] [.bl true, .bl true, .bl false]:=fun H=>HasL.cons (by unfold Has;rfl) (HasL.cons (by unfold Has;rfl) (HasL.one (by unfold Has;rfl)));refine ⟨.lst [.bl true, .bl true, .bl false], .lst [.bl true, .bl true, .bl false],Zx (s5 _ _ g3) (hb _),Zx ZD (hb _),by decide +kernel,?_⟩;rw [Dat.pq_self];exact q _ ((s2.trans s4).trans s5)
end
theorem Jh:ZX ["shapes","kind","shape","found","one"] ["shapes","kind"] (ZL Xf):=Zl
theorem OY:List.Nodup [("other" :Str),"one"]:=by decide +kernel
section
def VY(n:Nat):Sp:=fun vs H Q _=> ∃ (a:Addr) (y:Str) (ks:List (Str × Shp)) (top:Nat) (c d:Str->Nat),vs= [.ref a, .str y]/\WU H a ks/\KK top c d ks/\top<=30/\y∈ks.map (·.1)/\d y < n/\d y < 3/\
 ∀ (r:Addr) (H':Hp),Same H H'->H r=none->Has H' (.ref r) (.lst ((Zd ks 3 y).map W.dat))->Q (.ref r) H'
theorem N5(B:Blt mg)(F:Fun K "_law_worths" "_law_worths" Xf f fd)(G:ZN P w K mg base CX0 n f fd ["shapes","kind"] (VY n))(bG:Binds K fd ["shapes","kind"] [])(mG:mg "_law_worths" =some (.ref f)):
  ZN P w K mg base CX0 (n + 1) f fd ["shapes","kind"] (VY (n + 1)):=by
 refine F.ok Jh (fun vs H Q E h=>?_) (fun cdv A outer s H vs Q E hr h=>?_)
 .obtain ⟨a,y,ks,top,c,d,rfl,_⟩:=h
  rfl
 obtain ⟨a,y,ks,top,c,d,rfl,hs,kk,t30,hy,dn,d3,q⟩:=h;have hu:=Yg hr;refine ⟨_,ZC (ZZ 2 Jh.nd (Ze hu (pv 0) (pv 1) (fun _ _=>rfl)))
  (ZC (Zh (ZV YL (ZY Za (pv 2) ZG) Zf (Zb _)) (ZH (ZW (Zi JN (Z8 (ZA VP ZE)) (Zo YY rfl B.list YF (ZA (ZY Za (pv 2) ZG) ZE))))) ZU)
  (ZC (ZZ 3 Jh.nd (Z8 (ZA VP ZE)))
  (ZC (YO PassesOwn.never rfl (Z6 (ZM G hr rfl mG F.kp bG .nil ZT (ZA (pv 0) (ZA (ZY Za (pv 2) ZG) ZE)))) (ZO 4 Jh.nd rfl (Or.inr rfl) (Or.inl rfl))
   (ZH (ZZ 3 Jh.nd (Zi JN (pv 3) (Yd ["other"] [4] (Z6 (ZM G hr rfl mG F.kp bG .nil ZT (ZA (pv 0) (ZA (ZY Za (pv 2) ZG) ZE)))) (YI (i:=0) (by decide))
    (fun cl C fp s H=>ZO 0 OY rfl (Or.inl rfl) (Or.inr rfl)) (fun cl C fp s H=>Zs (ZA (pv 1) (ZA (pv 0) ZE))))))))
  (ZH (ZW (pv 3)))))),?_⟩
 show let a:=_;let b:=_;let c:=ZQ (VX _ _ b) a;let d:=ZQ _ c;let e:=_;let f:=ZQ (Zw _ e _) d;ZQ _ f _ _ _
 intros
 obtain ⟨sh,hsh⟩:=Yj hy;obtain ⟨kvs,hk,_,hg⟩:=id hs;obtain ⟨v,hv,hd⟩:=hg y sh hsh;have k1:=kk.at hsh;obtain ⟨wl,w0,wdp⟩:=Yx kk 3 y hy d3;have gy:Zz H a (.str y) (some v):=by rw [<-hv];exact .inl ⟨kvs,Sum.inr y,hk,rfl,rfl⟩
 refine ⟨v,gy,?_⟩;have ew:Zd ks 3 y=wOf ks 2 sh:=V5 hsh
 cases sh with
 | tags ts=>
  obtain ⟨p,l,rfl,hp,hl⟩:=Va hd;refine ⟨_,_,SqT.of hp,rfl,rfl,_,rfl,Yb (by decide +kernel) ?_⟩;obtain ⟨g1,g2,_⟩:=k1;refine ⟨sl 1,fun t1 ht1=>?_⟩;have s1:=ZF ht1 (.lst [V.non]);refine ⟨_,_,SqT.of (s1 _ _ hp),rfl,l,_,rfl, .inr (SqT.of (s1 _ _ hl)),fun t2 ht2=>?_⟩;have s2:=ZF ht2 (.lst (ts.map V.str));refine ⟨t1,t2,_,_,rfl,rfl,s2 _ _ ZD,ZD,?_,fun t3 ht3=>?_⟩
  .rw [List.length_map]
   exact Nat.le_of_lt (ZK (by simp only [List.length_singleton];omega))
  .refine q t3 _ ((s1.trans s2).trans (ZF ht3 _)) ((s1.trans s2).free ht3) (Zx ZD ?_)
   rw [ew];exact HasL.cons Xl (Xs ts)
 | pair e g=>
  obtain ⟨p,rfl,hp⟩:=Y5 hd;refine ⟨_,_,SqT.of hp,rfl,rfl,_,rfl,Zk (by decide +kernel) ?_⟩;obtain ⟨h1,h2,h3,h4,h5,h6⟩:=k1;have m1:=Nat.le_max_left (d e) (d g);have m2:=Nat.le_max_right (d e) (d g);have ee:Zd ks 2 e=Zd ks 3 e:=Y7 kk 2 3 e h1 (by omega) (by omega);have eg:Zd ks 2 g=Zd ks 3 g:=Y7 kk 2 3 g h2 (by omega) (by omega);obtain ⟨le,pe,_⟩:=Yx kk 3 e h1 (by omega);obtain ⟨lg,pg,_⟩:=Yx kk 3 g h2 (by omega);refine ⟨sl 1,fun fl hfl=>?_⟩;have s0:=ZF hfl (.lst [V.non]);refine ⟨_,_,SqT.of (s0 _ _ hp),rfl,a,e,ks,top,c,d,rfl,hs.mono s0,kk,t30,h1,by omega,by omega,fun r1 H1 s1 f1 u1=>?_⟩;obtain ⟨_,xs,er,hx,hxl⟩:=JT u1;cases er;have lx:=hxl.length;rw [List.length_map] at lx;have sH:=s0.trans s1;refine ⟨⟨_,SqL.of hx⟩,?_⟩
  let I:Nat->St->Hp->Prop:=fun i U H'=>Same H1 H'/\∃ (fl':Addr) (zs:List V) (z:Option V),U= [some (.ref a),some (.str y),some (.ref p),some (.ref fl'),z]/\H fl'=none/\H' fl'=some (.lst zs)/\i<=xs.length/\
   HasL H' zs ((W.non::((Zd ks 3 e).take i).flatMap fun u=>(Zd ks 3 g).map fun v=>W.pair u v).map W.dat)
  refine Vg (xs:=xs) I ?_ ?_ ?_ ?_
  .refine ⟨Same.refl _,fl, [.non],_,rfl,hfl,s1 _ _ ZD,Nat.zero_le _,?_⟩
   rw [List.take_zero];exact HasL.one Xl
  .rintro i U H' _ ⟨z1,_⟩
   exact SqL.of (z1 _ _ hx)
  .rintro BB RR i x U H' hxi ⟨z1,fl',zs,z,rfl,zf,hz,hi,hzl⟩
   obtain ⟨dx,hdx,hhx⟩:=hxl.get hxi;rw [List.getElem?_map] at hdx
   cases hu1:(Zd ks 3 e)[i]? with
   | none=>rw [hu1] at hdx;cases hdx
   | some u=>
    rw [hu1] at hdx;cases hdx;have hilt:i < xs.length:=(List.getElem?_eq_some_iff.mp hxi).1;have sP:=sH.trans z1;refine ⟨_,_,SqT.of (sP _ _ hp),rfl,a,g,ks,top,c,d,rfl,hs.mono sP,kk,t30,h2,by omega,by omega,fun r2 H2 s2 f2 u2=>?_⟩;obtain ⟨_,ws,er,hw,hwl⟩:=JT u2;cases er;have lw:=hwl.length;rw [List.length_map] at lw;refine ⟨⟨_,SqL.of hw⟩,?_⟩
    have lim:1 + (i + 1) * c g<=30:=by
     have:(i + 1) * c g<=c e * c g:=Nat.mul_le_mul_right _ (by omega);omega
    have lg30:c g<=30:=by
     have:1 * c g<=(i + 1) * c g:=Nat.mul_le_mul_right _ (by omega);omega
    have lz:zs.length=1 + i * c g:=by
     have:=hzl.length;rw [List.length_map,List.length_cons,WL _ (c g) _ (fun b _=>by rw [List.length_map,lg]),List.length_take] at this;rw [this,Nat.min_eq_left (by omega)];omega
    refine YE ws.length (ZK (by omega)) (fun m vs H3=>Same H2 H3/\vs.length=m/\HasL H3 vs ((((Zd ks 3 g).map fun v=>W.pair u v).map W.dat).take m)) ⟨Same.refl _,rfl,by rw [List.take_zero];exact HasL.nil⟩ (fun m vs H3 z=>z.2.1) ?_ ?_ ?_ ?_
    .intro m vs H3 hm zz
     exact ⟨ws,ws[m],SqL.of (zz.1 _ _ hw),by simp [hm]⟩
    .intro vs H3 zz
     exact ⟨ws,SqL.of (zz.1 _ _ hw),Nat.le_refl _⟩
    .intro m vs H3 x2 H4 R hm zz yl hR
     obtain ⟨rfl,yy⟩:=yl;obtain ⟨dz,hdz,hhz⟩:=hwl.get (yy ws (SqL.of (zz.1 _ _ hw)));rw [List.getElem?_map] at hdz
     cases hv1:(Zd ks 3 g)[m]? with
     | none=>rw [hv1] at hdz;cases hdz
     | some v1=>
      rw [hv1] at hdz;cases hdz;refine ⟨sl 2,fun t ht=>hR _ _ ?_⟩;have st:=ZF ht (.tup [x,x2]);refine ⟨zz.1.trans st,by rw [List.length_append,zz.2.1];rfl,?_⟩;have e2:(((Zd ks 3 g).map fun v=>W.pair u v).map W.dat)[m]?=some (W.pair u v1).dat:=by rw [List.getElem?_map,List.getElem?_map,hv1];rfl
      rw [take_snoc e2];refine HasL.append (zz.2.2.mono st) (HasL.one ?_);unfold W.dat Has;exact ⟨t,_,rfl,ZD,HasL.cons (hhx.mono (((z1.trans s2).trans zz.1).trans st)) (HasL.cons (hhz.mono (zz.1.trans st)) HasL.nil)⟩
    .intro vs H3 pl zz hpl
     have st:=ZF hpl (.lst vs);have z4:=zz.2.2;rw [List.take_of_length_le (by rw [List.length_map,List.length_map];omega)] at z4;have sz:=(s2.trans zz.1).trans st;refine ⟨fl',pl,zs,vs,rfl,rfl,sz _ _ hz,ZD,Nat.le_of_lt (ZK ?_),fun nl hnl=>?_⟩
     .rw [lz,zz.2.1,lw,lg]
      have:(i + 1) * c g=i * c g + c g:=Nat.succ_mul _ _;omega
     .have s9:=sz.trans (ZF hnl (.lst (zs++ vs)))
      refine ⟨z1.trans s9,nl,zs++ vs,_,rfl,((sP.trans sz).free hnl),ZD,hilt,?_⟩
      have ef:(W.non::((Zd ks 3 e).take (i + 1)).flatMap fun u=>(Zd ks 3 g).map fun v=>W.pair u v).map W.dat=(W.non::((Zd ks 3 e).take i).flatMap fun u=>(Zd ks 3 g).map fun v=>W.pair u v).map W.dat++ ((Zd ks 3 g).map fun v=>W.pair u v).map W.dat:=by
       rw [Wv _ hu1,<-List.cons_append,List.map_append]
      rw [ef];exact HasL.append (hzl.mono s9) (z4.mono (st.trans (ZF hnl _)))
  .rintro U H' ⟨z1,fl',zs,z,rfl,zf,hz,hi,hzl⟩
   refine q fl' H' (sH.trans z1) zf (Zx hz ?_);rw [List.take_of_length_le (by omega)] at hzl;rw [ew];show HasL H' zs ((W.non::(Zd ks 2 e).flatMap fun u=>(Zd ks 2 g).map fun v=>W.pair u v).map W.dat);rw [ee,eg];exact hzl
theorem Ti:ZN P w K mg base CX0 0 f fd ["shapes","kind"] (VY 0):=by
 have no:∀ vs H Q E,¬ VY 0 vs H Q E:=fun vs H Q E h=>by
  obtain ⟨a,y,ks,top,c,d,_,_,_,_,_,h1,_⟩:=h;omega
 exact ⟨fun vs H Q E h=>absurd h (no vs H Q E),fun A outer s H args us vs Q E _ _ _ _ h=>absurd h (no vs H Q E)⟩
theorem Wa(B:Blt mg)(F:Fun K "_law_worths" "_law_worths" Xf f fd)(bG:Binds K fd ["shapes","kind"] [])(mG:mg "_law_worths" =some (.ref f)):∀ n:Nat,ZN P w K mg base CX0 n f fd ["shapes","kind"] (VY n)
 | 0=>Ti
 | n + 1=>N5 B F (Wa B F bG mG n) bG mG
end
section
def GE:Sp:=fun vs H Q _=> ∃ (a:Addr) (v:V) (ks:List (Str × Shp)) (c d:Str->Nat) (ps:List (Str × Str)),vs= [.ref a,v]/\WU H a ks/\KK 30 c d ks/\Has H v (psD ps)/\(∀ p∈ps,p.2∈ks.map (·.1))/\ps.length<=3/\Ye c ps<=1000/\
 ∀ l H',Same H H'->H l=none->Has H' (.ref l) (.lst ((Y8 ks ps).map V9))->Q (.ref l) H'
theorem Vv:ZX ["shapes","parameters","rows","name","kind","longer","row"] ["shapes","parameters"] (ZL DG):=Zl
theorem OW:List.Nodup [("worth" :Str),"row"]:=by decide +kernel
theorem Dx(F:Fun K "_law_rows" "_law_rows" DG f fd)(DW:Df P w K mg base n "_law_worths" ["shapes","kind"] (VY 3)):ZN P w K mg base CX0 (n + 1) f fd ["shapes","parameters"] GE:=by
 obtain ⟨gw,wd',mW,kW,bW,GW⟩:=DW;refine F.ok Vv (fun vs H Q E h=>?_) (fun cdv A outer s H vs Q E hr h=>?_)
 .obtain ⟨a,v,ks,c,d,ps,rfl,_⟩:=h
  rfl
 obtain ⟨a,v,ks,c,d,ps,rfl,sh,kk,hv,pk,l3,top,q⟩:=h;unfold psD at hv;obtain ⟨pa,xs,rfl,hpa,hxs⟩:=Zn hv;have lx:=hxs.length;rw [List.length_map] at lx;refine ⟨_,ZC (ZZ 2 Vv.nd (Z8 (ZA (Zs ZE) ZE)))
  (ZC (YO PassesOwn.never rfl (Vc (pv 1)) (YR (n:=2) rfl (Zc (ZO 3 Vv.nd) (Zc (ZO 4 Vv.nd) Z9)))
   (ZC (ZZ 5 Vv.nd (Z8 ZE))
   (ZC (YO PassesOwn.never rfl (Z6 (pv 2)) (ZO 6 Vv.nd rfl (Or.inr rfl) (Or.inl rfl))
    (ZH (ZZ 5 Vv.nd (Zi JN (pv 5) (Yd ["worth"] [6] (Z6 (ZM GW hr rfl mW kW bW .nil ZT (ZA (pv 0) (ZA (pv 4) ZE)))) (YI (i:=0) (by decide))
     (fun cl C fp s H=>ZO 0 OW rfl (Or.inl rfl) (Or.inr rfl)) (fun cl C fp s H=>Zi (r:=fun x y H Q=>T1 K x y H Q \/ Tz K x y H Q) NP (pv 1) (Zs (ZA (pv 0) ZE))))))))
   (ZH (ZZ 2 Vv.nd (pv 5))))))
  (ZH (ZW (pv 2)))),?_⟩
 dsimp only [Ys,Cx.nox,Cx.wish];show let a:=_;let b:=_;let c:=_;let d:=ZQ (VX _ _ c) b;let e:=ZQ _ d;let f:=ZQ (VX _ _ e) a;ZQ _ f _ _ _
 intros
 refine ⟨sl 0,fun t0 ht0=>⟨sl 1,fun l0 hl0=>?_⟩⟩;have s1:=ZF ht0 (.tup []);have g1:upd H t0 (.tup []) t0=some (.tup []):=ZD;generalize upd H t0 (.tup [])=H1 at s1 g1 hl0 |-;have s2:=ZF hl0 (.lst [.ref t0]);have g2:upd H1 l0 (.lst [.ref t0]) l0=some (.lst [.ref t0]):=ZD;generalize upd H1 l0 (.lst [.ref t0])=H2 at s2 g2 |-;have s02:=s1.trans s2;refine ⟨⟨_,SqT.of (s02 _ _ hpa)⟩,?_⟩;refine UO (xs:=xs) (fun i U Hi=>Same H Hi/\∃ l ys z3 z4 z5 z6,H l=none/\Hi l=some (.lst ys)/\HasL Hi ys ((Y8 ks (ps.take i)).map V9)/\U= [some (.ref a),some (.ref pa),some (.ref l),z3,z4,z5,z6]) ⟨s02,l0,_,_,_,_,_,s1.free hl0,g2,HasL.one (Zr (s2 _ _ g1) HasL.nil),rfl⟩ (fun i U Hi _ z=>SqT.of (z.1 _ _ hpa)) ?_ ?_
 .rintro BB RR i x U Hi hx ⟨si,l,ys,z3,z4,z5,z6,fl,hl,hy,rfl⟩
  obtain ⟨p,t,hp,rfl,ht⟩:=G7 hxs hx;have hk:=pk p (List.mem_of_getElem? hp);obtain ⟨c1,c2⟩:=kk.c0 hk;have dk:=kk.small hk;have i3:=(List.getElem?_eq_some_iff.mp hp).1;have lR:=Jy kk (ps.take i) fun p hp=>pk p (List.mem_of_mem_take hp);have rl:=UI (ks:=ks) (ps.take i);have le:=(UJ (c:=c) (ps:=ps) (fun p hp=>(kk.c0 (pk p hp)).2) (i + 1)).1;have eR:Y8 ks (ps.take (i + 1))=(Y8 ks (ps.take i)).flatMap fun r=>(Zd ks 3 p.2).map fun u=>r++ [u]:=by rw [take_snoc hp,X9]
  rw [take_snoc hp,JK,<-lR,<-c1] at le;rw [eR];have ly:=hy.length;rw [List.length_map] at ly;rw [List.length_take] at rl;generalize Y8 ks (ps.take i)=R at lR rl le hy ly |-;generalize hus:Zd ks 3 p.2=us at le c1 |-;refine ⟨_,SqT.of (si _ _ ht),rfl,?_⟩;refine ⟨sl 0,fun g0 hg0=>?_⟩;have s3:=ZF hg0 (.lst []);have h3:upd Hi g0 (.lst []) g0=some (.lst []):=ZD;generalize upd Hi g0 (.lst [])=H3 at s3 h3 |-;have sH3:=si.trans s3;have hl3:=s3 _ _ hl;have hy3:=hy.mono s3;refine ⟨⟨ys,SqL.of hl3⟩,?_⟩
  let I:Nat->St->Hp->Prop:=fun j U Hj=>Same H3 Hj/\∃ lg zs z6,H lg=none/\Hj lg=some (.lst zs)/\zs.length=j * us.length/\HasL Hj zs (((R.take j).flatMap fun r=>us.map fun u=>r++ [u]).map V9)/\U= [some (.ref a),some (.ref pa),some (.ref l),some (.str p.1),some (.str p.2),some (.ref lg),z6]
  refine Vg (xs:=ys) I
   ⟨Same.refl _,g0, [],_,si.free hg0,h3,by simp,by rw [List.take_zero];exact HasL.nil,rfl⟩ (fun j U Hj _ z=>SqL.of (z.1 _ _ hl3)) ?_ ?_
  .rintro BB2 RR2 j x U Hj hxj ⟨sj,lg,zs,z6,flg,hlg,lz,hz,rfl⟩
   obtain ⟨dx,hdx,hhx⟩:=hy3.get hxj;rw [List.getElem?_map] at hdx
   cases hr1:R[j]? with
   | none=>rw [hr1] at hdx;cases hdx
   | some r=>
    rw [hr1] at hdx;cases hdx;have ri:=rl r (List.mem_of_getElem? hr1);have jR:=(List.getElem?_eq_some_iff.mp hr1).1;have lim:(j + 1) * us.length<=R.length * us.length:=Nat.mul_le_mul_right _ (by omega);rw [Nat.succ_mul] at lim;refine ⟨a,p.2,ks,30,c,d,rfl,(sh.mono (sH3.trans sj)),kk,Nat.le_refl _,hk,by omega,by omega,fun lw H4 s4 flw hlw=>?_⟩;rw [hus] at hlw;obtain ⟨lw',ws,er,hw,hwl⟩:=JT hlw;cases er;have lww:=hwl.length;rw [List.length_map] at lww;refine ⟨⟨_,SqL.of hw⟩,?_⟩;have hhx4:=(hhx.mono sj).mono s4;refine YE ws.length (ZK (by omega)) (fun m vs H5=>Same H4 H5/\vs.length=m/\HasL H5 vs ((((us.take m).map fun u=>r++ [u])).map V9)) ⟨Same.refl _,rfl,by rw [List.take_zero];exact HasL.nil⟩ (fun m vs H5 z=>z.2.1) ?_ ?_ ?_ ?_
    .intro m vs H5 hm zz
     exact ⟨ws,ws[m],SqL.of (zz.1 _ _ hw),by simp [hm]⟩
    .intro vs H5 zz
     exact ⟨ws,SqL.of (zz.1 _ _ hw),Nat.le_refl _⟩
    .intro m vs H5 x2 H6 RR3 hm zz yl hR
     obtain ⟨rfl,yy⟩:=yl;obtain ⟨dz,hdz,hhz⟩:=hwl.get (yy ws (SqL.of (zz.1 _ _ hw)));rw [List.getElem?_map] at hdz
     cases hv1:us[m]? with
     | none=>rw [hv1] at hdz;cases hdz
     | some v1=>
      rw [hv1] at hdz;cases hdz;refine ⟨sl 1,fun b hb=>?_⟩;have sb:=ZF hb (.tup [x2]);have gb:upd H6 b (.tup [x2]) b=some (.tup [x2]):=ZD;refine Ni ((hhx4.mono zz.1).mono sb) gb ((hhz.mono zz.1).mono sb) (by omega) fun v' H7 s7 h7=>hR _ _ ?_;have s67:=sb.trans s7;refine ⟨zz.1.trans s67,by rw [List.length_append,zz.2.1];rfl,?_⟩;rw [take_snoc hv1,List.map_append,List.map_append];exact HasL.append (zz.2.2.mono s67) (HasL.one h7)
    .intro vs H5 pl zz hpl
     have st:=ZF hpl (.lst vs);have z4':=zz.2.2;rw [List.take_of_length_le (by omega)] at z4';have sz:=(s4.trans zz.1).trans st;refine ⟨lg,pl,zs,vs,rfl,rfl,sz _ _ hlg,ZD,Nat.le_of_lt (ZK (by rw [lz,zz.2.1,lww];omega)),fun nl hnl=>?_⟩;have s9:=sz.trans (ZF hnl (.lst (zs++ vs)));refine ⟨sj.trans s9,nl,zs++ vs,_,((sH3.trans sj).trans sz).free hnl,ZD,by rw [List.length_append,lz,zz.2.1,lww,Nat.succ_mul],?_,rfl⟩;rw [take_snoc hr1,List.flatMap_append,List.map_append];simp only [List.flatMap_cons,List.flatMap_nil,List.append_nil];exact HasL.append (hz.mono s9) (z4'.mono (st.trans (ZF hnl _)))
  .rintro U Hj ⟨sj,lg,zs,z6,flg,hlg,lz,hz,rfl⟩
   rw [show R.take ys.length=R from List.take_of_length_le (by omega)] at hz;exact ⟨sH3.trans sj,lg,zs,_,_,_,_,flg,hlg,hz,rfl⟩
 .rintro U Hi ⟨si,l,ys,z3,z4,z5,z6,fl,hl,hy,rfl⟩
  rw [List.take_of_length_le (by omega)] at hy;exact q l Hi si fl (Zx hl hy)
end
end K4
namespace L2
open PySem
def DW(m:Nat)(d:Dat):Prop:=d.dep<=m/\d.wid<=1000
theorem DW.up(h:DW m d)(l:m<=n):DW n d:=⟨Nat.le_trans h.1 l,h.2⟩
theorem TX:∀ {ds:List Dat},(∀ d∈ds,DW m d)->Dat.deps ds<=m/\Dat.wids ds<=1000
 | [],_=>by unfold Dat.deps Dat.wids;exact ⟨Nat.zero_le _,Nat.zero_le _⟩
 | d::ds,h=>by
  have q:=TX fun e he=>h e (List.mem_cons_of_mem _ he);have d1:=h d List.mem_cons_self;unfold Dat.deps Dat.wids;exact ⟨Nat.max_le.mpr ⟨d1.1,q.1⟩,Nat.max_le.mpr ⟨d1.2,q.2⟩⟩
theorem U5(h:∀ d∈ds,DW m d)(l:ds.length<=1000):DW (1 + m) (.lst ds):=by
 have q:=TX h;unfold DW Dat.dep Dat.wid;exact ⟨by omega,Nat.max_le.mpr ⟨l,q.2⟩⟩
theorem JU(h:∀ d∈ds,DW m d)(l:ds.length<=1000):DW (1 + m) (.tup ds):=by
 have q:=TX h;unfold DW Dat.dep Dat.wid;exact ⟨by omega,Nat.max_le.mpr ⟨l,q.2⟩⟩
theorem Vd(x:Str):DW 0 (.str x):=by unfold DW Dat.dep Dat.wid;exact ⟨Nat.le_refl _,Nat.zero_le _⟩
theorem TV{ts:List Str}:∀ d∈ts.map Dat.str,DW 0 d:=fun d hd=>by
 obtain ⟨t,_,rfl⟩:=List.mem_map.mp hd;exact Vd t
theorem U4(h1:DW m d)(h2:DW m e):DW (1 + m) (.tup [d,e]):=JU (fun x hx=>by
 rcases (List.mem_cons.mp hx) with rfl | hx
 .exact h1
 .cases List.mem_singleton.mp hx
  exact h2) (by simp)
theorem Nk:∀ {bs:List Bd}{ts:List Str}{d:Dat},d∈Bd.brs bs ts->∃ b∈bs,∃ t,d= .tup [.str t,b.dat]
 | [],ts,d,h=>by cases ts <;> (unfold Bd.brs at h;cases h)
 | b::bs, [],d,h=>by unfold Bd.brs at h;cases h
 | b::bs,t::ts,d,h=>by
  unfold Bd.brs at h;rcases List.mem_cons.mp h with e | e
  .exact ⟨b,List.mem_cons_self,t,e⟩
  .obtain ⟨b',m,t',e'⟩:=Nk e
   exact ⟨b',List.mem_cons_of_mem _ m,t',e'⟩
theorem FD:∀ (bs:List Bd) (ts:List Str),(Bd.brs bs ts).length<=bs.length
 | [],ts=>by cases ts <;> (unfold Bd.brs;exact Nat.le_refl _)
 | b::bs, []=>by unfold Bd.brs;exact Nat.zero_le _
 | b::bs,t::ts=>by unfold Bd.brs;exact Nat.succ_le_succ (FD bs ts)
set_option tactic.hygienic true in
theorem Nd{b:Bd}(ok:b.ok)(hp:∀ c∈b.parts,DW m c.dat):DW (3 + m) b.dat:=by
 have fw:=Bd.few ok;have w:∀ x,DW (2 + m) (.str x):=fun x=>(Vd x).up (Nat.zero_le _);have go:∀ {ds:List Dat},ds.length<=5->(∀ d∈ds,DW (2 + m) d)->DW (3 + m) (.tup ds):=fun {ds} l h=>(JU h (by omega)).up (by omega);have up:∀ c∈b.parts,DW (2 + m) c.dat:=fun c hc=>(hp c hc).up (Nat.le_add_left _ _);cases b <;> unfold Bd.dat <;> refine go (by simp) fun d hd=>?_ <;> simp only [List.mem_cons,List.not_mem_nil,or_false] at hd
 case tag=>rcases hd with rfl | rfl <;> exact w _
 case name=>rcases hd with rfl | rfl <;> exact w _
 case one e=>rcases hd with rfl | rfl <;> first | exact w _ | exact up _ (by simp [Bd.parts])
 case other e=>rcases hd with rfl | rfl <;> first | exact w _ | exact up _ (by simp [Bd.parts])
 case pair e g=>
  rcases hd with rfl | rfl | rfl
  .exact w _
  .exact up e (by simp [Bd.parts])
  .exact up g (by simp [Bd.parts])
 case choose e ts bs=>
  rcases hd with rfl | rfl | rfl
  .exact w _
  .exact up e (by simp [Bd.parts])
  .refine (JU (m:=1 + m) (fun d hd=>?_) ?_).up (by omega)
   .obtain ⟨b,hb,t,rfl⟩:=Nk hd
    exact U4 ((Vd _).up (Nat.zero_le _)) (hp b (by simp [Bd.parts,hb]))
   .have:=FD bs ts
    have:bs.length<=(Bd.choose e ts bs).parts.length:=by simp [Bd.parts]
    omega
 case ask f as=>
  rcases hd with rfl | rfl | rfl
  .exact w _
  .exact w _
  .refine (JU (m:=m) (fun d hd=>?_) ?_).up (by omega)
   .rw [Bd.dats_map] at hd
    obtain ⟨b,hb,rfl⟩:=List.mem_map.mp hd;exact hp b (by simp [Bd.parts,hb])
   .rw [Bd.dats_map,List.length_map]
    have:as.length<=(Bd.ask f as).parts.length:=by simp [Bd.parts]
    omega
 case letb x z e g=>
  rcases hd with rfl | rfl | rfl | rfl | rfl
  .exact w _
  .exact w _
  .exact w _
  .exact up e (by simp [Bd.parts])
  .exact up g (by simp [Bd.parts])
theorem Bd.dw(n:Nat):∀ b:Bd,b.dep<=n->b.ok->DW (3 * n + 3) b.dat:=by
 induction n with
 | zero=>exact fun b h ok=>(Nd (m:=0) ok fun c hc=>by have:=Bd.dep_mem hc;omega).up (by omega)
 | succ n ih=>exact fun b h ok=>(Nd ok fun c hc=>ih c (by have:=Bd.dep_mem hc;omega) (Bd.ok_parts ok c hc)).up (by omega)
theorem W.dw:∀ u:W,DW u.dep u.dat
 | .non=>by unfold W.dat DW Dat.dep Dat.wid;exact ⟨Nat.zero_le _,Nat.zero_le _⟩
 | .tag x=>by unfold W.dat;exact Vd x
 | .pair a b=>by
  unfold W.dat W.dep;exact U4 ((W.dw a).up (Nat.le_max_left _ _)) ((W.dw b).up (Nat.le_max_right _ _))
theorem By(s:Shp)(h:∀ ts,s= .tags ts->ts.length<=4):DW 2 s.dat:=by
 cases s with
 | tags ts=>
  unfold Shp.dat;exact U4 ((Vd _).up (by decide)) (JU TV (by rw [List.length_map];have:=h ts rfl;omega))
 | pair a b=>
  unfold Shp.dat
  exact (JU (m:=0) (fun d hd=>by
   simp only [List.mem_cons,List.not_mem_nil,or_false] at hd;rcases hd with rfl | rfl | rfl <;> exact Vd _) (by simp)).up (by decide)
theorem Ko(ps:List (Str × Str))(h:ps.length<=3):DW 2 (psD ps):=by
 unfold psD;refine JU (m:=1) (fun d hd=>?_) (by rw [List.length_map];omega);obtain ⟨p,_,rfl⟩:=List.mem_map.mp hd;exact U4 (Vd _) (Vd _)
theorem Wb(h:KK 30 c d ks)(hy:y∈ks.map (·.1)):∀ u∈Zd ks 3 y,DW 2 u.dat:=fun u hu=>by
 have s:=h.small hy;have q:=(Yx h 3 y hy (by omega)).2.2 u hu;exact (W.dw u).up (by omega)
theorem Fs{P:W->Prop}(ps:List (Str × Str))(h:∀ p∈ps,∀ u∈Zd ks 3 p.2,P u):∀ r∈Y8 ks ps,∀ u∈r,P u:=by
 have go:∀ (ps:List (Str × Str)) (rows:List (List W)),(∀ p∈ps,∀ u∈Zd ks 3 p.2,P u)->(∀ r∈rows,∀ u∈r,P u)->∀ r∈ps.foldl (fun rows p=>rows.flatMap fun r=>(Zd ks 3 p.2).map fun u=>r++ [u]) rows,∀ u∈r,P u:=fun ps=>by
  induction ps with
  | nil=>intro rows _ h r hr;exact h r hr
  | cons p ps ih=>
   intro rows hp h r hr;refine ih _ (fun q hq=>hp q (List.mem_cons_of_mem _ hq)) (fun r hr u hu=>?_) r hr;obtain ⟨r0,m0,m1⟩:=List.mem_flatMap.mp hr;obtain ⟨v,hv,rfl⟩:=List.mem_map.mp m1;rcases List.mem_append.mp hu with z | z
   .exact h r0 m0 u z
   .cases List.mem_singleton.mp z
    exact hp p List.mem_cons_self _ hv
 exact go ps [[]] h fun r hr u hu=>by rw [List.mem_singleton.mp hr] at hu;cases hu
theorem L5(kk:KK 30 c d ks)(o:WZ (ks.map (·.1)) c 40 x.1)(ok:x.2.ok)(dp:x.2.dep<=11):∀ i,DW 40 (FE ks x i)
 | 0=>(Ko _ o.len).up (by decide)
 | 1=>(Vd _).up (by decide)
 | 2=>(Bd.dw 11 x.2 dp ok).up (by decide)
 | _ + 3=>(U5 (m:=3) (fun e he=>by
  obtain ⟨r,hr,rfl⟩:=List.mem_map.mp he;have l:=UI (ks:=ks) x.1.2.1 r hr;have:=o.len;unfold V9;refine JU (m:=2) (fun e he=>?_) (by rw [List.length_map];omega);obtain ⟨u,hu,rfl⟩:=List.mem_map.mp he
  exact Fs (P:=fun u=>DW 2 u.dat) x.1.2.1 (fun p hp=>Wb kk (o.kin p hp)) r hr u hu) (by
   rw [List.length_map,Jy kk _ o.kin];have:=o.rows;omega)).up (by decide)
theorem VL:∀ ts:List Str,HasL H (ts.map V.str) (ts.map Dat.str)
 | []=>HasL.nil
 | t::ts=>HasL.cons YG (VL ts)
theorem Ud{α:Type}{D:α->Dat}{nm:α->Str}{us:List α}(hl:H l=some (.lst xs))(hx:HasL H xs (us.map D))(hD:∀ u v,Has H v (D u)->∃ a ys,v= .ref a/\H a=some (.tup (.str (nm u)::ys)))(n:us.length<=100)(q:∀ p H',Same H H'->H p=none->H' p=some (.lst ((us.map nm).map V.str))->Q (.ref p) H'):RV (Itl K l) (Yi 0) (tOp (UY K) (UF 0) (tC (.int 0))) [none] Q H:=by
 have lx:=hx.length;rw [List.length_map] at lx
 refine YE xs.length (ZK (by omega)) (fun j vs H3=>Same H H3/\j<=us.length/\vs=((us.take j).map nm).map V.str) ⟨Same.refl _,Nat.zero_le _,rfl⟩ (fun j vs H3 z=>by
  rw [z.2.2,List.length_map,List.length_map,List.length_take];have:=z.2.1;omega) ?_ ?_ ?_ ?_
 .intro j vs H3 hj z
  exact ⟨_,xs[j],SqL.of (z.1 _ _ hl),by simp [hj]⟩
 .intro vs H3 z
  exact ⟨_,SqL.of (z.1 _ _ hl),Nat.le_refl _⟩
 .intro j vs H3 x H4 R hj z yl hR
  obtain ⟨rfl,yy⟩:=yl;obtain ⟨dx,hdx,hhx⟩:=hx.get (yy _ (SqL.of (z.1 _ _ hl)));rw [List.getElem?_map] at hdx
  cases hk:us[j]? with
  | none=>rw [hk] at hdx;cases hdx
  | some k=>
   rw [hk] at hdx;cases hdx;obtain ⟨p,ys,rfl,hp⟩:=hD k x hhx;refine ⟨_,_,SqT.of (z.1 _ _ hp),Z7 (j:=0) (xs:= .str (nm k)::ys) rfl,hR _ _ ⟨z.1,(List.getElem?_eq_some_iff.mp hk).1,?_⟩⟩;rw [z.2.2,take_snoc hk,List.map_append,List.map_append];rfl
 .intro vs H3 p z hp
  have s3:=ZF hp (.lst vs);have ev:vs=(us.map nm).map V.str:=by rw [z.2.2,List.take_of_length_le (by omega)]
  subst ev;exact q p _ (z.1.trans s3) (z.1.free hp) ZD
theorem Ub(u:Str × Shp)(v:V)(h:Has H v (Yq u)):∃ a ys,v= .ref a/\H a=some (.tup (.str u.1::ys)):=by
 obtain ⟨a,w,e,h1,_⟩:=JC (y:=u.1) (s:=u.2) h;exact ⟨a,_,e,h1⟩
theorem Xo(u:Dd)(v:V)(h:Has H v (Jr u)):∃ a ys,v= .ref a/\H a=some (.tup (.str u.1.1::ys)):=by
 obtain ⟨a,_,_,e,h1,_⟩:=TN h;exact ⟨a,_,e,h1⟩
theorem DW.lt(h:DW 40 d):d.dep < 45:=Nat.lt_of_le_of_lt h.1 (by decide)
end L2
namespace K4
open PySem L2
section
variable{f g C CK:Addr}
def Xv(C CK:Addr):Sp:=fun vs H Q _=> ∃ (t kl:Addr) (xs:List V) (ks:List (Str × Shp)) (c d:Str->Nat) (ds:List Dd),vs= [.ref t, .ref kl]/\BI H C CK t ks d ds/\H kl=some (.lst xs)/\HasL H xs (ks.map Yq)/\KK 30 c d ks/\(ks.map (·.1)).Nodup/\0 < ks.length/\ks.length<=6/\∀ H',Same H H'->Q (.bl true) H'
theorem Ji:ZX ["book","kinds","told","names","kind","shape"] ["book","kinds"] (ZL Gm):=Zl
theorem T8:List.Nodup [("kind" :Str)]:=by decide +kernel
theorem N9(B:Blt mg)(TB:BCl K C)(TC:KCl K CK)(F:Fun K "_law_kinds_right" "_law_kinds_right" Gm f fd)(DS:Df P w K mg base n "_law_same" ["found","due"] (Je 45))(DW':Df P w K mg base n "_law_worths" ["shapes","kind"] (VY 3))(m1:Yc K C "kinds" g1)(G1:ZN P w K mg base CX0 n g1 d1 ["self"] (VC C CK))(b1:Binds K d1 ["self"] [])(m2:Yc K CK "names" g2)(G2:ZN P w K mg base CX0 n g2 d2 ["self"] (JJ CK))(b2:Binds K d2 ["self"] [])(m3:Yc K CK "shape_of" g3)(G3:ZN P w K mg base CX0 n g3 d3 ["self","kind"] (V6 CK))(b3:Binds K d3 ["self","kind"] [])(m4:Yc K CK "worths_of" g4)(G4:ZN P w K mg base CX0 n g4 d4 ["self","kind"] (VM CK))(b4:Binds K d4 ["self","kind"] []):
  ZN P w K mg base CX0 (n + 1) f fd ["book","kinds"] (Xv C CK):=by
 obtain ⟨gs,sd',mS,kS,bS,GS⟩:=DS;obtain ⟨gw,wd',mW,kW,bW,GW⟩:=DW';refine F.ok Ji (fun vs H Q E h=>?_) (fun cdv A outer s H vs Q E hr h=>?_)
 .obtain ⟨t,kl,xs,ks,c,d,ds,rfl,_⟩:=h
  rfl
 obtain ⟨t,kl,xs,ks,c,d,ds,rfl,bi,hkl,hxs,kk,nd,k0,k6,q⟩:=h;have lx:=hxs.length;rw [List.length_map] at lx;refine ⟨_,ZC (ZZ 2 Ji.nd (YS (pv 0) TB.cl m1 G1 hr b1 .nil ZT))
  (ZC (ZZ 3 Ji.nd (YS (pv 2) TC.cl m2 G2 hr b2 .nil ZT))
  (ZC (Zh (Yk (YN (ZM GS hr rfl mS kS bS .nil ZT (ZA (pv 3) (ZA (Yd ["kind"] [] (Z6 (pv 1)) (YI (i:=0) (by decide)) (fun cl C fp s H=>ZO 0 T8 rfl (Or.inl rfl) (Or.inr rfl)) (fun cl C fp s H=>ZY (r:=UY K) Za (pv 0) ZG)) ZE))))) (ZH Z0) ZU)
  (ZC (Vo Zf (WD (pv 3) ZG set_list))
  (ZC (YO PassesOwn.never rfl (Z6 (pv 1)) (YR (n:=2) rfl (Zc (ZO 4 Ji.nd) (Zc (ZO 5 Ji.nd) Z9)))
   (ZC (Zh (Yk (YN (ZM GS hr rfl mS kS bS .nil ZT (ZA (YA (pv 2) TC.cl m3 G3 hr b3 .nil ZT (ZA (pv 4) ZE)) (ZA (pv 5) ZE))))) (ZH Z0) ZU)
   (ZH (Zh (Yk (YN (ZM GS hr rfl mS kS bS .nil ZT (ZA (YA (pv 2) TC.cl m4 G4 hr b4 .nil ZT (ZA (pv 4) ZE)) (ZA (ZM GW hr rfl mW kW bW .nil ZT (ZA (Zo (r:=Gx K) (UP rfl) rfl B.dict Y6 (ZA (pv 1) ZE)) (ZA (pv 4) ZE))) ZE))))) (ZH Z0) ZU))))
  (ZH (ZW (ZM GS hr rfl mS kS bS .nil ZT (ZA (YS (pv 2) TC.cl m2 G2 hr b2 .nil ZT) (ZA (Yd ["kind"] [] (Z6 (pv 1)) (YI (i:=0) (by decide)) (fun cl C fp s H=>ZO 0 T8 rfl (Or.inl rfl) (Or.inr rfl)) (fun cl C fp s H=>ZY (r:=UY K) Za (pv 0) ZG)) ZE))))))))),?_⟩
 dsimp only [Ys,Cx.nox,Cx.wish];show let a:=_;let b:=_;let c:=Zw _ b _;let d:=_;let e:=ZQ (Zw _ d _) c;let f:=ZQ (VX _ _ e) a;let g:=ZQ _ f;let h:=_;let i:=ZQ (Zw _ h _) g;let j:=ZQ _ i;ZQ _ j _ _ _
 intros
 obtain ⟨A',kv,rfl,b'⟩:=id bi;refine ⟨_,_,b'.ins,rfl,A'.t,ks,d,ds,rfl,bi,fun so ki=>?_⟩;obtain ⟨AK,SK,rfl,kd,kr⟩:=id ki;have el:(ks.map fun k=>V.str k.1)=(ks.map (·.1)).map V.str:=by rw [List.map_map];rfl
 have dn:DW 40 (.lst ((ks.map (·.1)).map Dat.str)):=(U5 TV (by rw [List.length_map,List.length_map];omega)).up (by decide);refine ⟨_,_,kd.ins,rfl,AK.t,ks,d,rfl,ki,fun ln H1 s1 fln hln=>?_⟩;rw [el] at hln;refine ⟨⟨_,SqL.of (s1 _ _ hkl)⟩,Ud (nm:=fun k:Str × Shp=>k.1) (s1 _ _ hkl) (hxs.mono s1) Ub (by omega) fun p H2 s2 fp hp=>?_⟩;refine ⟨_,_,_,_,rfl,Zx (s2 _ _ hln) (VL _),Zx hp (VL _),dn.lt,dn.2,fun H3 s3=>⟨_,rfl,?_⟩⟩;rw [Dat.beq_self];refine Zk (by simp) ?_;have s13:=s2.trans s3
 have ix0:ixN ((ks.map (·.1)).map V.str).length 0=some 0:=by
  unfold ixN;rw [if_pos (by decide),if_pos (by rw [List.length_map,List.length_map];omega)];rfl
 refine ⟨ln,_,0,0,rfl,rfl,s13 _ _ hln,ix0,?_⟩;have s4:Same H (upd H3 ln (.lst (((ks.map (·.1)).map V.str).set 0 (.str "q")))):=(s1.trans s13).putN fln;generalize upd H3 ln (.lst (((ks.map (·.1)).map V.str).set 0 (.str "q")))=H4 at s4 |-;refine ⟨⟨_,SqL.of (s4 _ _ hkl)⟩,?_⟩
 let I:Nat->St->Hp->Prop:=fun i U Hi=>Same H Hi/\∃ z4 z5,U= [some (.ref A'.t),some (.ref kl),some (.ref AK.t),some (.ref ln),z4,z5]
 refine Vg (xs:=xs) I ⟨s4,_,_,rfl⟩ (fun i U Hi _ z=>SqL.of (z.1 _ _ hkl)) ?_ ?_
 .rintro BB RR i x U Hi hx ⟨si,z4,z5,rfl⟩
  obtain ⟨dv,hdv,hhv⟩:=hxs.get hx;rw [List.getElem?_map] at hdv
  cases hk:ks[i]? with
  | none=>rw [hk] at hdv;cases hdv
  | some ys=>
   rw [hk] at hdv;cases hdv;obtain ⟨y,sh⟩:=ys;have hm:=List.mem_of_getElem? hk;have hs:=NB nd hm;have hy:y∈ks.map (·.1):=List.mem_map.mpr ⟨_,hm,rfl⟩;have k1:=kk.at hs;have dk:=kk.small hy;obtain ⟨c1,c2⟩:=kk.c0 hy;obtain ⟨a,v2,rfl,ha,hv2⟩:=JC (hhv.mono si);have kii:=ki.mono si;have hki:=si _ _ hkl;refine ⟨_,SqT.of ha,rfl,?_⟩;refine ⟨_,_,si _ _ kd.ins,rfl,AK.t,ks,d,y,sh,rfl,kii,hs,fun v3 hv3=>?_⟩;have ds':DW 40 sh.dat:=(By sh fun ts e=>by subst e;exact k1.2.1).up (by decide);refine ⟨_,_,_,_,rfl,hv3,hv2,ds'.lt,ds'.2,fun H5 s5=>⟨_,rfl,?_⟩⟩;rw [Dat.beq_self];refine Zk (by simp) ?_;refine ⟨_,_,s5 _ _ (si _ _ kd.ins),rfl,AK.t,ks,d,y,rfl,kii.mono s5,hy,fun lw xw H6 s6 flw hlw hxw=>?_⟩;have s06:=(si.trans s5).trans s6;obtain ⟨ts,kvs,exs,pr,ek,hsh⟩:=J6 (K:=K) (hxs.mono s06);refine ⟨kl,ts,kvs,rfl,SqL.of (by rw [<-exs];exact s06 _ _ hkl),pr,TF ek nd,fun dA hdA=>?_⟩;have s7:=ZF hdA (.dK kvs);have g7:upd H6 dA (.dK kvs) dA=some (.dK kvs):=ZD;generalize upd H6 dA (.dK kvs)=H7 at s7 g7 |-;refine ⟨dA,y,ks,30,c,d,rfl,⟨kvs, .inl g7,ek,fun y s e=>let ⟨v,e1,e2⟩:=hsh y s e;⟨v,e1,e2.mono s7⟩⟩,kk,Nat.le_refl _,hy,by omega,by omega,fun r H8 s8 fr hr8=>?_⟩
   have dw':DW 40 (.lst ((Zd ks 3 y).map W.dat)):=(U5 (m:=2) (fun e he=>by
    obtain ⟨u,hu,rfl⟩:=List.mem_map.mp he;exact Wb kk hy u hu) (by rw [List.length_map,c1];rcases L3 kk hy with h | h <;> omega)).up (by decide)
   refine ⟨_,_,_,_,rfl,Zx ((s7.trans s8) _ _ hlw) (hxw.mono (s7.trans s8)),hr8,dw'.lt,dw'.2,fun H9 s9=>⟨_,rfl,?_⟩⟩;rw [Dat.beq_self];refine Zk (by simp) ?_;exact ⟨((s06.trans s7).trans s8).trans s9,_,_,rfl⟩
 .rintro U Hi ⟨si,z4,z5,rfl⟩
  refine ⟨_,_,si _ _ kd.ins,rfl,AK.t,ks,d,rfl,ki.mono si,fun ln2 H5 s5 fln2 hln2=>?_⟩;rw [el] at hln2;have s05:=si.trans s5;refine ⟨⟨_,SqL.of (s05 _ _ hkl)⟩,Ud (nm:=fun k:Str × Shp=>k.1) (s05 _ _ hkl) (hxs.mono s05) Ub (by omega) fun p H6 s6 fp hp=>?_⟩;refine ⟨_,_,_,_,rfl,Zx (s6 _ _ hln2) (VL _),Zx hp (VL _),dn.lt,dn.2,fun H7 s7=>?_⟩;rw [Dat.beq_self];exact q H7 (s05.trans (s6.trans s7))
end
end K4
namespace L2
open PySem
structure BL(H:Hp)(C CK t kl dl:Addr)(ks:List (Str × Shp))(c d:Str->Nat)(ds:List Dd):Prop where
 bj:BJ H C CK t ks d ds
 kl:∃ xs,H kl=some (.lst xs)/\HasL H xs (ks.map Yq)
 dl:∃ zs,H dl=some (.lst zs)/\HasL H zs (ds.map Jr)
 kk:KK 30 c d ks
 nd:(ks.map (·.1)).Nodup
 k0:0 < ks.length
 k6:ks.length<=6
 d0:0 < ds.length
 d8:ds.length<=8
 wd:Wds 97 (ds.map fun x=>x.1.1)
 ho:∀ x∈ds,WZ (ks.map (·.1)) c 40 x.1
 ok:∀ x∈ds,x.2.ok/\x.2.dep<=11
theorem BL.mono{C CK t kl dl:Addr}(b:BL H C CK t kl dl ks c d ds)(e:Same H H'):BL H' C CK t kl dl ks c d ds:=
 ⟨b.bj.mono e,let ⟨xs,h1,h2⟩:=b.kl;⟨xs,e _ _ h1,h2.mono e⟩,let ⟨xs,h1,h2⟩:=b.dl;⟨xs,e _ _ h1,h2.mono e⟩,b.kk,b.nd,b.k0,b.k6,b.d0,b.d8,b.wd,b.ho,b.ok⟩
structure Bx(p:Prop):Prop where
 of:p
section
theorem Nj(h:PE X (.Name x p2) t):Bx (PE X (.Tuple [.Constant (.int i) j p1, .Name x p2] k pos) (OC (Ve (tC (.int i)) (Ve t W9)))):=⟨Zs (ZA ZG (ZA h ZE))⟩
theorem KY(h1:Bx (PE X (.Tuple e1 k1 p1) t1))(h2:Bx (PE X (.Tuple e2 k2 p2) t2))(h3:Bx (PE X (.Tuple e3 k3 p3) t3))(h4:Bx (PE X (.Tuple e4 k4 p4) t4)):Bx (PE X (.List [.Tuple e1 k1 p1, .Tuple e2 k2 p2, .Tuple e3 k3 p3, .Tuple e4 k4 p4] pos) (OJ (Ve t1 (Ve t2 (Ve t3 (Ve t4 W9)))))):=
 ⟨Z8 (ZA h1.of (ZA h2.of (ZA h3.of (ZA h4.of ZE))))⟩
theorem Dm(h:Bx (PE X l tl)):PI X tg l (NW X.K tl):=Z6 h.of
end
end L2
namespace K4
open PySem L2
section
variable{f g C CK N:Addr}
def Tu(C CK N:Addr):Sp:=fun vs H Q _=>UV C CK N vs H Q E0
def GG(C CK:Addr):Sp:=fun vs H Q _=> ∃ (t kl dl:Addr) (ks:List (Str × Shp)) (c d:Str->Nat) (ds:List Dd),vs= [.ref t, .ref kl, .ref dl]/\BL H C CK t kl dl ks c d ds/\∀ H',Same H H'->Q (.bl true) H'
theorem VQ:ZX ["book","kinds","definitions","names","f","parameters","kind","body","rows","way","due","found"] ["book","kinds","definitions"] (ZL Rt):=Zl
theorem EU:List.Nodup [("one" :Str)]:=by decide +kernel
theorem Dy(B:Blt mg)(TB:BCl K C)(F:Fun K "_law_right" "_law_right" Rt f fd)(DS:Df P w K mg base n "_law_same" ["found","due"] (Je 45))(DK:Df P w K mg base n "_law_kinds_right" ["book","kinds"] (Xv C CK))(DR:Df P w K mg base n "_law_rows" ["shapes","parameters"] GE)(DA:Df P w K mg base n "_law_asked" ["book","way","f"] (Tu C CK N))(m1:Yc K C "names" g1)(G1:ZN P w K mg base CX0 n g1 d1 ["self"] (Jf C CK))(b1:Binds K d1 ["self"] []):
  ZN P w K mg base CX0 (n + 1) f fd ["book","kinds","definitions"] (GG C CK):=by
 obtain ⟨gs,sd',mS,kS,bS,GS⟩:=DS;obtain ⟨gk,kd',mK,kK,bK,GK⟩:=DK;obtain ⟨gr,rd',mR,kR,bR,GR⟩:=DR;obtain ⟨ga,ad',mA,kA,bA,GA⟩:=DA;refine F.ok VQ (fun vs H Q E h=>?_) (fun cdv A outer s H vs Q E hr h=>?_)
 .obtain ⟨t,kl,dl,ks,c,d,ds,rfl,_⟩:=h
  rfl
 obtain ⟨t,kl,dl,ks,c,d,ds,rfl,bl,q⟩:=h;refine ⟨_,ZC (ZZ 3 VQ.nd (YS (pv 0) TB.cl m1 G1 hr b1 .nil ZT))
  (ZC (Zh (PW.pt (Vm (Yk (YN (ZM GS hr rfl mS kS bS .nil ZT (ZA (pv 3) (ZA (Yd ["one"] [] (Z6 (pv 2)) (YI (i:=0) (by decide)) (fun cl C fp s H=>ZO 0 EU rfl (Or.inl rfl) (Or.inr rfl)) (fun cl C fp s H=>ZY (r:=UY K) Za (pv 0) ZG)) ZE))))) (VO (Yk (YN (ZM GK hr rfl mK kK bK .nil ZT (ZA (pv 0) (ZA (pv 1) ZE)))))))) (ZH Z0) ZU)
  (ZC (YC (MQ PySem.F.plainAttrs_list PySem.F.slot_list_reverse PySem.F.type_list_reverse WH (pv 3)))
  (ZC (YO PassesOwn.never rfl (Z6 (pv 2)) (NK rfl (ZO 4 VQ.nd) (ZO 5 VQ.nd) (ZO 6 VQ.nd) (ZO 7 VQ.nd))
   (ZC (ZZ 8 VQ.nd (ZM GR hr rfl mR kR bR .nil ZT (ZA (Zo (r:=Gx K) (UP rfl) rfl B.dict Y6 (ZA (pv 1) ZE)) (ZA (pv 5) ZE))))
   (ZH (YO PassesOwn.never rfl (Dm (KY (Nj (pv 5)) (Nj (pv 6)) (Nj (pv 7)) (Nj (pv 8)))) (YR (n:=2) rfl (Zc (ZO 9 VQ.nd) (Zc (ZO 10 VQ.nd) Z9)))
    (ZC (ZZ 11 VQ.nd (ZM GA hr rfl mA kA bA .nil ZT (ZA (pv 0) (ZA (pv 9) (ZA (pv 4) ZE)))))
    (ZC (Zh (Yk (YN (ZM GS hr rfl mS kS bS .nil ZT (ZA (pv 11) (ZA (pv 10) ZE))))) (ZH Z0) ZU)
    (ZH (Zh (ZV YL (pv 9) ZG (Zb _)) (ZH (YC (Vw PySem.F.plainAttrs_list PySem.F.slot_list_append PySem.F.type_list_append Yf (pv 11) (ZA (Zs ZE) ZE)))) ZU))))))))
  (ZH (ZW UB))))),?_⟩
 dsimp only [Ys,Cx.nox,Cx.wish];show let a:=_;let b:=_;let c:=Zw _ b _;let d:=_;let e:=ZQ (Zw _ d _) c;let f:=ZQ _ e;let g:=VX _ _ f;let h:=ZQ _ g;let i:=ZQ (VX _ _ h) a;let j:=ZQ _ i;let k:=_;let l:=ZQ (Zw _ k _) j;ZQ _ l _ _ _
 intros
 obtain ⟨A',kv,rv,rfl,b',_⟩:=id bl.bj;obtain ⟨xs,hkl,hxs⟩:=bl.kl;obtain ⟨zs,hdl,hzs⟩:=bl.dl;have d8:=bl.d8;have el:(ds.map fun x=>V.str x.1.1)=(ds.map fun x=>x.1.1).map V.str:=by rw [List.map_map];rfl
 have dn:DW 40 (.lst ((ds.map fun x=>x.1.1).map Dat.str)):=(U5 TV (by rw [List.length_map,List.length_map];omega)).up (by decide);refine ⟨_,_,b'.ins,Oj _,A'.t,ks,d,ds,rfl,bl.bj.bi,fun ln H1 s1 fln hln=>?_⟩;rw [el] at hln;refine ⟨⟨_,SqL.of (s1 _ _ hdl)⟩,Ud (nm:=fun x:Dd=>x.1.1) (s1 _ _ hdl) (hzs.mono s1) Xo (by omega) fun p H2 s2 fp hp=>?_⟩;refine ⟨_,_,_,_,rfl,Zx (s2 _ _ hln) (VL _),Zx hp (VL _),dn.lt,dn.2,fun H3 s3=>⟨_,rfl,?_⟩⟩;rw [Dat.beq_self];refine Zk (by simp) ?_;have s03:=(s1.trans s2).trans s3;refine ⟨A'.t,kl,xs,ks,c,d,ds,rfl,bl.bj.bi.mono s03,s03 _ _ hkl,hxs.mono s03,bl.kk,bl.nd,bl.k0,bl.k6,fun H4 s4=>⟨_,rfl,Zk (by simp) ?_⟩⟩;have hln4:=s4 _ _ (s3 _ _ (s2 _ _ hln));refine ⟨.inl ⟨rfl,_,SqL.of hln4⟩,ln,_,rfl,rfl,hln4,?_⟩;have s5:Same H (upd H4 ln (.lst (((ds.map fun x=>x.1.1).map V.str).reverse))):=(s03.trans s4).putN fln;generalize upd H4 ln (.lst (((ds.map fun x=>x.1.1).map V.str).reverse))=H5 at s5 |-;refine ⟨⟨_,SqL.of (s5 _ _ hdl)⟩,?_⟩
 let I:Nat->St->Hp->Prop:=fun i U Hi=>Same H Hi/\∃ z4 z5 z6 z7 z8 z9 z10 z11,U= [some (.ref A'.t),some (.ref kl),some (.ref dl),some (.ref ln),z4,z5,z6,z7,z8,z9,z10,z11]
 refine Vg (xs:=zs) I ⟨s5,_,_,_,_,_,_,_,_,rfl⟩ (fun i U Hi _ z=>SqL.of (z.1 _ _ hdl)) ?_ ?_
 .rintro BB RR i x U Hi hx ⟨si,z4,z5,z6,z7,z8,z9,z10,z11,rfl⟩
  obtain ⟨dd,hd1,hd2⟩:=hzs.get hx;rw [List.getElem?_map] at hd1
  cases hc:ds[i]? with
  | none=>rw [hc] at hd1;cases hd1
  | some dx=>
   rw [hc] at hd1;cases hd1;have hm:=List.mem_of_getElem? hc;have o:=bl.ho dx hm;obtain ⟨ok,dp⟩:=bl.ok dx hm;obtain ⟨ta,u,wv,rfl,hta,hup,hwb⟩:=TN (hd2.mono si);refine ⟨_,SqT.of hta,rfl,?_⟩;obtain ⟨ts,kvs,exs,pr,ek,hsh⟩:=J6 (K:=K) (hxs.mono si);refine ⟨kl,ts,kvs,rfl,SqL.of (by rw [<-exs];exact si _ _ hkl),pr,TF ek bl.nd,fun dA hdA=>?_⟩;have s6:=ZF hdA (.dK kvs);have g6:upd Hi dA (.dK kvs) dA=some (.dK kvs):=ZD;generalize upd Hi dA (.dK kvs)=H6 at s6 g6 |-;have r40:=o.rows;refine ⟨dA,u,ks,c,d,dx.1.2.1,rfl,⟨kvs, .inl g6,ek,fun y s e=>let ⟨v,e1,e2⟩:=hsh y s e;⟨v,e1,e2.mono s6⟩⟩,bl.kk,hup.mono s6,o.kin,o.len,by omega,fun lr H7 s7 flr hlr=>?_⟩;have s67:=s6.trans s7;refine ⟨sl 2,fun t0 ht0=>⟨sl 2,fun t1 ht1=>⟨sl 2,fun t2 ht2=>⟨sl 2,fun t3 ht3=>⟨sl 4,fun l4 hl4=>?_⟩⟩⟩⟩⟩;have a0:=ZF ht0 (.tup [.int 0,u]);have e0:upd H7 t0 (.tup [.int 0,u]) t0=some (.tup [.int 0,u]):=ZD;generalize upd H7 t0 (.tup [.int 0,u])=Ha at a0 e0 ht1 ht2 ht3 hl4 |-;have a1:=ZF ht1 (.tup [.int 1, .str dx.1.2.2]);have e1:upd Ha t1 (.tup [.int 1, .str dx.1.2.2]) t1=some (.tup [.int 1, .str dx.1.2.2]):=ZD;generalize upd Ha t1 (.tup [.int 1, .str dx.1.2.2])=Hb at a1 e1 ht2 ht3 hl4 |-;have a2:=ZF ht2 (.tup [.int 2,wv]);have e2:upd Hb t2 (.tup [.int 2,wv]) t2=some (.tup [.int 2,wv]):=ZD;generalize upd Hb t2 (.tup [.int 2,wv])=Hc at a2 e2 ht3 hl4 |-;have a3:=ZF ht3 (.tup [.int 3, .ref lr]);have e3:upd Hc t3 (.tup [.int 3, .ref lr]) t3=some (.tup [.int 3, .ref lr]):=ZD;generalize upd Hc t3 (.tup [.int 3, .ref lr])=Hd at a3 e3 hl4 |-;have a4:=ZF hl4 (.lst [.ref t0, .ref t1, .ref t2, .ref t3]);have e4:upd Hd l4 (.lst [.ref t0, .ref t1, .ref t2, .ref t3]) l4=some (.lst [.ref t0, .ref t1, .ref t2, .ref t3]):=ZD;generalize upd Hd l4 (.lst [.ref t0, .ref t1, .ref t2, .ref t3])=H8 at a4 e4 |-;have s34:=a3.trans a4;have s24:=a2.trans s34;have s14:=a1.trans s24;have s04:=a0.trans s14;have s8:=si.trans (s67.trans s04)
   have at4:∀ (j:Nat) (x:V), [V.ref t0, .ref t1, .ref t2, .ref t3][j]?=some x->j < 4/\∃ ti vi,x= .ref ti/\H8 ti=some (.tup [.int ((j:Nat):Int),vi])/\Has H8 vi (FE ks dx j):=fun j x e=>by
    rcases j with _ | _ | _ | _ | j
    .cases e;exact ⟨by decide,t0,u,rfl,s14 _ _ e0,hup.mono (s67.trans s04)⟩
    .cases e;exact ⟨by decide,t1,_,rfl,s24 _ _ e1,YG⟩
    .cases e;exact ⟨by decide,t2,wv,rfl,s34 _ _ e2,hwb.mono (s67.trans s04)⟩
    .cases e;exact ⟨by decide,t3,_,rfl,a4 _ _ e3,hlr.mono s04⟩
    .exact nomatch e
   refine ⟨⟨_,SqL.of e4⟩,?_⟩
   let I:Nat->St->Hp->Prop:=fun j U Hj=>Same H8 Hj/\∃ z9 z10 z11,U= [some (.ref A'.t),some (.ref kl),some (.ref dl),some (.ref ln),some (.str dx.1.1),some u,some (.str dx.1.2.2),some wv,some (.ref lr),z9,z10,z11]
   refine Vg (xs:= [.ref t0, .ref t1, .ref t2, .ref t3]) I ⟨Same.refl _,_,_,_,rfl⟩ (fun j U Hj _ z=>SqL.of (z.1 _ _ e4)) ?_ ?_
   .rintro BB2 RR2 j x U Hj hxj ⟨sj,z9',z10',z11',rfl⟩
    obtain ⟨j4,ti,vi,rfl,hti,hvi⟩:=at4 j x hxj;have dwj:=L5 bl.kk o ok dp j;refine ⟨_,SqT.of (sj _ _ hti),rfl,?_⟩;refine ⟨A'.t,ks,d,ds,dx.1.1,j,rfl,bl.bj.mono (s8.trans sj),j4, .inl ⟨dx,hm,rfl,fun v H9 s9 hv fr=>?_⟩⟩;refine ⟨_,_,_,_,rfl,hv,(hvi.mono sj).mono s9,dwj.lt,dwj.2,fun H10 s10=>⟨_,rfl,?_⟩⟩;rw [Dat.beq_self];refine Zk (by simp) ?_;refine ⟨rfl,_,rfl,?_⟩
    by_cases j3:j=3
    .subst j3
     refine Yb (by simp) ?_;obtain ⟨l,rfl,fl⟩:=fr rfl;obtain ⟨l',ys,el',hl',hys⟩:=JT hv;cases el';have ly:=hys.length;rw [List.length_map,Jy bl.kk _ o.kin] at ly;refine ⟨.inl ⟨rfl,_,SqL.of (s10 _ _ hl')⟩,sl 0,fun e he=>?_⟩;have sE:=ZF he (.tup []);refine ⟨l,ys,_,rfl,rfl,sE _ _ (s10 _ _ hl'),ZK (by omega),?_⟩;exact ⟨((sj.trans s9).trans (s10.trans sE)).putN (sj.free fl),_,_,_,rfl⟩
    .refine Zk (fun z=>j3 (by have z1:=of_decide_eq_true z;injection z1 with z2;omega)) ?_
     exact ⟨(sj.trans s9).trans s10,_,_,_,rfl⟩
   .rintro U Hj ⟨sj,z9',z10',z11',rfl⟩
    exact ⟨s8.trans sj,_,_,_,_,_,_,_,_,rfl⟩
 .rintro U Hi ⟨si,_⟩
  exact q Hi si
end
end K4
namespace L2
open PySem
def Odd(H:Hp)(xs:List V):Prop:= ∀ x r,xs=x::r->x≠ .non/\∀ a ys,x= .ref a->H a=some (.tup ys)->∃ y r',ys=y::r'/\y≠ .non
def NoS(H:Hp)(xs:List V):Prop:= ∀ a r y r' s,xs= .ref a::r->H a=some (.tup (y::r'))->y≠ .str s
theorem XD(hy:y∈ks.map (·.1)):∃ us,Zd ks 3 y= .non::us:=by
 obtain ⟨s,hs⟩:=Yj hy;rw [V5 hs];cases s <;> exact ⟨_,rfl⟩
theorem Nz(ps:List (Str × Str))(h:∀ p∈ps,p.2∈ks.map (·.1)):∃ r0 R,Y8 ks ps=r0::R/\∀ u∈r0,u= .non:=by
 have go:∀ (ps:List (Str × Str)) (r0:List W) (R:List (List W)),(∀ p∈ps,p.2∈ks.map (·.1))->(∀ u∈r0,u= .non)->∃ r1 R1,ps.foldl (fun rows p=>rows.flatMap fun r=>(Zd ks 3 p.2).map fun u=>r++ [u]) (r0::R)=r1::R1/\∀ u∈r1,u= .non:=fun ps=>by
  induction ps with
  | nil=>intro r0 R _ h;exact ⟨r0,R,rfl,h⟩
  | cons p ps ih=>
   intro r0 R hp h;obtain ⟨us,e⟩:=XD (hp p List.mem_cons_self);rw [List.foldl_cons,e,List.flatMap_cons,List.map_cons,List.cons_append];exact ih _ _ (fun q hq=>hp q (List.mem_cons_of_mem _ hq)) fun u hu=>(List.mem_append.mp hu).elim (h u) fun z=>List.mem_singleton.mp z
 exact go ps [] [] h fun u hu=>nomatch hu
section
variable{C CK t l kl dl:Addr}
theorem KI.but(k:KI H CK t ks d)(hl:H l=some (.lst xs))(odd:Odd H xs)(f:∀ b o,b≠l->H b=some o->H' b=some o):KI H' CK t ks d:=by
 obtain ⟨A,S,e,kd,kr⟩:=k;have go:∀ {b:Addr}{o:HO},H b=some o->(∀ ys,o≠ .lst ys)->H' b=some o:=fun {b o} h n=>f b o (YM h hl (n xs)) h;have tk:TK H H':=fun b us h=>go h fun ys z=>nomatch z
 refine ⟨A,S,e,⟨go kd.ins (fun ys z=>nomatch z),go kd.sh (fun ys z=>nomatch z),go kd.wo (fun ys z=>nomatch z),go kd.he (fun ys z=>nomatch z),go kd.pd (fun ys z=>nomatch z),go kd.tk (fun ys z=>nomatch z),go kd.pk (fun ys z=>nomatch z),kd.nd⟩,kr.ke,fun y s e=>?_,fun y hy=>?_,kr.he,kr.pd,kr.tk,kr.pk,kr.ln⟩
 .obtain ⟨v,h1,h2⟩:=kr.sh y s e
  exact ⟨v,h1,Yh tk _ (Shp.st s) h2⟩
 .obtain ⟨l',ys,h1,h2,h3⟩:=kr.wo y hy
  refine ⟨l',ys,h1,f _ _ (fun z=>?_) h2,Xn (fun u {v}=>Xm tk u) h3⟩;subst z;rw [h2] at hl;have e:ys=xs:=by injection hl with e;injection e
  obtain ⟨us,hw⟩:=XD hy;rw [hw,List.map_cons] at h3;obtain ⟨x,r,er,hx,_⟩:=ZP h3;have x0:x= .non:=by unfold W.dat Has at hx;exact hx
  exact (odd x r (by rw [<-e,er])).1 x0
theorem BJ.but(b:BJ H C CK t ks d ds)(hk:∀ x∈ds,∀ p∈x.1.2.1,p.2∈ks.map (·.1))(hl:H l=some (.lst xs))(odd:Odd H xs)(f:∀ b o,b≠l->H b=some o->H' b=some o):BJ H' C CK t ks d ds:=by
 obtain ⟨A,kv,rv,e,b,bt⟩:=b;have go:∀ {b:Addr}{o:HO},H b=some o->(∀ ys,o≠ .lst ys)->H' b=some o:=fun {b o} h n=>f b o (YM h hl (n xs)) h;have tk:TK H H':=fun b us h=>go h fun ys z=>nomatch z
 have va:=Zv tk _ (Xq ds) b.va;refine ⟨A,kv,rv,e,⟨go b.ins (fun ys z=>nomatch z),b.so.but hl odd f,go b.td (fun ys z=>nomatch z),b.ke,va,b.nd⟩,go bt.td (fun ys z=>nomatch z),go bt.rd (fun ys z=>nomatch z),bt.ke,va,fun x hx=>?_,bt.ln⟩;obtain ⟨l',ys,h1,h2,h3⟩:=bt.ro x hx;refine ⟨l',ys,h1,f _ _ (fun z=>?_) h2,TQ tk h3⟩;subst z;rw [h2] at hl;have e:ys=xs:=by injection hl with e;injection e
 obtain ⟨r0,R,er0,h0⟩:=Nz x.1.2.1 (hk x hx);rw [er0,List.map_cons] at h3;obtain ⟨y,r,er,hy,_⟩:=ZP h3;unfold V9 at hy;obtain ⟨a,zs,rfl,ha,hz⟩:=Zn hy;obtain ⟨y1,r',e1,n1⟩:=(odd _ r (by rw [<-e,er])).2 a zs rfl ha;subst e1
 cases r0 with
 | nil=>have:=hz.length;cases this
 | cons u r0=>
  rw [List.map_cons,h0 u List.mem_cons_self] at hz;obtain ⟨y2,r2,e2,hy2,_⟩:=ZP hz;have e3:y1=y2:=by injection e2
  have:y2= .non:=by unfold W.dat Has at hy2;exact hy2
  exact n1 (e3.trans this)
theorem Eu{α:Type}{D:α->Dat}{us:List α}(h0:0 < us.length)(hk:H kl=some (.lst ys))(hy:HasL H ys (us.map D))(hD:∀ u v,Has H v (D u)->∃ a s r,v= .ref a/\H a=some (.tup (.str s::r)))(hl:H l=some (.lst xs))(ns:NoS H xs):kl≠l:=fun z=>by
 subst z;rw [hk] at hl;have e:ys=xs:=by injection hl with e;injection e
 cases us with
 | nil=>cases h0
 | cons u us=>
  rw [List.map_cons] at hy;obtain ⟨y,r,er,h1,_⟩:=ZP hy;obtain ⟨a,s,r',rfl,ha⟩:=hD u y h1;exact ns a r (.str s) r' s (by rw [<-e,er]) ha rfl
theorem BL.but(b:BL H C CK t kl dl ks c d ds)(hl:H l=some (.lst xs))(odd:Odd H xs)(ns:NoS H xs)(f:∀ b o,b≠l->H b=some o->H' b=some o):BL H' C CK t kl dl ks c d ds:=by
 have tk:TK H H':=fun b us h=>f b _ (YM h hl (fun z=>nomatch z)) h;obtain ⟨ys,k1,k2⟩:=b.kl;obtain ⟨zs,d1,d2⟩:=b.dl;exact ⟨b.bj.but (fun x hx=>(b.ho x hx).kin) hl odd f,⟨ys,f _ _ (Eu b.k0 k1 k2 (fun u v h=>let ⟨a,r,e,q⟩:=Ub u v h;⟨a,_,r,e,q⟩) hl ns) k1,Zv tk _ (YW ks) k2⟩,
  ⟨zs,f _ _ (Eu b.d0 d1 d2 (fun u v h=>let ⟨a,r,e,q⟩:=Xo u v h;⟨a,_,r,e,q⟩) hl ns) d1,Zv tk _ (Ui ds) d2⟩,b.kk,b.nd,b.k0,b.k6,b.d0,b.d8,b.wd,b.ho,b.ok⟩
end
theorem NS:Odd H (.int i::r)/\NoS H (.int i::r):=by
 refine ⟨fun x r' e=>?_,fun a r' y r'' s e=>?_⟩
 .injection e with e1 e2
  subst e1;exact ⟨(fun z=>nomatch z),fun a ys z=>nomatch z⟩
 .injection e with e1 e2
  cases e1
theorem NR:Odd H []/\NoS H []:=⟨fun x r e=>(nomatch e),fun a r y r' s e=>(nomatch e)⟩
theorem Ic(h:H a=some (.tup (.str s::r'))):Odd H (.ref a::r):=fun x r' e=>by
 injection e with e1 e2;subst e1;refine ⟨(fun z=>nomatch z),fun b ys z hb=>?_⟩;injection z with z;subst z;rw [h] at hb;injection hb with hb;injection hb with hb;exact ⟨_,_,hb.symm,fun z=>nomatch z⟩
theorem Id(h:H a=some (.tup (.ref b::r'))):Odd H (.ref a::r)/\NoS H (.ref a::r):=by
 refine ⟨fun x r' e=>?_,fun c r y r' s e hc=>?_⟩
 .injection e with e1 e2
  subst e1;refine ⟨(fun z=>nomatch z),fun b ys z hb=>?_⟩;injection z with z;subst z;rw [h] at hb;injection hb with hb;injection hb with hb;exact ⟨_,_,hb.symm,fun z=>nomatch z⟩
 .injection e with e1 e2
  injection e1 with e1;subst e1;rw [h] at hc;injection hc with hc;injection hc with hc;injection hc with hc _;rw [<-hc];exact fun z=>nomatch z
def TBk(H:Hp)(C CK:Addr)(v:V):Prop:= ∃ p t kl dl ks c d ds,v= .ref p/\H p=some (.tup [.ref t, .ref kl, .ref dl])/\BL H C CK t kl dl ks c d ds
theorem TBk.mono(h:TBk H C CK v)(e:Same H H'):TBk H' C CK v:=let ⟨p,t,kl,dl,ks,c,d,ds,h1,h2,h3⟩:=h;⟨p,t,kl,dl,ks,c,d,ds,h1,e _ _ h2,h3.mono e⟩
theorem TBk.but(h:TBk H C CK v)(hl:H l=some (.lst xs))(odd:Odd H xs/\NoS H xs)(f:∀ b o,b≠l->H b=some o->H' b=some o):TBk H' C CK v:=
 let ⟨p,t,kl,dl,ks,c,d,ds,h1,h2,h3⟩:=h;⟨p,t,kl,dl,ks,c,d,ds,h1,f _ _ (YM h2 hl (fun z=>nomatch z)) h2,h3.but hl odd.1 odd.2 f⟩
theorem EM(h:∀ v∈ws,TBk H C CK v):Odd H ws/\NoS H ws:=by
 cases ws with
 | nil=>exact NR
 | cons v ws=>
  obtain ⟨p,t,kl,dl,_,_,_,_,rfl,h2,_⟩:=h v List.mem_cons_self;exact Id h2
theorem EN{α:Type}{D:α->Dat}{us:List α}(hy:HasL H ys (us.map D))(hD:∀ u v,Has H v (D u)->∃ a s r,v= .ref a/\H a=some (.tup (.str s::r))):Odd H ys:=by
 cases us with
 | nil=>
  rw [List.map_nil] at hy;obtain rfl:=YK hy;exact NR.1
 | cons u us=>
  rw [List.map_cons] at hy;obtain ⟨y,r,rfl,h1,_⟩:=ZP hy;obtain ⟨a,s,r',rfl,ha⟩:=hD u y h1;exact Ic ha
theorem BL.butS{C CK t kl dl p:Addr}(b:BL H C CK t kl dl ks c d ds)(s:Zy H p)(f:SameB p H H'):BL H' C CK t kl dl ks c d ds:=by
 obtain ⟨_,_,_,_,hp⟩:=s;exact b.but hp NS.1 NS.2 f
theorem El{ds:List Dd}(kk:KK 30 c d ks)(nd:(ks.map (·.1)).Nodup)(k6:ks.length<=6)(d8:ds.length<=8)(ho:∀ x∈ds,WZ (ks.map (·.1)) c 40 x.1)(ok:∀ x∈ds,x.2.ok/\x.2.dep<=11):(Dat.tup [.lst (ks.map Yq), .lst (ds.map Jr)]).dep<=40:=by
 have h1:DW 38 (.lst (ks.map Yq)):=(U5 (m:=3) (fun e he=>by
  obtain ⟨k,hk,rfl⟩:=List.mem_map.mp he;unfold Yq;refine U4 ((Vd _).up (by decide)) (By k.2 fun ts e=>?_);have q:=kk.at (NB nd (y:=k.1) (s:=k.2) hk);rw [e] at q;exact q.2.1) (by rw [List.length_map];omega)).up (by decide)
 have h2:DW 38 (.lst (ds.map Jr)):=(U5 (m:=37) (fun e he=>by
  obtain ⟨x,hx,rfl⟩:=List.mem_map.mp he;have q:=Bd.dw 11 x.2 (ok x hx).2 (ok x hx).1;have pw:=Ko x.1.2.1 (ho x hx).len;unfold Jr;refine JU (m:=36) (fun e he=>?_) (by simp);simp only [List.mem_cons,List.not_mem_nil,or_false] at he;rcases he with rfl | rfl | rfl | rfl
  .exact (Vd _).up (by decide)
  .exact DW.up pw (by decide)
  .exact (Vd _).up (by decide)
  .exact q) (by rw [List.length_map];omega)).up (by decide)
 have:=(U4 h1 h2).1;omega
theorem Wds.tx(w:Wds 97 ys)(h:y∈ys):y.length<=8/\∀ c∈y.cps.toList,c < 128:=⟨(w.len y h).2,fun c hc=>by have:=w.abc y h c hc;omega⟩
theorem K5(h:y.length<=8/\∀ c∈y.cps.toList,c < 128):Tx (y++ Str.ofString "a"):=by
 have ea:(Str.ofString "a").length=1:=by decide
 refine ⟨by rw [strLen_append,ea];omega,fun c hc=>?_⟩;have e:(y++ Str.ofString "a").cps.toList=y.cps.toList++ (Str.ofString "a").cps.toList:=Array.toList_append;rw [e] at hc;rcases List.mem_append.mp hc with z | z
 .exact h.2 c z
 .have:∀ c∈(Str.ofString "a").cps.toList,c < 128:=by decide
  exact this c z
theorem FH{ys:List Str}(hl:H l=some (.lst (ys.map V.str)))(n:ys.length<=100)(h8:∀ y∈ys,y.length<=8)(q:∀ p H',Same H H'->H p=none->H' p=some (.lst ((ys.map fun y=>y++ Str.ofString "a").map V.str))->Q (.ref p) H'):RV (Itl K l) (Yi 0) (tOp (fun x y H Q=> ∃ i j,x= .str i/\y= .str j/\i.length + j.length<=sizeLine/\Q (.str (i++ j)) H) (UF 0) (tC (.str (Str.ofString "a")))) [none] Q H:=by
 have lm:(ys.map V.str).length=ys.length:=List.length_map _
 refine YE (ys.map V.str).length (ZK (by omega)) (fun j vs H3=>Same H H3/\j<=ys.length/\vs=((ys.take j).map fun y=>y++ Str.ofString "a").map V.str) ⟨Same.refl _,Nat.zero_le _,rfl⟩ (fun j vs H3 z=>by
  rw [z.2.2,List.length_map,List.length_map,List.length_take];have:=z.2.1;omega) ?_ ?_ ?_ ?_
 .intro j vs H3 hj z
  exact ⟨_,(ys.map V.str)[j],SqL.of (z.1 _ _ hl),by simp [hj]⟩
 .intro vs H3 z
  exact ⟨_,SqL.of (z.1 _ _ hl),Nat.le_refl _⟩
 .intro j vs H3 x H4 R hj z yl hR
  obtain ⟨rfl,yy⟩:=yl;obtain ⟨y,hk,rfl⟩:=GD (yy _ (SqL.of (z.1 _ _ hl)));have:=h8 y (List.mem_of_getElem? hk);refine ⟨_,_,rfl,rfl,Nat.le_of_lt (ZK (by rw [show (Str.ofString "a").length=1 by decide];omega)),hR _ _ ⟨z.1,(List.getElem?_eq_some_iff.mp hk).1,?_⟩⟩;rw [z.2.2,take_snoc hk,List.map_append,List.map_append];rfl
 .intro vs H3 p z hp
  have s3:=ZF hp (.lst vs);have ev:vs=(ys.map fun y=>y++ Str.ofString "a").map V.str:=by rw [z.2.2,List.take_of_length_le (by omega)]
  subst ev;exact q p _ (z.1.trans s3) (z.1.free hp) ZD
end L2
namespace K4
open PySem L2
section
variable{K:W.Frag}
def M8(K:W.Frag):Sp:=fun vs H Q _=> ∃ (a:Addr) (ns:List Int),vs= [.ref a]/\SqL K H a (ns.map V.int)/\ns.length<=63/\∀ H',Q (.bl true) H'
theorem V7:ZX ["script","told","k","kinds","definitions","handed","book","stream","names","f"] ["script"] (ZL Ry):=Zl
theorem Lf:List.Nodup [("name" :Str)]:=by decide +kernel
theorem Lb(hn:41<=n)(hm:m + 1<=n)(B:Blt mg)(F:Fun K "law" "law" Ry f fd)(Mk':Mk K C gi)(mC:mg "Book" =some (.ref C))(GI:ZN P w K mg base CX0 m gi idd ["self","kinds","definitions"] (Ga C CK))(bI:Binds K idd ["self","kinds","definitions"] [])(DC:Df P w K mg base n "_law_cell" ["script","k"] (Bv K))(DB:Df P w K mg base n "_law_book" ["cell","most","many","top","left"] Rj)(DS:Df P w K mg base n "_law_stream" ["cell"] Xt)(DR:Df P w K mg base n "_law_right" ["book","kinds","definitions"] (GG C CK))(DM:Df P w K mg base n "_law_small" ["stream","many"] Jw)(DF:Df P w K mg base n "_law_refused" ["book","way","f"] (Up C CK))(DT:Df P w K mg base n "_law_take" ["stream","many"] Yo):
  ZN P w K mg base CX0 (n + 1) f fd ["script"] (M8 K):=by
 obtain ⟨gc,cd',mCe,kC,bC,GC⟩:=DC;obtain ⟨gb,bd',mB,kB,bB,GB'⟩:=DB;obtain ⟨gs,sd',mS,kS,bS,GS⟩:=DS;obtain ⟨gr,rd',mR,kR,bR,GR⟩:=DR;obtain ⟨gm,md',mM,kM,bM,GM⟩:=DM;obtain ⟨gf,fd',mF,kF,bF,GF⟩:=DF;obtain ⟨gt,td',mT,kT,bT,GT⟩:=DT;refine F.ok V7 (fun vs H Q E h=>?_) (fun cdv A outer s H vs Q E hr h=>?_)
 .obtain ⟨a,ns,rfl,_⟩:=h
  rfl
 obtain ⟨a,ns,rfl,hS,h63,q⟩:=h;have hr38:Ya (40 + 1) _:=hr.mono (Nat.le_trans (by decide) hn);have hrm:Ya (m + 1) _:=hr.mono hm;refine ⟨_,ZC (ZZ 1 V7.nd (Z8 ZE))
  (ZC (YO PassesOwn.never rfl (JA rfl B.range (ZA ZG ZE)) (ZO 2 V7.nd)
   (ZC (Vo (ZM GB' hr rfl mB kB bB .nil ZT (ZA (ZM GC hr rfl mCe kC bC .nil ZT (ZA (pv 0) (ZA (pv 2) ZE))) (ZA ZG (ZA ZG (ZA ZG (ZA ZG ZE)))))) (YR (n:=2) rfl (Zc (ZO 3 V7.nd) (Zc (ZO 4 V7.nd) Z9))))
   (ZC (ZZ 5 V7.nd (Zs (ZA (Zo YY rfl B.list YF (ZA (pv 3) ZE)) (ZA (Zo YY rfl B.list YF (ZA (pv 4) ZE)) ZE))))
   (ZC (ZZ 6 V7.nd (NL Mk' GI hrm rfl mC bI .nil ZT (ZA (ZY Za (pv 5) ZG) (ZA (ZY Za (pv 5) ZG) ZE))))
   (ZC (Zh (ZV (G8 hr38) (pv 5) (Zs (ZA (pv 3) (ZA (pv 4) ZE))) (Zb _)) (ZH Z0) ZU)
   (ZC (YC (MQ PySem.F.plainAttrs_list PySem.F.slot_list_clear PySem.F.type_list_clear EY (ZY Za (pv 5) ZG)))
   (ZC (YC (MQ PySem.F.plainAttrs_list PySem.F.slot_list_reverse PySem.F.type_list_reverse WH (ZY Za (pv 5) ZG)))
   (ZH (YC (Vw PySem.F.plainAttrs_list PySem.F.slot_list_append PySem.F.type_list_append Yf (pv 1) (ZA (Zs (ZA (pv 6) (ZA (pv 3) (ZA (pv 4) ZE)))) ZE)))))))))))
  (ZC (ZZ 7 V7.nd (ZM GS hr rfl mS kS bS .nil ZT (ZA (ZM GC hr rfl mCe kC bC .nil ZT (ZA (pv 0) (ZA ZG ZE))) ZE)))
  (ZC (YO PassesOwn.never rfl (Z6 (Zi JN (pv 1) (pv 1))) (YR (n:=3) rfl (Zc (ZO 6 V7.nd) (Zc (ZO 3 V7.nd) (Zc (ZO 4 V7.nd) Z9))))
   (ZC (Zh (Yk (YN (ZM GR hr rfl mR kR bR .nil ZT (ZA (pv 6) (ZA (pv 3) (ZA (pv 4) ZE)))))) (ZH Z0) ZU)
   (ZC (Fw (i0:=8) ["one"] [] V7.nd rfl (Or.inl rfl) (Z6 (pv 4)) (YI (i:=0) (by decide)) (fun cl C fp s H=>ZO 0 EU rfl (Or.inl rfl) (Or.inr rfl)) (fun cl C fp s H=>ZY (r:=UY K) Za (pv 0) ZG))
   (ZH (YO PassesOwn.never rfl (Z6 (Zi JN (Zi JN (ZM GM hr rfl mM kM bM .nil ZT (ZA (pv 7) (ZA ZG ZE))) (Yd ["name"] [] (Z6 (pv 8)) (YI (i:=0) (by decide)) (fun cl C fp s H=>ZO 0 Lf rfl (Or.inl rfl) (Or.inr rfl)) (fun cl C fp s H=>Zi JO (pv 0) Zf))) (Z8 (ZA Zf (ZA Zf ZE))))) (ZO 9 V7.nd)
    (ZH (Zh (PW.pt (Vn (ZV Vf (pv 9) (pv 8) rfl) (Vn (ZV Wo (Zj Uk rfl B.len PySem.boot_len (ZA (pv 9) ZE)) ZG (Zb _)) (VT (Yk (YN (ZM GF hr rfl mF kF bF .nil ZT (ZA (pv 6) (ZA (ZM GT hr rfl mT kT bT .nil ZT (ZA (pv 7) (ZA ZG ZE))) (ZA (pv 9) ZE)))))))))) (ZH Z0) ZU)))))))
  (ZH (ZW UB))))),?_⟩
 dsimp only [Ys,Cx.nox,Cx.wish];show let a:=_;let b:=_;let c:=Zw _ b _;let d:=VX _ _ c;let e:=ZQ _ d;let f:=_;let g:=ZQ (Zw _ f _) e;let h:=ZQ (VX _ _ g) a;let i:=ZQ _ h;let j:=_;let k:=ZQ _ j;let l:=ZQ _ k;let m:=_;let n:=ZQ (Zw _ m _) l;let o:=ZQ _ n;let p:=ZQ _ o;let q:=ZQ _ p;let r:=ZQ (VX _ _ q) i;ZQ _ r _ _ _
 intros
 refine ⟨sl 0,fun tl htl=>?_⟩;have s1:=ZF htl (.lst []);have g1:upd H tl (.lst []) tl=some (.lst []):=ZD;generalize upd H tl (.lst [])=H1 at s1 g1 |-;refine ⟨2,rfl,by decide,by decide,?_⟩
 let I:Nat->St->Hp->Prop:=fun j U Hj=>Same H Hj/\∃ (ws:List V) (z2 z3 z4 z5 z6:Option V),Hj tl=some (.lst ws)/\ws.length=j/\(∀ v∈ws,TBk Hj C CK v)/\U= [some (.ref a),some (.ref tl),z2,z3,z4,z5,z6,none,none,none]
 refine Ug (n:=(2:Int).toNat) I ⟨s1, [],_,_,_,_,_,g1,rfl,(fun v hv=>nomatch hv),rfl⟩ ?_ ?_
 .rintro BB RR j U Hj hj ⟨sj,ws,z2,z3,z4,z5,z6,htlj,lw,tb,rfl⟩
  have j2:j < 2:=hj;refine ⟨a,ns,_,rfl,sj.seq hS,by omega,fun cc=>?_⟩;refine ⟨cc,6,8,40,9,rfl,by decide,by decide,by decide,by decide,by decide,by decide,fun r kl dl ks c d hs ds xs zs H2 s2 hr2 hkl hxs kk nd k0 k6 kg hdl hzs edd h0 h8 wdh hok dok=>?_⟩;subst edd;rw [List.length_map] at h0 h8;have wd:Wds 97 (ds.map fun x=>x.1.1):=by rw [List.map_map] at wdh;exact wdh
  have ho:∀ x∈ds,WZ (ks.map (·.1)) c 40 x.1:=fun x hx=>hok _ (List.mem_map.mpr ⟨x,hx,rfl⟩);have ok:∀ x∈ds,x.2.ok/\x.2.dep<=11:=fun x hx=>⟨(dok x hx).ok,(dok x hx).dep⟩;refine ⟨_,SqT.of hr2,rfl,?_⟩;refine ⟨kl,xs,rfl, .inl (SqL.of hkl),fun hk fhk=>⟨dl,zs,rfl, .inl (SqL.of (ZF fhk (.lst xs) _ _ hdl)),fun hd fhd=>⟨sl 2,fun ht fht=>?_⟩⟩⟩;have s3:=ZF fhk (.lst xs);have g3:upd H2 hk (.lst xs) hk=some (.lst xs):=ZD;generalize upd H2 hk (.lst xs)=H3 at s3 g3 fhd fht |-;have s4:=ZF fhd (.lst zs);have g4:upd H3 hd (.lst zs) hd=some (.lst zs):=ZD;generalize upd H3 hd (.lst zs)=H4 at s4 g4 fht |-;have s5:=ZF fht (.tup [.ref hk, .ref hd]);have g5:upd H4 ht (.tup [.ref hk, .ref hd]) ht=some (.tup [.ref hk, .ref hd]):=ZD;generalize upd H4 ht (.tup [.ref hk, .ref hd])=H5 at s5 g5 |-;have s25:=(s3.trans s4).trans s5;refine ⟨_,_,SqT.of g5,rfl,_,_,SqT.of g5,rfl,fun t dx fx fdx ndx=>?_⟩;have tx:upd (upd H5 dx (.own t)) t (.ins C dx []) t=some (.ins C dx []):=ZD;have s6:Same H5 (upd (upd H5 dx (.own t)) t (.ins C dx [])):=fun b o e=>by rw [ZI (ZJ e fx),ZI (ZJ e fdx)];exact e
  generalize upd (upd H5 dx (.own t)) t (.ins C dx [])=H6 at tx s6 |-;have s26:=s25.trans s6;refine ⟨t,dx,hk,hd,xs,zs,ks,c,d,ds,rfl,tx,s6 _ _ (s5 _ _ (s4 _ _ g3)),hxs.mono s26,kk,nd,kg,k0,k6,s6 _ _ (s5 _ _ g4),hzs.mono s26,h0,h8,wd,ho,dok,fun H8 f8 bj8=>⟨rfl,?_⟩⟩;have s8:Same H5 H8:=fun b o e=>f8 b o (ZJ e fx) (s6 b o e);have s28:=s25.trans s8;refine ⟨sl 2,fun t9 ft9=>?_⟩;have s9:=ZF ft9 (.tup [.ref kl, .ref dl]);have g9:upd H8 t9 (.tup [.ref kl, .ref dl]) t9=some (.tup [.ref kl, .ref dl]):=ZD;generalize upd H8 t9 (.tup [.ref kl, .ref dl])=H9 at s9 g9 |-;have s29:=s28.trans s9;have s59:=s8.trans s9;have hk9:=s59 _ _ (s5 _ _ (s4 _ _ g3));have hd9:=s59 _ _ (s5 _ _ g4);have ht9:=s59 _ _ g5;have kl9:=s29 _ _ hkl;have dl9:=s29 _ _ hdl;have hx9:=hxs.mono s29;have hz9:=hzs.mono s29;refine ⟨.tup [.lst (ks.map Yq), .lst (ds.map Jr)], .tup [.lst (ks.map Yq), .lst (ds.map Jr)],Zr ht9 (HasL.cons (Zx hk9 hx9) (HasL.one (Zx hd9 hz9))),Zr g9 (HasL.cons (Zx kl9 hx9) (HasL.one (Zx dl9 hz9))),El kk nd k6 h8 ho ok,_,rfl,?_⟩;rw [Dat.pq_self];refine Zk (by simp) ?_;have nkk:kl≠hk:=ZJ hkl fhk;have ndk:dl≠hk:=ZJ hdl fhk;have nkd:kl≠hd:=ZJ (s3 _ _ hkl) fhd;have ndd:dl≠hd:=ZJ (s3 _ _ hdl) fhd;have nhh:hk≠hd:=ZJ g3 fhd;refine ⟨_,_,SqT.of ht9,rfl, .inl ⟨rfl,_,SqL.of hk9⟩,hk,xs,rfl,rfl,hk9,?_⟩;have f10:∀ b o,b≠hk->H9 b=some o->upd H9 hk (.lst []) b=some o:=fun b o n e=>by rw [ZI n];exact e
  have b10:=(bj8.mono s9).but (fun x hx=>(ho x hx).kin) hk9 (EN hx9 fun u v h=>let ⟨a,r,e,q⟩:=Ub u v h;⟨a,_,r,e,q⟩) f10;have tk10:TK H9 (upd H9 hk (.lst [])):=Xr hk9 fun ys z=>nomatch z
  have sj10:Same Hj (upd H9 hk (.lst [])):=(s2.trans s29).putN (s2.free fhk);have hd10:=f10 _ _ (Ne.symm nhh) hd9;have ht10:=tk10 _ _ ht9;have kl10:=f10 _ _ nkk kl9;have dl10:=f10 _ _ ndk dl9;generalize upd H9 hk (.lst [])=H10 at f10 b10 tk10 sj10 hd10 ht10 kl10 dl10 |-;refine ⟨_,_,SqT.of ht10,rfl, .inl ⟨rfl,_,SqL.of hd10⟩,hd,zs,rfl,rfl,hd10,?_⟩;have f11:∀ b o,b≠hd->H10 b=some o->upd H10 hd (.lst zs.reverse) b=some o:=fun b o n e=>by rw [ZI n];exact e
  have hz10:=Zv tk10 _ (Ui ds) hz9;have b11:=b10.but (fun x hx=>(ho x hx).kin) hd10 (EN hz10 fun u v h=>let ⟨a,r,e,q⟩:=Xo u v h;⟨a,_,r,e,q⟩) f11;have tk11:TK H10 (upd H10 hd (.lst zs.reverse)):=Xr hd10 fun ys z=>nomatch z
  have sj11:Same Hj (upd H10 hd (.lst zs.reverse)):=sj10.putN ((s2.trans s3).free fhd);have kl11:=f11 _ _ nkd kl10;have dl11:=f11 _ _ ndd dl10;generalize upd H10 hd (.lst zs.reverse)=H11 at f11 b11 tk11 sj11 kl11 dl11 |-;have bl11:BL H11 C CK t kl dl ks c d ds:=⟨b11,⟨xs,kl11,Zv tk11 _ (YW ks) (Zv tk10 _ (YW ks) hx9)⟩,⟨zs,dl11,Zv tk11 _ (Ui ds) hz10⟩,kk,nd,k0,k6,h0,h8,wd,ho,ok⟩;have tl11:=sj11 _ _ htlj;refine ⟨.inl ⟨rfl,_,SqL.of tl11⟩,sl 3,fun tp ftp=>?_⟩;have s12:=ZF ftp (.tup [.ref t, .ref kl, .ref dl]);have g12:upd H11 tp (.tup [.ref t, .ref kl, .ref dl]) tp=some (.tup [.ref t, .ref kl, .ref dl]):=ZD;generalize upd H11 tp (.tup [.ref t, .ref kl, .ref dl])=H12 at s12 g12 |-;have tl12:=s12 _ _ tl11;refine ⟨tl,ws,_,rfl,rfl,tl12,ZK (by omega),?_⟩;have tb12:∀ v∈ws,TBk H12 C CK v:=fun v hv=>(tb v hv).mono (sj11.trans s12);have od:=EM tb12;refine ⟨((sj.trans sj11).trans s12).putN htl,ws++ [.ref tp],_,_,_,_,_,ZD,by rw [List.length_append,lw];rfl,fun v hv=>?_,rfl⟩;refine TBk.but (l:=tl) ?_ tl12 od fun b o n e=>by rw [ZI n];exact e
  rcases List.mem_append.mp hv with z | z
  .exact tb12 v z
  .cases List.mem_singleton.mp z
   exact ⟨tp,t,kl,dl,ks,c,d,ds,rfl,g12,bl11.mono s12⟩
 .rintro U H2 ⟨s2,ws,z2,z3,z4,z5,z6,htl2,lw,tb,rfl⟩
  have lw2:ws.length=2:=lw;refine ⟨a,ns,2,rfl,s2.seq hS,by decide,fun cc=>?_⟩;refine ⟨cc,rfl,fun p H3 fp b3 st3=>?_⟩;have s3:Same H2 H3:=b3.sb.same fp;have tl3:=s3 _ _ htl2;refine ⟨tl,tl,ws,ws,rfl,rfl,tl3,tl3,Nat.le_of_lt (ZK (by omega)),fun l4 fl4=>?_⟩;have s4:=ZF fl4 (.lst (ws++ ws));have g4:upd H3 l4 (.lst (ws++ ws)) l4=some (.lst (ws++ ws)):=ZD;have nlp:l4≠p:=st3.ne fl4;generalize upd H3 l4 (.lst (ws++ ws))=H4 at s4 g4 |-;have st4:=st3.sm s4;have tb4:∀ v∈ws++ ws,TBk H4 C CK v:=fun v hv=>((tb v ((List.mem_append.mp hv).elim id id)).mono s3).mono s4;refine ⟨⟨_,SqL.of g4⟩,?_⟩
  let I:Nat->St->Hp->Prop:=fun i U Hi=>SameB p H4 Hi/\Zy Hi p/\∃ (z2 z3 z4 z5 z6 z8 z9:Option V),U= [some (.ref a),some (.ref tl),z2,z3,z4,z5,z6,some (.ref p),z8,z9]
  refine Vg (xs:=ws++ ws) I ⟨SameB.refl _ _,st4,_,_,_,_,_,_,_,rfl⟩ (fun i U Hi _ z=>SqL.of (z.1 _ _ nlp g4)) ?_ ?_
  .rintro BB RR i x U Hi hx ⟨bi,sti,z2,z3,z4,z5,z6,z8,z9,rfl⟩
   obtain ⟨tp,t,kl,dl,ks,c,d,ds,rfl,htp,bl4⟩:=tb4 x (List.mem_of_getElem? hx);have bli:=bl4.butS st4 bi;have d8:=bli.d8;refine ⟨_,SqT.of ((bi.tk st4) _ _ htp),rfl,?_⟩;refine ⟨t,kl,dl,ks,c,d,ds,rfl,bli,fun H5 s5=>⟨_,rfl,Zk (by simp) ?_⟩⟩;have bl5:=bli.mono s5;have st5:=sti.sm s5;obtain ⟨zs,hdl5,hzs5⟩:=bl5.dl;refine ⟨⟨_,SqL.of hdl5⟩,Ud (nm:=fun x:Dd=>x.1.1) hdl5 hzs5 Xo (by omega) fun nl H6 s6 fnl hnl=>?_⟩;have bl6:=bl5.mono s6;have st6:=st5.sm s6;have nnp:nl≠p:=st5.ne fnl;have ln:(ds.map fun x=>x.1.1).length=ds.length:=List.length_map _;refine ⟨p,3,rfl,st6,by decide,fun lA ly H7 b7 st7 flA nlA hlA lly wdl=>?_⟩;refine ⟨⟨_,SqL.of (b7 _ _ nnp hnl)⟩,FH (b7 _ _ nnp hnl) (by omega) (fun y hy=>(bl6.wd.tx hy).1) fun pA H8 s8 fpA hpA=>?_⟩;have la:((ds.map fun x=>x.1.1).map fun y=>y++ Str.ofString "a").length=ds.length:=by rw [List.length_map,List.length_map]
   refine ⟨lA,pA,_,_,rfl,rfl,s8 _ _ hlA,hpA,Nat.le_of_lt (ZK (by rw [List.length_map,List.length_map];omega)),fun l8 fl8=>?_⟩;rw [<-List.map_append];have s9:=ZF fl8 (.lst ((ly++ (ds.map fun x=>x.1.1).map fun y=>y++ Str.ofString "a").map V.str));have g9:upd H8 l8 (.lst ((ly++ (ds.map fun x=>x.1.1).map fun y=>y++ Str.ofString "a").map V.str)) l8=some (.lst ((ly++ (ds.map fun x=>x.1.1).map fun y=>y++ Str.ofString "a").map V.str)):=ZD;generalize upd H8 l8 (.lst ((ly++ (ds.map fun x=>x.1.1).map fun y=>y++ Str.ofString "a").map V.str))=H9 at s9 g9 |-;refine ⟨sl 2,fun l9 fl9=>?_⟩;have s10:=ZF fl9 (.lst [.str "", .str "A"]);have g10:upd H9 l9 (.lst [.str "", .str "A"]) l9=some (.lst [.str "", .str "A"]):=ZD;generalize upd H9 l9 (.lst [.str "", .str "A"])=H10 at s10 g10 |-;refine ⟨l8,l9,_,_,rfl,rfl,s10 _ _ g9,g10,Nat.le_of_lt (ZK (by rw [List.length_map,List.length_append,la,lly];simp only [List.length_cons,List.length_nil];omega)),fun l10 fl10=>?_⟩;obtain ⟨al,eal⟩:∃ al,al=(ly++ (ds.map fun x=>x.1.1).map fun y=>y++ Str.ofString "a")++ [Str.ofString "",Str.ofString "A"]:=⟨_,rfl⟩;have e11:(ly++ (ds.map fun x=>x.1.1).map fun y=>y++ Str.ofString "a").map V.str++ [V.str (Str.ofString ""), .str (Str.ofString "A")]=al.map V.str:=by rw [eal,List.map_append (l₂:= [Str.ofString "",Str.ofString "A"])];rfl
   have txs:∀ y∈al,Tx y:=fun y hy=>by
    rw [eal] at hy;rcases List.mem_append.mp hy with z | z
    .rcases List.mem_append.mp z with z | z
     .have:=wdl.tx z
      exact ⟨by omega,this.2⟩
     .obtain ⟨y',hy',rfl⟩:=List.mem_map.mp z
      exact K5 (bl6.wd.tx hy')
    .simp only [List.mem_cons,List.not_mem_nil,or_false] at z
     rcases z with rfl | rfl
     .exact ⟨by decide,by decide⟩
     .exact ⟨by decide,by decide⟩
   rw [e11];have s11:=ZF fl10 (.lst (al.map V.str));have g11:upd H10 l10 (.lst (al.map V.str)) l10=some (.lst (al.map V.str)):=ZD;generalize upd H10 l10 (.lst (al.map V.str))=H11 at s11 g11 |-;have s71:=((s8.trans s9).trans s10).trans s11;have st11:=st7.sm s71;have b61:SameB p H6 H11:=b7.trans s71.sb;have bl11:=bl6.butS st6 b61;have nl11:=b61 _ _ nnp hnl;have nlp':l10≠p:=(((st7.sm s8).sm s9).sm s10).ne fl10;refine ⟨⟨_,SqL.of g11⟩,?_⟩
   let I:Nat->St->Hp->Prop:=fun k U Hk=>SameB p H11 Hk/\Zy Hk p/\∃ (z9:Option V),U= [some (.ref a),some (.ref tl),z2,some (.ref kl),some (.ref dl),z5,some (.ref t),some (.ref p),some (.ref nl),z9]
   refine Vg (xs:=al.map V.str) I ⟨SameB.refl _ _,st11,_,rfl⟩ (fun k U Hk _ z=>SqL.of (z.1 _ _ nlp' g11)) ?_ ?_
   .rintro BB2 RR2 k x U Hk hx2 ⟨bk,stk,z9',rfl⟩
    obtain ⟨y,hy,rfl⟩:=GD hx2;have ty:=txs y (List.mem_of_getElem? hy);have l20:=ty.len;refine ⟨nl,_,rfl, .inl (SqL.of (bk _ _ nnp nl11)),rfl,JD _,_,rfl,?_⟩;rw [if_pos rfl,Jo]
    by_cases h3':y∈ds.map fun x=>x.1.1
    .refine Zk (by simp only [Bool.not_eq_true',decide_eq_false_iff_not];exact fun z=>z h3') ?_
     exact Zk (by simp) ⟨bk,stk,_,rfl⟩
    .refine Yb (by rw [decide_eq_false h3'];rfl) ?_
     refine ⟨y,rfl,Nat.le_of_lt (ZK (by omega)),_,rfl,?_⟩
     by_cases h9:y.length < 9
     .refine Yb (by simp;omega) ?_
      refine ⟨p,4,rfl,stk,by decide,by decide,fun r H12 r0 r1 b12 st12=>?_⟩;obtain ⟨i',rfl⟩:∃ i':Nat,r=i':=⟨r.toNat,by omega⟩;have bl12:=bl11.butS st11 (bk.trans b12.sb);refine ⟨t,ks,d,ds,y,i',rfl,bl12.bj,by omega,h3',ty,fun H13 s13=>⟨_,rfl,Zk (by simp) ?_⟩⟩;exact ⟨(bk.trans b12.sb).trans s13.sb,st12.sm s13,_,rfl⟩
     .refine Zk (by simp;omega) ?_
      exact Zk (by simp) ⟨bk,stk,_,rfl⟩
   .rintro U Hk ⟨bk,stk,z9',rfl⟩
    exact ⟨((bi.trans s5.sb).trans (s6.sb.trans b61)).trans bk,stk,_,_,_,_,_,_,_,rfl⟩
  .rintro U Hi ⟨_,_,_⟩
   exact q Hi
end
end K4
namespace L2
open PySem
theorem Ik{K:W.Frag}(X:K.In h)(hl:K.lookup a=some ⟨.type "dict",none, .dict es n,#[]⟩)(hk:W.KeysLit w.params es.toList):h.MapOf (Zq P w) a fun k=>findBy Y0 es k:=by
 have keys:KeysOf (Zq P w) es:=fun d hd=>by
  have ⟨x,t,kx,hx⟩:=W.KeysLit.all hk d (by simpa using hd);refine ⟨Sum.inr x,?_,hx⟩;show Y0 (Sum.inr x) d.key=true;rw [kx,Ws]
 refine ⟨_,es,n,X a _ hl,?_,?_,keys,?_⟩
 .exact ⟨rfl,rfl,rfl⟩
 .rfl
 .intro k;rfl
theorem Jm(hl:K.lookup a=some ⟨.type "dict",none, .dict es n,#[]⟩)(e:W.nsIn K a x=some (some v)):findBy Y0 es (Sum.inr x)=some v:=by
 have q:=W.find_K hl e;exact q
end L2
namespace K4
open PySem L2
section
variable{P:Program}{w:World}{K:W.Frag}{mg:Str->Option Value}{base:Heap}{f g C CK:Addr}{fd gd:FuncData}
def RA(P:Program)(w:World)(K:W.Frag)(mg:Str->Option Value)(base:Heap)(C CK:Addr)(mR:Key->Option Value)(x:Str)(p:Bd->Prop):Prop:= ∃ g gd,mR (Sum.inr x)=some (.ref g)/\ZN P w K mg base CX0 3 g gd rps (spR C CK p)/\W.keepIn K (.ref g)=true/\Binds K gd rps []
theorem RA.at(r:RA P w K mg base C CK mR x p)(L:Nat)(e:b.word=x)(h:p b):∃ (g:Addr) (gd:FuncData) (p:Bd->Prop),mR (Sum.inr b.word)=some (.ref g)/\ZN P w K mg base CX0 (L + 3) g gd rps (spR C CK p)/\p b/\W.keepIn K (.ref g)=true/\Binds K gd rps []:=by
 obtain ⟨g,gd,h1,h2,h3,h4⟩:=r;exact ⟨g,gd,p,by rw [e];exact h1,h2.mono (by omega),h,h3,h4⟩
theorem De(L:Nat)(r1:RA P w K mg base C CK mR "tag" fun b=> ∃ t,b= .tag t)(r2:RA P w K mg base C CK mR "name" fun b=> ∃ x,b= .name x)(r3:RA P w K mg base C CK mR "pair" fun b=> ∃ e g,b= .pair e g)(r4:RA P w K mg base C CK mR "one" fun b=> ∃ e,b= .one e)(r5:RA P w K mg base C CK mR "other" fun b=> ∃ e,b= .other e)(r6:RA P w K mg base C CK mR "choose" fun b=> ∃ e ts bs,b= .choose e ts bs/\1<=bs.length)(r7:RA P w K mg base C CK mR "ask" fun b=> ∃ fn as,b= .ask fn as)(r8:RA P w K mg base C CK mR "let" fun b=> ∃ x k e g,b= .letb x k e g):
  ∀ b:Bd,(∀ e ts bs,b= .choose e ts bs->1<=bs.length)->∃ (g:Addr) (gd:FuncData) (p:Bd->Prop),mR (Sum.inr b.word)=some (.ref g)/\ZN P w K mg base CX0 (L + 3) g gd rps (spR C CK p)/\p b/\W.keepIn K (.ref g)=true/\Binds K gd rps []
 | .tag t,_=>r1.at L rfl ⟨t,rfl⟩
 | .name x,_=>r2.at L rfl ⟨x,rfl⟩
 | .pair e g,_=>r3.at L rfl ⟨e,g,rfl⟩
 | .one e,_=>r4.at L rfl ⟨e,rfl⟩
 | .other e,_=>r5.at L rfl ⟨e,rfl⟩
 | .choose e ts bs,h=>r6.at L rfl ⟨e,ts,bs,rfl,h e ts bs rfl⟩
 | .ask fn as,_=>r7.at L rfl ⟨fn,as,rfl⟩
 | .letb x k e g,_=>r8.at L rfl ⟨x,k,e,g,rfl⟩
theorem Il:ZN P w K mg base CX0 m f fd ["book","around","body"] (Np C CK 0):= .none fun vs H Q E h=>by
 obtain ⟨_,_,_,_,_,_,_,_,_,_,_,_,_,_,_,_,_,_,hd,_⟩:=h;exact Nat.not_lt_zero _ hd
theorem Kv(B:Blt mg)(me:mg "enumerate" =none)(TB:BCl K C)(TC:KCl K CK)(F:Fun K "kind_or_place" "kind_or_place" sKP f fd)(bG:Binds K fd ["book","around","body"] [])(mG:mg "kind_or_place" =some (.ref f))(m1:Yc K C "kinds" g1)(G1:ZN P w K mg base CX0 3 g1 d1 ["self"] (VC C CK))(b1:Binds K d1 ["self"] [])(m2:Yc K CK "names" g2)(G2:ZN P w K mg base CX0 3 g2 d2 ["self"] (JJ CK))(b2:Binds K d2 ["self"] [])(G3:ZN P w K mg base CX0 3 g3 d3 ["body"] Xa)(b3:Binds K d3 ["body"] [])(k3:W.keepIn K (.ref g3)=true)(m3:mg "parts" =some (.ref g3))(mU:mg "RULES" =some (.ref aR))(hM:base.MapOf (Zq P w) aR mR)(hR:∀ (L:Nat) (b:Bd),(∀ e ts bs,b= .choose e ts bs->1<=bs.length)->∃ (g:Addr) (gd:FuncData) (p:Bd->Prop),mR (Sum.inr b.word)=some (.ref g)/\ZN P w K mg base CX0 (L + 3) g gd rps (spR C CK p)/\p b/\W.keepIn K (.ref g)=true/\Binds K gd rps []):
  ∀ n,ZN P w K mg base CX0 (n + 3) f fd ["book","around","body"] (Np C CK n)
 | 0=>Il
 | n + 1=>(OV (L:=n) B me TB TC F (Kv B me TB TC F bG mG m1 G1 b1 m2 G2 b2 G3 b3 k3 m3 mU hM hR n) bG mG m1 (G1.mono (by omega)) b1 m2 (G2.mono (by omega)) b2 (G3.mono (by omega)) b3 k3 m3 mU hM (hR n)).mono (by omega)
end
section
variable{P:Program}{w:World}{K:W.Frag}{mg:Str->Option Value}{base:Heap}{f g:Addr}{fd gd:FuncData}
theorem Nr{m:Nat}:ZN P w K mg base CX0 m f fd ["body"] (Uo 0):=
 ⟨fun vs H Q E h=>let ⟨_,_,_,_,_,hd,_⟩:=h;absurd hd (Nat.not_lt_zero _),fun A outer s H args us vs Q E _ _ _ _ h=>let ⟨_,_,_,_,_,hd,_⟩:=h;absurd hd (Nat.not_lt_zero _)⟩
theorem NA(B:Blt mg)(ms:mg "sum" =none)(F:Fun K "_law_size" "_law_size" NG f fd)(bG:Binds K fd ["body"] [])(mG:mg "_law_size" =some (.ref f))(GL:ZN P w K mg base CX0 1 g gd ["body"] UU)(bL:Binds K gd ["body"] [])(kL:W.keepIn K (.ref g)=true)(mL:mg "_law_parts" =some (.ref g)):∀ n,ZN P w K mg base CX0 (1 + n) f fd ["body"] (Uo n)
 | 0=>Nr
 | n + 1=>IQ (m:=1 + n) B ms F (NA B ms F bG mG GL bL kL mL n) bG mG (GL.mono (by omega)) bL kL mL
end
theorem RP{K:W.Frag}{C:Addr}{v:Value}{b:Bool}(h:W.mroIn K C v=some b):(W.clsIn K C).isSome=true:=by
 unfold W.mroIn at h;obtain ⟨cd,a,_⟩:=Option.bind_eq_some_iff.mp h;rw [a];rfl
def At(K:W.Frag)(f:Addr)(x q:Str)(st:Stmt):Prop:= ∃ (oc:Value) (od:Option Addr) (kV dc pm:Value) (an:Option Addr) (cd ct:Value) (sl:Array (Option Value)),K.lookup f=some ⟨oc,od, .func (W.fnOf x q (Vy st) (VI st) (ZL st) .none kV dc pm an cd ct),sl⟩/\W.codeIn K cd q=true/\W.keepIn K (.ref f)=true
theorem At.of{K:W.Frag}{f:Addr}{x q:Str}{st:Stmt}{oc:Value}{od:Option Addr}{kV dc pm:Value}{an:Option Addr}{cd ct:Value}{sl:Array (Option Value)}(l:K.lookup f=some ⟨oc,od, .func (W.fnOf x q (Vy st) (VI st) (ZL st) .none kV dc pm an cd ct),sl⟩)(d:W.codeIn K cd q=true)(k:W.keepIn K (.ref f)=true):At K f x q st:=⟨oc,od,kV,dc,pm,an,cd,ct,sl,l,d,k⟩
section
variable{K:W.Frag}{x q:Str}{st:Stmt}{f:Addr}{fd:FuncData}{ps:List Str}
def BA1(x q:Str)(st:Stmt)(ps:List Str)(us:List Value):Prop:= ∀ (kV doc pm:Value) (an:Option Addr) (cdv ct:Value),bindArgs (W.fnOf x q (Vy st) (VI st) (ZL st) .none kV doc pm an cdv ct) ⟨us, []⟩=pure (ps.zip us)
def FK:Nat->(List Value->Prop)->Prop
 | 0,R=>R []
 | n + 1,R=> ∀ a,FK n fun us=>R (a::us)
theorem FK.at:∀ {n:Nat}{R:List Value->Prop}{us:List Value},FK n R->us.length=n->R us
 | 0,_, [],h,_=>h
 | _ + 1,R,a::_,h,e=>FK.at (R:=fun us=>R (a::us)) (h a) (Nat.succ.inj e)
theorem _root_.L2.Fun.bn(F:Fun K x q st f fd)(ps:List Str)(h:FK ps.length (BA1 x q st ps)):Binds K fd ps []:=F.binds fun _ _ _ _ _ _ _ e=>h.at e _ _ _ _ _ _
theorem _root_.L2.Fun.b1(F:Fun K x q st f fd)(p:Str)(h:∀ a,BA1 x q st [p] [a]:=by exact fun _ _ _ _ _ _ _=>rfl):Binds K fd [p] []:=F.bn [p] h
theorem _root_.L2.Fun.b2(F:Fun K x q st f fd)(p p1:Str)(h:∀ a b,BA1 x q st [p,p1] [a,b]:=by exact fun _ _ _ _ _ _ _ _=>rfl):Binds K fd [p,p1] []:=F.bn [p,p1] h
theorem _root_.L2.Fun.b3(F:Fun K x q st f fd)(p p1 p2:Str)(h:∀ a b c,BA1 x q st [p,p1,p2] [a,b,c]:=by exact fun _ _ _ _ _ _ _ _ _=>rfl):Binds K fd [p,p1,p2] []:=F.bn [p,p1,p2] h
theorem _root_.L2.Fun.b4(F:Fun K x q st f fd)(p p1 p2 p3:Str)(h:∀ a b c d,BA1 x q st [p,p1,p2,p3] [a,b,c,d]:=by exact fun _ _ _ _ _ _ _ _ _ _=>rfl):Binds K fd [p,p1,p2,p3] []:=F.bn [p,p1,p2,p3] h
theorem _root_.L2.Fun.b5(F:Fun K x q st f fd)(p p1 p2 p3 p4:Str)(h:∀ a b c d i,BA1 x q st [p,p1,p2,p3,p4] [a,b,c,d,i]:=by exact fun _ _ _ _ _ _ _ _ _ _ _=>rfl):Binds K fd [p,p1,p2,p3,p4] []:=F.bn [p,p1,p2,p3,p4] h
theorem _root_.L2.Fun.b6(F:Fun K x q st f fd)(p p1 p2 p3 p4 p5:Str)(h:∀ a b c d i j,BA1 x q st [p,p1,p2,p3,p4,p5] [a,b,c,d,i,j]:=by exact fun _ _ _ _ _ _ _ _ _ _ _ _=>rfl):Binds K fd [p,p1,p2,p3,p4,p5] []:=F.bn [p,p1,p2,p3,p4,p5] h
end
theorem At.fn{K:W.Frag}{f:Addr}{x q:Str}{st:Stmt}(h:At K f x q st):∃ fd,Fun K x q st f fd:=by
 obtain ⟨_,_,_,_,_,_,_,_,_,l,d,k⟩:=h;exact ⟨_,Et (st:=st) l d k⟩
def GA(K:W.Frag)(x:Str)(f:Addr)(st:Stmt):Prop:=W.nsIn K mainGlobals x=some (some (.ref f))/\At K f x x st
def GR(K:W.Frag)(a:Addr)(y x:Str)(f:Addr)(st:Stmt):Prop:=W.nsIn K a y=some (some (.ref f))/\At K f x x st
def GM(K:W.Frag)(C:Addr)(x q:Str)(f:Addr)(st:Stmt):Prop:=(W.findIn K (.ref C) x=some (some (.ref f))/\W.isFn K (.ref f)=true)/\At K f x q st
def GN(K:W.Frag)(x:Str):Prop:=W.nsIn K mainGlobals x=some none
def GC(K:W.Frag)(x:Str)(f:Addr):Prop:=W.nsIn K mainGlobals x=some (some (.ref f))
def GV(K:W.Frag)(x:Str)(v:V)(u:Value):Prop:=W.nsIn K mainGlobals x=some (some u)/\RelV v u
def GF(K:W.Frag)(C:Addr)(x:Str):Prop:=W.findIn K (.ref C) x=some none
theorem GA.go{K:W.Frag}{h:Heap}{mg:Str->Option Value}{x:Str}{f:Addr}{st:Stmt}(X:K.In h)(G:h.Ns mainGlobals mg)(a:GA K x f st):∃ fd,Fun K x x st f fd/\W.keepIn K (.ref f)=true/\mg x=some (.ref f):=
 let ⟨fd,F⟩:=a.2.fn
 ⟨fd,F,F.kp,W.mg_of X G a.1⟩
theorem GR.go{K:W.Frag}{c:Addr}{y x:Str}{f:Addr}{st:Stmt}(a:GR K c y x f st):∃ fd,Fun K x x st f fd/\W.keepIn K (.ref f)=true/\W.nsIn K c y=some (some (.ref f)):=
 let ⟨fd,F⟩:=a.2.fn
 ⟨fd,F,F.kp,a.1⟩
theorem GM.go{K:W.Frag}{c:Addr}{x q:Str}{f:Addr}{st:Stmt}(a:GM K c x q f st):∃ fd,Fun K x q st f fd/\Yc K c x f:=
 let ⟨fd,F⟩:=a.2.fn
 ⟨fd,F,a.1.1,a.1.2,F.kp⟩
theorem GV.go{K:W.Frag}{h:Heap}{mg:Str->Option Value}{x:Str}{v:V}{u:Value}(X:K.In h)(G:h.Ns mainGlobals mg)(a:GV K x v u):mg x=some u/\RelV v u:=⟨W.mg_of X G a.1,a.2⟩
structure CA(K:W.Frag)(C:Addr):Prop where
 pg:W.plainGet K C Str.empty=true
 hd:W.hasDictIn K C=true
 po:W.plainOver K C=true
 sa:W.findIn K (.ref C) "__setattr__" =some (some (.builtin "object.__setattr__"))
 ma:W.makesIn K C=true
 kc:W.keepIn K (.ref C)=true
theorem all_at{l:W.OpenLaw}{w:World}{K:W.Frag}{h:Heap}{mg:Str->Option Value}{fa CK C aR f1 f2 f3 f4 f5 f6 f7 f8 f9 f10 f11 f12 f13 f14 f15 f16 f17 f18 f19 f20 f21 f22 f23 f24 f25 f26 f27 f28 f29 f30 f31 f32 f33 f34 f35 f36 f37 f38 f39 f40 f41 f42 f43 f44 f45 f46 f47 f48 f49 f50 f51 f52 f53 f54 f55 f56 f57 f58 f59 f60 f61 f62 f63 f64 aW c1 c2 c3 c4 c5 c6 c7 c8 aN:Addr}{es:Array DictEntry}{nR:Nat}{u1v u2v u3v u4v u5v u6v u7v u8v u9v u10v u11v:Value}(X:K.In h)(G:h.Ns mainGlobals mg)(hfa:mg "law" =some (.ref fa))(aC:GC K "Kinds" CK)(aB:GC K "Book" C)(aU:GC K "RULES" aR)(lR:K.lookup aR=some ⟨.type "dict",none, .dict es nR,#[]⟩)(kR:W.KeysLit w.params es.toList)(a1:GA K "parts" f1 Ru)(a2:GA K "kind_or_place" f2 sKP)(a3:GA K "kind_of_part" f3 R9)(a4:GA K "is_name" f4 Gq)(a5:GA K "is_tag" f5 MC)(a6:GA K "is_spelt" f6 Rq)(a7:GA K "are_parameters" f7 MM)(a8:GA K "row_count" f8 Uw)(a9:GA K "rows_over" f9 Uv)(a10:GA K "_law_cell" f10 DY)(a11:GA K "_law_mixed" f11 Rx)(a12:GA K "_law_stream" f12 Gi)(a13:GA K "_law_take" f13 DD)(a14:GA K "_law_words" f14 Rp)(a15:GA K "_law_small" f15 Rr)(a16:GA K "_law_pair" f16 DI)(a17:GA K "_law_kinds" f17 Rz)(a18:GA K "_law_heads" f18 MD)(a19:GA K "_law_plain" f19 X6)(a20:GA K "_law_some" f20 NF)(a21:GA K "_law_choose" f21 Xg)(a22:GA K "_law_ask" f22 Fp)(a23:GA K "_law_part" f23 Gk)(a24:GA K "_law_let" f24 Fo)(a25:GA K "_law_body" f25 Tw)(a26:GA K "_law_parts" f26 Gj)(a27:GA K "_law_size" f27 NG)(a28:GA K "_law_book" f28 Da)(a29:GA K "_law_same" f29 NH)(a30:GA K "_law_worths" f30 Xf)(a31:GA K "_law_rows" f31 DG)(a32:GA K "_law_asked" f32 Gv)(a33:GA K "_law_refused" f33 X5)(a34:GA K "_law_kinds_right" f34 Gm)(a35:GA K "_law_right" f35 Rt)(a36:GA K "law" f36 Ry)(a37:GR K aR "tag" "kind_of_tag_body" f37 DJ)(a38:GR K aR "name" "kind_of_name_body" f38 MB)(a39:GR K aR "pair" "kind_of_pair_body" f39 MA)(a40:GR K aR "one" "kind_of_one_body" f40 DQ)(a41:GR K aR "other" "kind_of_other_body" f41 Gn)(a42:GR K aR "choose" "kind_of_choose_body" f42 X8)(a43:GR K aR "ask" "kind_of_ask_body" f43 DV)(a44:GR K aR "let" "kind_of_let_body" f44 DU)(a45:GM K CK "__init__" "Kinds.__init__" f45 DX)(a46:GM K CK "take" "Kinds.take" f46 R0)(a47:GM K CK "take_tags" "Kinds.take_tags" f47 DE)(a48:GM K CK "take_pair" "Kinds.take_pair" f48 Rv)(a49:GM K CK "names" "Kinds.names" f49 Rw)(a50:GM K CK "worths_of" "Kinds.worths_of" f50 Uu)(a51:GM K CK "shape_of" "Kinds.shape_of" f51 X4)(a52:GM K CK "kind_of_tag" "Kinds.kind_of_tag" f52 Gp)(a53:GM K CK "kind_of_pair" "Kinds.kind_of_pair" f53 X7)(a54:GM K C "__init__" "Book.__init__" f54 MJ)(a55:GM K C "take_heads" "Book.take_heads" f55 MF)(a56:GM K C "is_head" "Book.is_head" f56 MK)(a57:GM K C "check_bodies" "Book.check_bodies" f57 Gu)(a58:GM K C "kinds" "Book.kinds" f58 Gs)(a59:GM K C "names" "Book.names" f59 Gr)(a60:GM K C "parameters" "Book.parameters" f60 MH)(a61:GM K C "kind_of" "Book.kind_of" f61 MI)(a62:GM K C "body_of" "Book.body_of" f62 ML)(a63:GM K C "rows_of" "Book.rows_of" f63 MG)(a64:GM K C "told_of" "Book.told_of" f64 ME)(z1:GN K "len")(z2:GN K "isinstance")(z3:GN K "bool")(z4:GN K "str")(z5:GN K "int")(z6:GN K "tuple")(z7:GN K "list")(z8:GN K "dict")(z9:GN K "all")(z10:GN K "zip")(z11:GN K "max")(z12:GN K "range")(z13:GN K "sorted")(z14:GN K "min")(z15:GN K "sum")(z16:GN K "enumerate")(z17:GN K "any")(z18:GN K "ValueError")(g1:GV K "SMALL" (.str (Str.ofString "abcdefghijklmnopqrstuvwxyz")) u1v)(g2:GV K "GREAT" (.str (Str.ofString "ABCDEFGHIJKLMNOPQRSTUVWXYZ")) u2v)(g3:GV K "LONGEST" (.int 8) u3v)(g4:GV K "MOST_KINDS" (.int 6) u4v)(g5:GV K "MOST_TAGS" (.int 4) u5v)(g6:GV K "MOST_WORTHS" (.int 30) u6v)(g7:GV K "MOST_PAIRS_DEEP" (.int 2) u7v)(g8:GV K "MOST_DEFINITIONS" (.int 8) u8v)(g9:GV K "MOST_PARAMETERS" (.int 3) u9v)(g10:GV K "MOST_ROWS" (.int 200) u10v)(g11:GV K "MOST_ROWS_IN_ALL" (.int 400) u11v)(caCK:CA K CK)(caC:CA K C)(n1:GF K CK "shapes")(n2:GF K CK "worths")(n3:GF K CK "heights")(n4:GF K CK "pairs_deep")(n5:GF K CK "tag_kinds")(n6:GF K CK "pair_kinds")(nb1:GF K C "sorts")(nb2:GF K C "told")(nb3:GF K C "rows")(nb4:GF K C "turns")(e1:GC K "WantError" aW)(e2:GC K "Falling" c1)(e3:GC K "NoBook" c2)(e4:GC K "NoCell" c3)(e5:GC K "NoKinds" c4)(e6:GC K "NoMore" c5)(e7:GC K "NoNote" c6)(e8:GC K "NoRows" c7)(e9:GC K "Torn" c8)(e10:GC K "NoAsking" aN)(h2:W.typeIn K (.ref aW)=some (.type "type"))(h3:W.mroIn K aW (.type "BaseException")=some true)(x2:W.findIn K (.ref aN) "__getattribute__" =some (some (.builtin "BaseException.__getattribute__")))(x3:W.findIn K (.ref aN) "__getattr__" =some none)(x4:W.mroIn K aN (.type "BaseException")=some true)(x5:W.mroIn K aN (.type "object")=some true)(x6:W.findIn K (.ref aN) "__class__" =some (some (.builtin "object.__class__")))(x7:W.specialIn K (.builtin "object.__class__") "__get__" =some (some (.builtin "getset_descriptor.__get__")))(x8:W.takesIn K (.builtin "object.__class__")=some true)(x9:W.excIn K aN [.type "ValueError", .type "Exception", .type "BaseException", .type "object"] "ValueError.__new__" =true)(u1:W.subIn K (.ref aN) (.ref aW)=some true)(u2:W.kitAny K (.ref aN) [.ref c1, .ref c2, .ref c3, .ref c4, .ref c5, .ref c6, .ref c7, .ref c8]=some false)(u4:W.kitOne K (.ref aN) (.ref aN)=some true)(u5:W.kitOne K (.ref aN) (.type "ValueError")=some true):∃ fd:FuncData,(∀ (s:Shared) (v:Value),BindsTo s fd ⟨[v], []⟩ [("script",v)])/\∀ base:Heap,K.In base->base.Ns mainGlobals mg->ZN l.prog w K mg base CX0 53 fa fd ["script"] (M8 K):=by
 have e:=hfa.symm.trans (W.mg_of X G a36.1);cases e;obtain ⟨d1,F1,k1,m1⟩:=a1.go X G;have b1:=F1.b1 "body";obtain ⟨d2,F2,k2,m2⟩:=a2.go X G;have b2:=F2.b3 "book" "around" "body";obtain ⟨d3,F3,k3,m3⟩:=a3.go X G;have b3:=F3.b3 "book" "kind" "at";obtain ⟨d4,F4,k4,m4⟩:=a4.go X G;have b4:=F4.b1 "text";obtain ⟨d5,F5,k5,m5⟩:=a5.go X G;have b5:=F5.b1 "text";obtain ⟨d6,F6,k6,m6⟩:=a6.go X G;have b6:=F6.b2 "text" "letters";obtain ⟨d7,F7,k7,m7⟩:=a7.go X G;have b7:=F7.b2 "kinds" "parameters";obtain ⟨d8,F8,k8,m8⟩:=a8.go X G;have b8:=F8.b2 "kinds" "parameters";obtain ⟨d9,F9,k9,m9⟩:=a9.go X G;have b9:=F9.b2 "kinds" "parameters";obtain ⟨d10,F10,k10,m10⟩:=a10.go X G;have b10:=F10.b2 "script" "k";obtain ⟨d11,F11,k11,m11⟩:=a11.go X G;have b11:=F11.b2 "cell" "k";obtain ⟨d12,F12,k12,m12⟩:=a12.go X G;have b12:=F12.b1 "cell";obtain ⟨d13,F13,k13,m13⟩:=a13.go X G;have b13:=F13.b2 "stream" "many";obtain ⟨d14,F14,k14,m14⟩:=a14.go X G;have b14:=F14.b4 "stream" "many" "letters" "ways";obtain ⟨d15,F15,k15,m15⟩:=a15.go X G;have b15:=F15.b2 "stream" "many";obtain ⟨d16,F16,k16,m16⟩:=a16.go X G;have b16:=F16.b6 "stream" "names" "counts" "depths" "taken" "top";obtain ⟨d17,F17,k17,m17⟩:=a17.go X G;have b17:=F17.b3 "stream" "most" "top";obtain ⟨d18,F18,k18,m18⟩:=a18.go X G;have b18:=F18.b5 "stream" "kinds" "counts" "most" "top";obtain ⟨d19,F19,k19,m19⟩:=a19.go X G;have b19:=F19.b4 "stream" "world" "around" "kind";obtain ⟨d20,F20,k20,m20⟩:=a20.go X G;have b20:=F20.b5 "stream" "world" "around" "kind" "deep";obtain ⟨d21,F21,k21,m21⟩:=a21.go X G;have b21:=F21.b5 "stream" "world" "around" "kind" "deep";obtain ⟨d22,F22,k22,m22⟩:=a22.go X G;have b22:=F22.b5 "stream" "world" "around" "kind" "deep";obtain ⟨d23,F23,k23,m23⟩:=a23.go X G;have b23:=F23.b5 "stream" "world" "around" "kind" "deep";obtain ⟨d24,F24,k24,m24⟩:=a24.go X G;have b24:=F24.b5 "stream" "world" "around" "kind" "deep";obtain ⟨d25,F25,k25,m25⟩:=a25.go X G;have b25:=F25.b5 "stream" "world" "around" "kind" "deep";obtain ⟨d26,F26,k26,m26⟩:=a26.go X G;have b26:=F26.b1 "body";obtain ⟨d27,F27,k27,m27⟩:=a27.go X G;have b27:=F27.b1 "body";obtain ⟨d28,F28,k28,m28⟩:=a28.go X G;have b28:=F28.b5 "cell" "most" "many" "top" "left";obtain ⟨d29,F29,k29,m29⟩:=a29.go X G;have b29:=F29.b2 "found" "due";obtain ⟨d30,F30,k30,m30⟩:=a30.go X G;have b30:=F30.b2 "shapes" "kind";obtain ⟨d31,F31,k31,m31⟩:=a31.go X G;have b31:=F31.b2 "shapes" "parameters";obtain ⟨d32,F32,k32,m32⟩:=a32.go X G;have b32:=F32.b3 "book" "way" "f";obtain ⟨d33,F33,k33,m33⟩:=a33.go X G;have b33:=F33.b3 "book" "way" "f";obtain ⟨d34,F34,k34,m34⟩:=a34.go X G;have b34:=F34.b2 "book" "kinds";obtain ⟨d35,F35,k35,m35⟩:=a35.go X G;have b35:=F35.b3 "book" "kinds" "definitions";obtain ⟨_,_,kV,dc,pm,an,cd,ct,_,l',d',k36⟩:=a36.2;have F36:=Et (st:=Ry) l' d' k36;obtain ⟨d37,F37,k37,a37⟩:=a37.go;have b37:=F37.b4 "book" "around" "body" "found";obtain ⟨d38,F38,k38,a38⟩:=a38.go;have b38:=F38.b4 "book" "around" "body" "found";obtain ⟨d39,F39,k39,a39⟩:=a39.go;have b39:=F39.b4 "book" "around" "body" "found";obtain ⟨d40,F40,k40,a40⟩:=a40.go;have b40:=F40.b4 "book" "around" "body" "found";obtain ⟨d41,F41,k41,a41⟩:=a41.go;have b41:=F41.b4 "book" "around" "body" "found";obtain ⟨d42,F42,k42,a42⟩:=a42.go;have b42:=F42.b4 "book" "around" "body" "found";obtain ⟨d43,F43,k43,a43⟩:=a43.go;have b43:=F43.b4 "book" "around" "body" "found";obtain ⟨d44,F44,k44,a44⟩:=a44.go;have b44:=F44.b4 "book" "around" "body" "found";obtain ⟨d45,F45,w45⟩:=a45.go;have b45:=F45.b2 "self" "told";obtain ⟨d46,F46,w46⟩:=a46.go;have b46:=F46.b3 "self" "name" "shape";obtain ⟨d47,F47,w47⟩:=a47.go;have b47:=F47.b3 "self" "name" "tags";obtain ⟨d48,F48,w48⟩:=a48.go;have b48:=F48.b4 "self" "name" "one" "other";obtain ⟨d49,F49,w49⟩:=a49.go;have b49:=F49.b1 "self";obtain ⟨d50,F50,w50⟩:=a50.go;have b50:=F50.b2 "self" "kind";obtain ⟨d51,F51,w51⟩:=a51.go;have b51:=F51.b2 "self" "kind";obtain ⟨d52,F52,w52⟩:=a52.go;have b52:=F52.b2 "self" "tag";obtain ⟨d53,F53,w53⟩:=a53.go;have b53:=F53.b3 "self" "one" "other";obtain ⟨d54,F54,w54⟩:=a54.go;have b54:=F54.b3 "self" "kinds" "definitions";obtain ⟨d55,F55,w55⟩:=a55.go;have b55:=F55.b2 "self" "definitions";obtain ⟨d56,F56,w56⟩:=a56.go;have b56:=F56.b4 "self" "name" "parameters" "kind";obtain ⟨d57,F57,w57⟩:=a57.go;have b57:=F57.b1 "self";obtain ⟨d58,F58,w58⟩:=a58.go;have b58:=F58.b1 "self";obtain ⟨d59,F59,w59⟩:=a59.go;have b59:=F59.b1 "self";obtain ⟨d60,F60,w60⟩:=a60.go;have b60:=F60.b2 "self" "F";obtain ⟨d61,F61,w61⟩:=a61.go;have b61:=F61.b2 "self" "F";obtain ⟨d62,F62,w62⟩:=a62.go;have b62:=F62.b2 "self" "F";obtain ⟨d63,F63,w63⟩:=a63.go;have b63:=F63.b2 "self" "F";obtain ⟨d64,F64,w64⟩:=a64.go;have b64:=F64.b2 "self" "F";have mC:=W.mg_of X G aC;have mB:=W.mg_of X G aB;have mU:=W.mg_of X G aU;have B:Blt mg:=⟨W.mg_none_of X G z1,W.mg_none_of X G z2,W.mg_none_of X G z3,W.mg_none_of X G z4,W.mg_none_of X G z5,W.mg_none_of X G z6,W.mg_none_of X G z7,W.mg_none_of X G z8,W.mg_none_of X G z9,W.mg_none_of X G z10,W.mg_none_of X G z11,W.mg_none_of X G z12,W.mg_none_of X G z13⟩;have nmin:=W.mg_none_of X G z14;have nsum:=W.mg_none_of X G z15;have nenumerate:=W.mg_none_of X G z16;have nany:=W.mg_none_of X G z17;have nValueError:=W.mg_none_of X G z18;obtain ⟨q1,r1⟩:=g1.go X G;obtain ⟨q2,r2⟩:=g2.go X G;obtain ⟨q3,r3⟩:=g3.go X G;obtain ⟨q4,r4⟩:=g4.go X G;obtain ⟨q5,r5⟩:=g5.go X G;obtain ⟨q6,r6⟩:=g6.go X G;obtain ⟨q7,r7⟩:=g7.go X G;obtain ⟨q8,r8⟩:=g8.go X G;obtain ⟨q9,r9⟩:=g9.go X G;obtain ⟨q10,r10⟩:=g10.go X G;obtain ⟨q11,r11⟩:=g11.go X G;have T:KCl K CK:=⟨⟨caCK.pg,caCK.hd,caCK.po,caCK.sa⟩,n1,n2,n3,n4,n5,n6⟩;have TB:BCl K C:=⟨⟨caC.pg,caC.hd,caC.po,caC.sa⟩,nb1,nb2,nb3,nb4⟩;have XX:XC K mg aW c1 c2 c3 c4 c5 c6 c7 c8 aN:=⟨W.mg_of X G e1,W.mg_of X G e2,W.mg_of X G e3,W.mg_of X G e4,W.mg_of X G e5,W.mg_of X G e6,W.mg_of X G e7,W.mg_of X G e8,W.mg_of X G e9,W.mg_of X G e10,nValueError,⟨RP h3,h2,h3⟩,⟨RP x4,x2,x3,x4,x5,x6,x7,x8⟩,x9,u1,u2,u4,u5⟩;refine ⟨W.fnOf "law" "law" (Vy Ry) (VI Ry) (ZL Ry) .none kV dc pm an cd ct,fun s v=> .of_eq rfl,fun base hIn _=>?_⟩;have tk:∀ n,ZN l.prog w K mg base CX0 (n + 2) f13 _ ["stream","many"] Yo:=fun n=>IO F13 (D6 (n:=n) F11) b11 k11 m11;have wo:∀ n,ZN l.prog w K mg base CX0 (n + 3) f14 _ ["stream","many","letters","ways"] XY:=fun n=>Dt B F14 (tk n) b13 k13 m13;have sm:∀ n,ZN l.prog w K mg base CX0 (n + 4) f15 _ ["stream","many"] Jw:=fun n=>Dw F15 (wo n) b14 k14 m14;have pr:ZN l.prog w K mg base CX0 9 f16 _ ["stream","names","counts","depths","taken","top"] (Rh K):=IS (n:=2) B F16 (tk 6) b13 k13 m13;have kn:ZN l.prog w K mg base CX0 10 f17 _ ["stream","most","top"] GU:=EB (n:=9) B F17 (tk 7) b13 k13 m13 (sm 5) b15 k15 m15 (wo 6) b14 k14 m14 pr b16 k16 m16;have hd':ZN l.prog w K mg base CX0 10 f18 _ ["stream","kinds","counts","most","top"] GY:=EE (n:=9) B F18 ⟨f13,_,m13,k13,b13,tk 7⟩ ⟨f15,_,m15,k15,b15,sm 5⟩;have DT:∀ n,Df l.prog w K mg base (n + 2) "_law_take" ["stream","many"] Yo:=fun n=>⟨f13,_,m13,k13,b13,tk n⟩;have pn:ZN l.prog w K mg base CX0 6 f19 _ ["stream","world","around","kind"] (VB 3):=WC B DT F19 b19 m19 3;have dw:=(KM B DT F19 b19 m19 F20 b20 m20 F21 b21 m21 F22 b22 m22 F23 b23 m23 F24 b24 m24 F25 b25 m25 9).2;have pL:ZN l.prog w K mg base CX0 1 f26 _ ["body"] UU:=N7 (n:=0) B F26;have pA:ZN l.prog w K mg base CX0 1 f1 _ ["body"] Xa:=ok_parts (n:=0) B F1;have sz:ZN l.prog w K mg base CX0 13 f27 _ ["body"] (Uo 12):=NA B nsum F27 b27 m27 pL b26 k26 m26 12;have sa:ZN l.prog w K mg base CX0 45 f29 _ ["found","due"] (Je 45):=NE B F29 b29 m29 45;have bk:ZN l.prog w K mg base CX0 49 f28 _ ["cell","most","many","top","left"] Rj:=IZ (n:=48) B nmin F28 ⟨f12,_,m12,k12,b12,Wq (n:=47) F12⟩ ⟨f13,_,m13,k13,b13,tk 46⟩ ⟨f15,_,m15,k15,b15,sm 44⟩ ⟨f17,_,m17,k17,b17,kn.mono (by decide)⟩ ⟨f18,_,m18,k18,b18,hd'.mono (by decide)⟩ (dw.up (by decide)) ⟨f19,_,m19,k19,b19,pn.mono (by decide)⟩ ⟨f27,_,m27,k27,b27,sz.mono (by decide)⟩;have sp:ZN l.prog w K mg base CX0 1 f6 _ ["text","letters"] XZ:=Dv (n:=0) B F6 q3 r3;have na:ZN l.prog w K mg base CX0 2 f4 _ ["text"] (Jd 97):=BE (n:=1) F4 sp b6 k6 m6 q1 r1;have ta:ZN l.prog w K mg base CX0 2 f5 _ ["text"] (Jd 65):=ED (n:=1) F5 sp b6 k6 m6 q2 r2;have tt:ZN l.prog w K mg base CX0 3 f47 _ ["self","name","tags"] (Rg CK):=IP (n:=2) B T F47 q5 r5 ta b5 k5 m5;have tp:ZN l.prog w K mg base CX0 3 f48 _ ["self","name","one","other"] (GJ CK):=D4 (n:=2) B T F48 q7 r7 q6 r6;have kt:ZN l.prog w K mg base CX0 4 f46 _ ["self","name","shape"] (GX CK):=D7 (n:=3) B T F46 (na.mono (by decide)) b4 k4 m4 tt b47 w47 tp b48 w48;have ini:ZN l.prog w K mg base CX0 5 f45 _ ["self","told"] (Ri CK):=IX (n:=4) B T F45 q4 r4 kt b46 w46;have knm:ZN l.prog w K mg base CX0 1 f49 _ ["self"] (JJ CK):=D5 (n:=0) B T F49;have kwo:ZN l.prog w K mg base CX0 1 f50 _ ["self","kind"] (VM CK):=T5 (n:=0) B T F50;have ksh:ZN l.prog w K mg base CX0 1 f51 _ ["self","kind"] (V6 CK):=MU (n:=0) T F51;have kto:ZN l.prog w K mg base CX0 1 f52 _ ["self","tag"] (Xw CK):=BC (n:=0) T F52;have kpo:ZN l.prog w K mg base CX0 1 f53 _ ["self","one","other"] (Uq CK):=MX (n:=0) T F53;have bki:ZN l.prog w K mg base CX0 1 f58 _ ["self"] (VC C CK):=BH (n:=0) TB F58;have bnm:ZN l.prog w K mg base CX0 1 f59 _ ["self"] (Jf C CK):=BG (n:=0) B TB F59;have to:ZN l.prog w K mg base (CX1 l.prog w) 1 f64 _ ["self","F"] (JI C CK aN):=Du (n:=0) B TB XX.mN XX.isx F64;have aP:ZN l.prog w K mg base (CX1 l.prog w) 2 f60 _ ["self","F"] (Vz C CK aN 0):=D2 (n:=1) TB F60 w64 to b64;have aK:ZN l.prog w K mg base (CX1 l.prog w) 2 f61 _ ["self","F"] (Vz C CK aN 1):=EC (n:=1) TB F61 w64 to b64;have aY:ZN l.prog w K mg base (CX1 l.prog w) 2 f62 _ ["self","F"] (Vz C CK aN 2):=EG (n:=1) TB F62 w64 to b64;have aO:ZN l.prog w K mg base (CX1 l.prog w) 2 f63 _ ["self","F"] (Xu C CK aN):=N6 (n:=1) B TB F63 w64 to b64;have sk:ZN l.prog w K mg base (CX1 l.prog w) 3 f32 _ ["book","way","f"] (UV C CK aN):=EK (n:=2) TB F32 w60 aP b60 w61 aK b61 w62 aY b62 w63 aO b63;have cP:ZN l.prog w K mg base CX0 2 f60 _ ["self","F"] (Bu C CK):=aP.calm fun vs H Q E ⟨t,ks,d,ds,x,h1,h2,h3,h4⟩=>⟨t,ks,d,ds,x.1.1,h1,h2, .inl ⟨x,h3,rfl,h4⟩⟩;have cK:ZN l.prog w K mg base CX0 2 f61 _ ["self","F"] (M9 C CK):=aK.calm fun vs H Q E ⟨t,ks,d,ds,x,h1,h2,h3,h4⟩=>⟨t,ks,d,ds,x.1.1,h1,h2, .inl ⟨x,h3,rfl,fun v hv=>by obtain rfl:=has_str hv;exact h4⟩⟩;have kpt:ZN l.prog w K mg base CX0 2 f3 _ ["book","kind","at"] (Xb C CK):=D8 (n:=1) TB T F3 w58 bki b58 w51 ksh b51;have R1:RA l.prog w K mg base C CK (fun k=>findBy Y0 es k) "tag" _:=⟨f37,_,Jm lR a37,IT (n:=2) TB T F37 w58 (bki.mono (by decide)) b58 w52 (kto.mono (by decide)) b52,k37,b37⟩;have R2:RA l.prog w K mg base C CK (fun k=>findBy Y0 es k) "name" _:=⟨f38,_,Jm lR a38,EA (n:=2) F38,k38,b38⟩;have R3:RA l.prog w K mg base C CK (fun k=>findBy Y0 es k) "pair" _:=⟨f39,_,Jm lR a39,D9 (n:=2) TB T F39 w58 (bki.mono (by decide)) b58 w53 (kpo.mono (by decide)) b53,k39,b39⟩;have R4:RA l.prog w K mg base C CK (fun k=>findBy Y0 es k) "one" _:=⟨f40,_,Jm lR a40,IU (n:=2) F40 kpt b3 k3 m3,k40,b40⟩;have R5:RA l.prog w K mg base C CK (fun k=>findBy Y0 es k) "other" _:=⟨f41,_,Jm lR a41,N8 (n:=2) F41 kpt b3 k3 m3,k41,b41⟩;have R6:RA l.prog w K mg base C CK (fun k=>findBy Y0 es k) "choose" _:=⟨f42,_,Jm lR a42,MW (n:=0) B nany TB T F42 w58 (bki.mono (by decide)) b58 w51 (ksh.mono (by decide)) b51,k42,b42⟩;have R7:RA l.prog w K mg base C CK (fun k=>findBy Y0 es k) "ask" _:=⟨f43,_,Jm lR a43,IW (n:=0) TB F43 w59 (bnm.mono (by decide)) b59 w60 cP b60 w61 cK b61,k43,b43⟩;have R8:RA l.prog w K mg base C CK (fun k=>findBy Y0 es k) "let" _:=⟨f44,_,Jm lR a44,IV (n:=2) F44,k44,b44⟩;have kp:ZN l.prog w K mg base CX0 15 f2 _ ["book","around","body"] (Np C CK 12):=Kv B nenumerate TB T F2 b2 m2 w58 (bki.mono (by decide)) b58 w49 (knm.mono (by decide)) b49 (pA.mono (by decide)) b1 k1 m1 mU (Ik hIn lR kR) (fun L=>De L R1 R2 R3 R4 R5 R6 R7 R8) 12;have ap:ZN l.prog w K mg base CX0 3 f7 _ ["kinds","parameters"] (Gc CK):=EL (n:=2) B T F7 q9 r9 ⟨f4,_,m4,k4,b4,na⟩ w49 (knm.mono (by decide)) b49;have rc:ZN l.prog w K mg base CX0 2 f8 _ ["kinds","parameters"] (UH CK):=T7 (n:=1) B T F8 w50 kwo b50;have ro:ZN l.prog w K mg base CX0 2 f9 _ ["kinds","parameters"] (UG CK):=T6 (n:=1) B T F9 w50 kwo b50;have ih:ZN l.prog w K mg base CX0 4 f56 _ ["self","name","parameters","kind"] (Gb C CK):=EJ (n:=3) TB T F56 ⟨f4,_,m4,k4,b4,na.mono (by decide)⟩ ⟨f7,_,m7,k7,b7,ap⟩ w49 (knm.mono (by decide)) b49;have th:ZN l.prog w K mg base CX0 5 f55 _ ["self","definitions"] (Bw C CK):=EF (n:=4) B nenumerate TB F55 q8 r8 q10 r10 q11 r11 w56 ih b56 ⟨f8,_,m8,k8,b8,rc.mono (by decide)⟩ ⟨f9,_,m9,k9,b9,ro.mono (by decide)⟩;have cb:ZN l.prog w K mg base CX0 16 f57 _ ["self"] (Xx C CK):=BK (n:=15) B nenumerate TB F57 w59 (bnm.mono (by decide)) b59 ⟨f2,_,m2,k2,b2,kp⟩;have bi:ZN l.prog w K mg base CX0 17 f54 _ ["self","kinds","definitions"] (Ga C CK):=EI (n:=16) (m:=5) (by decide) TB F54 ⟨caCK.ma,w45.1,w45.2,caCK.kc⟩ mC ini b45 w55 (th.mono (by decide)) b55 w57 cb b57;have rf:ZN l.prog w K mg base CX0 4 f33 _ ["book","way","f"] (Up C CK):=MV (n:=3) (by decide) B XX F33 sk b32 k32 m32;have sc:ZN l.prog w K mg base CX0 3 f32 _ ["book","way","f"] (Tu C CK aN):=sk.calm fun _ _ _ _ q=>q;have wr:ZN l.prog w K mg base CX0 3 f30 _ ["shapes","kind"] (VY 3):=Wa B F30 b30 m30 3;have rl:ZN l.prog w K mg base CX0 4 f31 _ ["shapes","parameters"] GE:=Dx (n:=3) F31 ⟨f30,_,m30,k30,b30,wr⟩;have kr:ZN l.prog w K mg base CX0 46 f34 _ ["book","kinds"] (Xv C CK):=N9 (n:=45) B TB T F34 ⟨f29,_,m29,k29,b29,sa⟩ ⟨f30,_,m30,k30,b30,wr.mono (by decide)⟩ w58 (bki.mono (by decide)) b58 w49 (knm.mono (by decide)) b49 w51 (ksh.mono (by decide)) b51 w50 (kwo.mono (by decide)) b50;have ri:ZN l.prog w K mg base CX0 47 f35 _ ["book","kinds","definitions"] (GG C CK):=Dy (n:=46) B TB F35 ⟨f29,_,m29,k29,b29,sa.mono (by decide)⟩ ⟨f34,_,m34,k34,b34,kr⟩ ⟨f31,_,m31,k31,b31,rl.mono (by decide)⟩ ⟨f32,_,m32,k32,b32,sc.mono (by decide)⟩ w59 (bnm.mono (by decide)) b59;exact Lb (n:=52) (m:=17) (by decide) (by decide) B F36 ⟨caC.ma,w54.1,w54.2,caC.kc⟩ mB bi b54 ⟨f10,_,m10,k10,b10,IY (n:=51) B F10⟩ ⟨f28,_,m28,k28,b28,bk.mono (by decide)⟩ ⟨f12,_,m12,k12,b12,Wq (n:=51) F12⟩ ⟨f35,_,m35,k35,b35,ri.mono (by decide)⟩ ⟨f15,_,m15,k15,b15,sm 48⟩ ⟨f33,_,m33,k33,b33,rf.mono (by decide)⟩ ⟨f13,_,m13,k13,b13,tk 50⟩
theorem goes{l:W.OpenLaw}{q:Program}{loose:List Str}{XP:(Str->Option Value)->Heap->Prop}{YP:World->Heap->Prop}{d:DefRec}{K:Params->W.Frag}(hn:l.most=some 63)(hdf:d.params.defaults= [])(hY:∀ (w:World) (h:Heap),YP w h->(K w.params).In h)(F:∀ (w:World) (mg:Str->Option Value) (fa:Addr) (h:Heap),(K w.params).In h->h.Ns mainGlobals mg->mg d.name=some (.ref fa)->
   ∃ fd:FuncData,(∀ (s:Shared) (u:Value),BindsTo s fd ⟨[u], []⟩ [("script",u)])/\∀ base:Heap,(K w.params).In base->base.Ns mainGlobals mg->ZN l.prog w (K w.params) mg base CX0 53 fa fd ["script"] (M8 (K w.params))):
  W.WalkO q loose XP YP l.row.toRowW d [] (fun f vs=>PySem.call f vs):=
 L2.walk_of (n:=63) (k:=53) (x:="script") (CX:=fun _=>CX0) (sp:=fun w=>M8 (K w.params)) hn (by decide) hdf ⟨rfl,by decide,by decide⟩ hY F (fun _ _ a ns hl _ hS=>⟨a,ns,rfl,hS,hl,fun _=>rfl⟩) fun _ _ _ _ _ z=>z
end K4
namespace PySem.W.Fast
def tw17997825136074903235:=()
def tw14416632379938676407:=()
def tw16697879235003379738:=()
def tw16441228776303558116:=()
def tw5994770246022409661:=()
def tw6693768132119091570:=()
def tw4422732422419097465:=()
def tw9623912644704144872:=()
def tw13292041318492006431:=()
def tw6166800731191378664:=()
def tw2011534162366923811:=()
def tw8614331644223029833:=()
def tw10527848681294250952:=()
def tw2240116031948466353:=()
def tw1865734357628493155:=()
def tw8025356359951156212:=()
def tw18336041243286874928:=()
def tw1019937854726158245:=()
def tw17131071242053126819:=()
def tw17823360716978807831:=()
def tw706246989394483048:=()
def tw2087680342034046910:=()
def tw2549653300381991986:=()
def tw7766312885618861661:=()
def tw16755170425994949750:=()
def tw14797189029433155104:=()
def tw9396933933860055909:=()
def tw14842677718062022862:=()
def tw6097062908978705086:=()
def tw6987787170849715252:=()
def tw3640240782415561264:=()
def tw3934776431619401053:=()
def tw43369172199191310:=()
def tw14532449361146362248:=()
def tw3294540052474907426:=()
def tw7111043073659460343:=()
def tw3420641965519792560:=()
def tw2481739931346946424:=()
def tw792182871114838825:=()
def tw8701339342891727977:=()
def tw15285819638961811251:=()
def tw13114546965820918644:=()
def tw15086315130538370957:=()
def tw13078889018633104245:=()
def tw11840295924601894158:=()
def tw14386331159449954004:=()
def tw2488264810745969711:=()
def tw9363539898341997612:=()
def tw7440263500107058766:=()
def tw17841515100767284331:=()
def tw9195106050235229955:=()
def tw1462030062068593623:=()
def tw9169307331304480673:=()
def tw15238842952781748451:=()
def tw13525974406754714190:=()
def tw1426098593793617448:=()
def tw17029540071131849034:=()
def tw13645610640663105605:=()
def tw991101351898897390:=()
def tw6342247544991262335:=()
def tw3535019376673122120:=()
def tw1022859732820506770:=()
def tw6080702014333729475:=()
def tw3298670921284124591:=()
def tw12890569056530530510:=()
def tw4913835160497830901:=()
def tw12345482414639493171:=()
def tw8337203469236824465:=()
def tw6545455638122144297:=()
def tw16133896416427460062:=()
def tw7405142091968215207:=()
def tw1463438708765737294:=()
def tw11597792795235646378:=()
def tw1730452674492744705:=()
def tw5868984304179954625:=()
def tw4940625060451802098:=()
def tw5735970858944563864:=()
def tw2492057226511790146:=()
def tw11845986557806626194:=()
def tw17414607733681554567:=()
def tw3780887438903148012:=()
def tw7422701655144651081:=()
def tw782878562902294880:=()
def tw862404107003723505:=()
def tw2464514562826631012:=()
def tw11395400360805858760:=()
def tw16171028430101522107:=()
def tw15952196721130147807:=()
def tw7936569992283659355:=()
def tw4212191442431835250:=()
def tw10371686415914143629:=()
def tw14860911624727358079:=()
def tw3692419747303164321:=()
def tw4482876744355173564:=()
def tw721107057166239547:=()
def tw17505652249318758493:=()
def tw17709031194794716826:=()
def tw16660106589318665925:=()
def tw15903431774683742557:=()
def tw8240594139801916011:=()
def tw6262923192385160437:=()
def tw9315210770863918663:=()
def tw10793752894107848662:=()
def tw8232333251041468401:=()
def tw15800071046850692748:=()
def tw16963213294084018626:=()
def tw1234057254738056218:=()
def tw1518670888859370214:=()
def tw13573547317619579020:=()
def tw16510515796249085483:=()
def tw17316565412641041093:=()
def tw3319975012767565238:=()
def tw9261524962857697927:=()
def tw8691034308106271611:=()
def tw3213814397693145772:=()
def tw18145647036637387460:=()
def tw1506290677613566007:=()
def tw9118980904533709996:=()
def tw7399082071898995136:=()
def tw7915408522251366982:=()
def tw1835186697020923744:=()
def tw15838708532075522631:=()
def tw13406475415851715607:=()
def tw6300144363025213381:=()
def tw8590480018390138657:=()
def tw16754277316775142609:=()
def tw17563992131197957130:=()
def tw15288818653642338037:=()
def tw5758336921860348209:=()
def tw8025096845473743146:=()
def tw1341815269785604649:=()
def tw17674724924249286688:=()
def tw9432409331800203521:=()
def tw7735039195859364394:=()
def tw7466637651213647416:=()
def tw6065034213360453376:=()
def tw16873954514330076620:=()
def tw5047291692267511078:=()
def tw17852473002260110244:=()
def tw3256812989445541482:=()
end PySem.W.Fast
set_option tactic.hygienic true
open PySem PySem.W PyProof.Rows
set_option maxRecDepth 100000 in
set_option maxHeartbeats 0 in
theorem PySem.Challenge.cw_wantway_k06_books_told_holds : PySem.Challenge.rw_wantway_k06_books_told.Holds := by
  w_on; o_law; k_head; (case hw => w_witness2)
  k_fill
  refine K4.goes (l := PySem.Challenge.rw_wantway_k06_books_told) rfl rfl (fun w h Y => PySem.W.kIn_of Y) ?F
  case F =>
    intro w mg fa h KX G hmg
    refine' K4.all_at KX G hmg ?_ ?_ ?_ ?_ ?_ ?_ ?_ ?_ ?_ ?_ ?_ ?_ ?_ ?_ ?_ ?_ ?_ ?_ ?_ ?_ ?_ ?_ ?_ ?_ ?_ ?_ ?_ ?_ ?_ ?_ ?_ ?_ ?_ ?_ ?_ ?_ ?_ ?_ ?_ ?_ ?_ ?_ ?_ ?_ ?_ ?_ ?_ ?_ ?_ ?_ ?_ ?_ ?_ ?_ ?_ ?_ ?_ ?_ ?_ ?_ ?_ ?_ ?_ ?_ ?_ ?_ ?_ ?_ ?_ ?_ ?_ ?_ ?_ ?_ ?_ ?_ ?_ ?_ ?_ ?_ ?_ ?_ ?_ ?_ ?_ ?_ ?_ ?_ ?_ ?_ ?_ ?_ ?_ ?_ ?_ ?_ ?_ ?_ ?_ ?_ ?_ ?_ ?_ ?_ ?_ ?_ ?_ ?_ ?_ ?_ ?_ ?_ ?_ ?_ ?_ ?_ ?_ ?_ ?_ ?_ ?_ ?_ ?_ ?_ ?_ ?_ ?_ ?_ ?_ ?_ ?_ ?_ ?_ ?_
    any_goals first | k_is | (refine' And.intro ?zz0 (K4.At.of ?zz1 ?zz2 ?zz3); (case zz0 => first | k_is | (constructor <;> k_is)); (case zz1 => k_is); (case zz2 => k_is); (case zz3 => k_is)) | (unfold K4.GN; k_is) | (unfold K4.GC; k_is) | (unfold K4.GF; k_is) | (refine' And.intro ?zz0 ?zz1; (case zz0 => k_is); (case zz1 => exact ⟨_, rfl⟩)) | kit_is | k_exc | (refine K4.CA.mk ?_ ?_ ?_ ?_ ?_ ?_ <;> k_is) | (refine And.intro ⟨_, _, rfl, rfl⟩ ?_; k_keys)
