import PyProof.Rows.All
import Wide.All
import OpenK.AllK
import Wide.FinOn
import KE.KDictList
import KE.KDictOf
import KE.KRevSl
import KE.KSortTup
import KE.LcSums
import Lean
import PyProof.AttrMissSeq
import PyProof.AutoSeq1
import PyProof.DictWalks
import PyProof.EnumStmt
import PyProof.EqAt
import PyProof.EqKinds
import PyProof.ExcInit
import PyProof.ListOps
import PyProof.ListRange
import PyProof.MinMaxWalk
import PyProof.NeKinds
import PyProof.Rows.SumGenD
import PyProof.SeqRoads2
import PyProof.StrWalks
import PyProof.SumWalk
import PyProof.TupleCall
import PyProof.WalksMore
import PyProof.ZipIter
import PySem.Challenge.RW_wantway_k75_no_row_bodies
set_option Elab.async false
set_option linter.all false
set_option maxRecDepth 100000
set_option maxHeartbeats 8000000
set_option tactic.hygienic false
abbrev za:=@List.map_map
abbrev ze:=@List.mem_filter
abbrev zg:=@List.length_singleton
abbrev zh:=@List.mem_iff_getElem?
abbrev zj:=@List.getD_eq_getElem?_getD
abbrev zn:=@List.getElem?_append_left
abbrev zo:=@List.getElem?_eq_none_iff
abbrev zp:=@List.length_drop
abbrev zt:=@List.getElem?_append_right
abbrev zu:=@PySem.W.mg_none_of
abbrev zw:=@List.mem_of_find?_eq_some
abbrev zx:=@PySem.wpAny_setField_rec
abbrev zy:=@PySem.wpAny_truthy_bool
abbrev zJ:=@Nat.lt_irrefl
abbrev zK:=@List.find?_cons
abbrev zM:=@PySem.Heap.get?_update_other
abbrev zN:=@List.length_filter_le
abbrev zO:=@List.nodup_cons
abbrev zP:=@PySem.Heap.get?_update_self
abbrev zQ:=@Nat.min_eq_left
abbrev zR:=@PySem.Heap.size_push
abbrev zS:=@List.take_length
abbrev zT:=@List.mem_nil_iff
abbrev zU:=@List.take_sublist
abbrev zV:=@List.append_nil
abbrev zW:=@PySem.wpAny_newObj_type
abbrev zX:=@List.lookup_cons
abbrev zY:=@Nat.le_max_right
abbrev zZ:=@List.take_append_drop
abbrev ya:=@PySem.wpAny_standAt
abbrev yb:=@PySem.wpAny_call_entry
abbrev yd:=@Bool.eq_iff_iff
abbrev ye:=@Nat.le_max_left
abbrev yf:=@Nat.ne_of_gt
abbrev yg:=@PySem.wpAny_Call_Name_kw
abbrev yh:=@PySem.wpAny_seqItems
abbrev yi:=@List.mem_of_mem_drop
abbrev yj:=@List.map_take
abbrev yk:=@PyProof.Rows.slot_tuple_getitem
abbrev yn:=@PySem.mem_of_lookup
abbrev yo:=@List.getElem?_replicate
abbrev yp:=@List.not_mem_nil
abbrev yq:=@Nat.le_of_eq
abbrev yr:=@PySem.W.kia_one
abbrev yt:=@List.of_mem_zip
abbrev yu:=@PyProof.Rows.callWith_type1
abbrev yw:=@List.append_assoc
abbrev yx:=@List.ext_getElem?
abbrev yz:=@List.pairwise_map
abbrev yA:=@List.mem_append_left
abbrev yB:=@List.getElem?_set_ne
abbrev yE:=@Bool.and_eq_true_iff
abbrev yF:=@Nat.mul_le_mul_right
abbrev yG:=@Nat.lt_succ_self
abbrev yH:=@List.map_nil
abbrev yI:=@PySem.F.slot_list_extend
abbrev yJ:=@PySem.F.type_list_extend
abbrev yK:=@Bool.false_eq_true
abbrev yL:=@List.getElem?_drop
abbrev yM:=@List.getElem?_take
abbrev yN:=@Int.toNat_natCast
abbrev yO:=@PySem.wpAny_attempt
abbrev yP:=@List.nodup_append
abbrev yQ:=@Nat.succ_mul
abbrev yR:=@Bool.not_eq_true'
abbrev yS:=@PySem.tupleKind_room_in1
abbrev yT:=@List.cons_append
abbrev yU:=@Nat.le_of_not_lt
abbrev yV:=@List.getElem_mem
abbrev yW:=@PySem.wpAny_pyIter_list
abbrev yX:=@PySem.codeAny_mono
abbrev yY:=@Nat.le_succ
abbrev yZ:=@PySem.wpAny_typeOf
abbrev y6:=@PySem.wpAny_setField
abbrev y9:=@List.mem_iff_getElem
abbrev vb:=@List.forIn_cons
abbrev vc:=@List.foldl_cons
abbrev vd:=@Int.natCast_mul
abbrev ve:=@Int.emod_nonneg
abbrev vf:=@PySem.F.slot_enumerate_next
abbrev vg:=@PySem.wpAny_rule
abbrev vh:=@PySem.Heap.get?_none_of_le
abbrev vi:=@Bool.and_false
abbrev vj:=@Array.getElem?_eq_some_iff
abbrev vk:=@List.find?_eq_none
abbrev vm:=@List.take_zero
abbrev vo:=@PySem.wpAny_passesOwn
abbrev vp:=@List.flatMap_cons
abbrev vq:=@List.length_range
abbrev vv:=@PySem.W.callWith_K
abbrev vw:=@Option.isSome_iff_exists
abbrev vy:=@PySem.F.args_tuple_add_2
abbrev vz:=@List.any_cons
abbrev vA:=@PySem.F.entry_tuple_add
abbrev vC:=@List.all_eq_true
abbrev vD:=@Nat.le_add_right
abbrev vE:=@List.map_snd_zip
abbrev vF:=@List.map_fst_zip
abbrev vG:=@List.getElem?_set_self
abbrev vH:=@PySem.F.slot_tuple_add
abbrev vI:=@Nat.max_le
abbrev vJ:=@List.length_pos_of_mem
abbrev vK:=@List.length_set
abbrev vL:=@Option.map_some
abbrev vM:=@List.sum_append
abbrev vN:=@List.length_zip
abbrev vO:=@PySem.F.slot_dict_get
abbrev vP:=@PySem.wpAny_list_append_plain
abbrev vQ:=@List.drop_zero
abbrev vR:=@List.take_take
abbrev vS:=@List.filterMap_cons
abbrev vT:=@Array.length_toList
abbrev vU:=@Nat.add_sub_cancel'
abbrev vV:=@List.getElem?_range
abbrev vW:=@List.flatMap_append
abbrev vX:=@List.map_congr_left
abbrev vY:=@PySem.wpAny_execs_nil
abbrev vZ:=@List.all_cons
abbrev v0:=@PySem.F.slot_zip_next
abbrev v7:=@Nat.lt_of_le_of_lt
abbrev v8:=@PySem.W.looks_findIn
abbrev ja:=@Int.emod_lt_of_pos
abbrev jb:=@Option.isSome_map
abbrev jc:=@PySem.codeAny_call_builtin
abbrev jd:=@Nat.le_succ_of_le
abbrev je:=@Nat.lt_or_ge
abbrev jf:=@PySem.wpAny_updateSeq_pair
abbrev jg:=@Nat.sub_self
abbrev jh:=@List.take_add_one
abbrev ji:=@List.foldl_append
abbrev jj:=@Nat.lt_trichotomy
abbrev jk:=@PySem.Heap.get?_update_ne
abbrev jm:=@List.mem_flatMap
abbrev jn:=@List.any_eq_true
abbrev jo:=@Nat.succ_le_succ
abbrev ZA:=@List.length_map
abbrev ZC:=@List.getElem?_eq_getElem
abbrev ZD:=@PySem.Heap.get?_push_of_some
abbrev ZE:=@List.getElem?_eq_some_iff
abbrev ZF:=@Nat.le_refl
abbrev ZG:=@List.getElem?_map
abbrev ZH:=@List.mem_of_getElem?
abbrev ZI:=@List.map_append
abbrev ZJ:=@List.length_append
abbrev ZK:=@List.mem_cons_of_mem
abbrev ZL:=@List.length_take
abbrev ZM:=@List.size_toArray
abbrev ZN:=@PySem.Heap.lt_size
abbrev ZO:=@List.mem_singleton
abbrev ZP:=@Option.some.inj
abbrev ZQ:=@List.mem_append_right
abbrev ZT:=@List.map_cons
abbrev ZU:=@List.mem_map
abbrev ZV:=@List.mem_append
abbrev ZW:=@PySem.Heap.get?_push_size
abbrev ZX:=@Bool.and_eq_true
abbrev ZY:=@List.mem_cons_self
abbrev ZZ:=@Nat.le_trans
abbrev Za:=@Nat.zero_le
abbrev Zb:=@List.mem_cons
abbrev Zc:=@Nat.ne_of_lt
abbrev Zd:=@List.length_cons
abbrev Ze:=@List.take_of_length_le
abbrev Zf:=@Nat.le_of_lt
abbrev Zg:=@Bool.false_ne_true
abbrev Zh:=@Option.map_eq_some_iff
abbrev Zi:=@List.mem_of_mem_take
abbrev Zj:=@PySem.wpAny_bind
abbrev Zk:=@PySem.wpAny_pure
abbrev Zl:=@PySem.wpAny_mono
abbrev Zm:=@PySem.wpAny_field
abbrev Zn:=@if_pos
abbrev Zo:=@if_neg
abbrev Zp:=@absurd
abbrev Zq:=@Ne.symm
abbrev Zr:=@of_decide_eq_true
abbrev Zs:=@PySem.boot_len
abbrev Zt:=@PySem.PassesOwn.never
abbrev Zu:=@Nat.not_lt_zero
abbrev Zv:=@Nat.lt_of_lt_of_le
abbrev Zw:=@decide_eq_false
abbrev Zx:=@PySem.F.plainAttrs_list
abbrev Zy:=@PySem.F.slot_list_append
abbrev Zz:=@PySem.F.type_list_append
local macro_rules|`(tactic|omega)=>`(tactic|lia)
namespace L2
open PySem PySem.Spec PyProof.Rows
theorem sl(n:Nat)(h:n<=sizeLine:=by decide):n<=sizeLine:=h
abbrev Key:=Sum Int Str
abbrev kP:=List Expr
abbrev kO:=List (List Int)
abbrev kM:=Str->Nat
abbrev kC:=Array Value
abbrev kB:=Option Addr
abbrev kA:=List Addr
abbrev kz:=List Int
abbrev ky:=Option Int
abbrev kq:=List Str
abbrev kj:=List Value
abbrev kh:=Value->Shared->Prop
abbrev kb:=List (Addr×Obj)
def Jw:Key->Value->Bool
 |.inl k,v=>Value.isInt k v
 |.inr x,v=>Value.isStrOf x v
def Cw(w:World):Key->Int
 |.inl k=>hashInt k
 |.inr x=>hashStr w x
theorem Vr:∀{k:Key}{v:Value},Jw k v=true->(∃i t,k=Sum.inl i/\v=Value.int i t)\/(∃x t,k=Sum.inr x/\v=Value.str x t)
 |.inl i,v,h=>by
  obtain⟨t,e⟩:=Value.isInt_shape (k:=i) (v:=v) h;exact .inl ⟨i,t,rfl,e⟩
 |.inr x,v,h=>by
  obtain⟨t,e⟩:=Value.isStrOf_shape (x:=x) (v:=v) h;exact .inr ⟨x,t,rfl,e⟩
theorem Fb(i:Int)(t:Tok):Jw (.inl i) (.int i t)=true:=by simp[Jw,Value.isInt]
theorem Rm(x:Str)(t:Tok):Jw (.inr x) (.str x t)=true:=by simp[Jw,Value.isStrOf]
theorem Sr(a b:Int):decide ((Sum.inl a:Key)=Sum.inl b)=(a==b):=by
 by_cases e:a=b
 .subst e;simp
 .have h:¬(Sum.inl a:Key)=Sum.inl b:=λq=>e (Sum.inl.inj q)
  rw[Zw h];exact(beq_eq_false_iff_ne.mpr e).symm
theorem Sk(a b:Str):decide ((Sum.inr a:Key)=Sum.inr b)=decide (a=b):=by
 by_cases e:a=b
 .subst e;simp
 .have h:¬(Sum.inr a:Key)=Sum.inr b:=λq=>e (Sum.inr.inj q)
  rw[Zw h,Zw e]
theorem Sm(a:Int)(b:Str):decide ((Sum.inl a:Key)=Sum.inr b)=false:=Zw (λq=>nomatch q)
theorem Sl(a:Str)(b:Int):decide ((Sum.inr a:Key)=Sum.inl b)=false:=Zw (λq=>nomatch q)
def VP(prog:Program)(w:World):PySem.KeyKind prog w Key where
 is:=Jw
 hash:=Cw w
 inj:=λv a b M G=>by
  rcases Vr M with⟨i,t,rfl,rfl⟩|⟨x,t,rfl,rfl⟩
  .rcases Vr G with⟨j,u,rfl,e⟩|⟨y,u,rfl,e⟩
   .injection e with Z _;rw[Z]
   .exact nomatch e
  .rcases Vr G with⟨j,u,rfl,e⟩|⟨y,u,rfl,e⟩
   .exact nomatch e
   .injection e with Z _;rw[Z]
 byValue:=λk v h=>by
  rcases Vr h with⟨i,t,rfl,rfl⟩|⟨x,t,rfl,rfl⟩ <;> rfl
 pyHash:=λJ h=>by
  rcases Vr J with⟨i,t,rfl,rfl⟩|⟨x,t,rfl,rfl⟩
  .exact wpAny_pyHash_int h
  .exact wpAny_pyHash_str h
 eqBool:=λL J h=>by
  rcases Vr L with⟨i,t,rfl,rfl⟩|⟨x,t,rfl,rfl⟩
  .rcases Vr J with⟨j,u,rfl,rfl⟩|⟨y,u,rfl,rfl⟩
   .rw [Sr]at h;exact wpAny_eqBool_int h
   .rw [Sm]at h;exact SeqAt.EqAt.int_str i t y u _ _ _ _ h
  .rcases Vr J with⟨j,u,rfl,rfl⟩|⟨y,u,rfl,rfl⟩
   .rw [Sl]at h;exact SeqAt.EqAt.str_int x t j u _ _ _ _ h
   .rw [Sk]at h;exact wpAny_eqBool_str h
 «strs»:=λk x t v h=>by
  rcases Vr h with⟨i,u,rfl,e⟩|⟨y,u,rfl,e⟩
  .exact nomatch e
  .injection e with Z _
   subst Z;cases v <;> rfl
theorem Nk(Z:Program)(w:World)(i:Int)(t:Tok):(VP Z w).is (.inl i) (.int i t)=true:=Fb i t
theorem Nj(Z:Program)(w:World)(x:Str)(t:Tok):(VP Z w).is (.inr x) (.str x t)=true:=Rm x t
inductive V where
 |non|bl (b:Bool)|int (i:Int)|str (x:Str)|byt (b:Array UInt8)|flt (b:UInt64)|ref (a:Addr)|ty (n:String)
 deriving DecidableEq
abbrev kJ:=Option V
abbrev kF:=List V
abbrev kE:=List (Key×V)
def RelV:V->Value->Prop
 |.non,u=>u=Value.none
 |.bl b,u=>u=Value.bool b
 |.int i,u=>∃t,u=Value.int i t
 |.str x,u=>∃t,u=Value.str x t
 |.byt b,u=>∃t,u=Value.bytes b t
 |.flt b,u=>∃t,u=Value.float b t
 |.ref a,u=>u=Value.ref a
 |.ty n,u=>u=Value.type n
abbrev Vals:List V->List Value->Prop:=Paired RelV
theorem Vals.length(r:Vals Z J):Z.length=J.length:=Paired.length r
theorem Vals.get:∀{Z:kF}{J:kj}{i:Nat}{x:V},Vals Z J->Z[i]?=some x->∃u,J[i]?=some u/\RelV x u
 |_,_,_,_,.nil,e=>by simp at e
 |_,_,0,_,.cons r _,e=>by simp at e;subst e;exact⟨_,rfl,r⟩
 |_,_,i+1,x,.cons _ t,e=>by
  obtain⟨u,L,G⟩:=Vals.get (i:=i) (x:=x) t (by simpa using e);exact⟨u,by simpa using L,G⟩
theorem Vals.set(r:RelV x u):∀{Z:kF}{J:kj}(i:Nat),Vals Z J->Vals (Z.set i x) (J.set i u)
 |_,_,_,.nil=>.nil
 |_,_,0,.cons _ t=>.cons r t
 |_,_,i+1,.cons q t=>.cons q (Vals.set r i t)
theorem Vals.append:∀{J Z:kF}{L G:kj},Vals J L->Vals Z G->Vals (J++ Z) (L++ G)
 |_,_,_,_,.nil,s=>s
 |_,_,_,_,.cons r t,s=>.cons r (Vals.append t s)
theorem Vals.take:∀{Z:kF}{J:kj}(n:Nat),Vals Z J->Vals (Z.take n) (J.take n)
 |_,_,0,_=>.nil
 |_,_,_+1,.nil=>.nil
 |_,_,n+1,.cons r t=>.cons r (Vals.take n t)
theorem Vals.drop:∀{Z:kF}{J:kj}(n:Nat),Vals Z J->Vals (Z.drop n) (J.drop n)
 |_,_,0,r=>r
 |_,_,_+1,.nil=>.nil
 |_,_,n+1,.cons _ t=>Vals.drop n t
def UX:Option V->Option Value->Prop
 |some v,some u=>RelV v u
 |none,none=>True
 |_,_=>False
def KV{κ:Type}:List (κ×V)->List (κ×Value)->Prop:=Paired λ(p:κ×V)(q:κ×Value)=>p.1=q.1/\RelV p.2 q.2
def kV:Key->V
 |.inl i=>.int i
 |.inr x=>.str x
inductive HO where
 /-- a list -/
 |lst (xs:List V)
 /-- a tuple (never changes) -/
 |tup (xs:List V)
 /-- a dict whose keys are ints and texts;one whose keys are tuples of ints and texts (the empty one is both) -/
 |dK (kvs:List (Key×V))|dT (kvs:List (List Key×V))
 /-- a set of ints:its members,its size -/
 |set (S:Int->Bool) (n:Nat)
 /-- an instance of the class at C,its dict at dx,its attributes -/
 |ins (C dx:Addr) (fs:List (Str×V))
 /-- the dict of the instance at x -/
 |own (x:Addr)
 /-- the dict of an exception -/
 |xd (fs:List (Str×V))
 /-- a bound method,f of x -/
 |met (f x:Addr)
 /-- a range object lo,lo+1,.. below hi -/
 |rng (lo hi:Int)
 /-- a thing that is known to the object (the script;a dict while a loop walks it):read,never written while it is so -/
 |frz (o:Obj) (u:HO)
 /-- a code object's table -/
 |tbl (ps:Array Value)
 /-- any other thing,by what is true of its one object (a def of one's own:SetO a S n:=HO.ext λh=>..) -/
 |ext (φ:Heap->Prop)
abbrev Hp:=Addr->Option HO
def upd(H:Hp)(a:Addr)(o:HO):Hp:=λb=>if b=a then some o else H b
theorem Ya:upd H a o a=some o:=by unfold upd;rw[Zn rfl]
theorem Yd(h:b≠a):upd H a o b=H b:=by unfold upd;rw[Zo h]
theorem JR{H:Hp}(h:H a=some o)(Z:H b=some u)(d:o≠u):a≠b:=by
 intro e;subst e;rw[h]at Z;exact d (ZP Z)
theorem Yf{H:Hp}(h:H a=some o)(Z:H b=none):a≠b:=by
 intro e;subst e;rw[h]at Z;cases Z
def Gi(h:Heap)(a:Addr)(items:kC):Prop:=∃o,h.get? a=some o/\o.dict=none/\o.cls=.type "tuple" /\∃n,o.data=.seq items n
theorem Gi.is(x:Gi h a items):IsTup h a items:=let⟨o,G,_,J,Z⟩:=x;⟨o,G,J,Z⟩
theorem Gi.keeps(x:Gi h a items)(J:∀b o,h.get? b=some o->G.get? b=some o):Gi G a items:=let⟨o,Z,r⟩:=x;⟨o,J a o Z,r⟩
theorem Gi.new(h:Heap)(items:kC):Gi (h.push {cls:=.type "tuple",data:=.seq items}) h.objs.size items:=⟨_,ZW _ rfl,rfl,rfl,_,rfl⟩
section
variable(P:Program)(w:World)
def VX(H:Hp)(h:Heap)(a:Addr):HO->Prop
 |.lst xs=>xs.length<=sizeLine/\∃(its:kj)(n:Nat),Vals xs its/\h.get? a=some {cls:=.type "list",data:=.seq its.toArray n}
 |.tup xs=>xs.length<=sizeLine/\∃its:kj,Vals xs its/\Gi h a its.toArray
 |.dK kvs=>kvs.length<=sizeLine/\(a==sysModules)=false/\∃vs,KV kvs vs/\h.DictOf (VP P w) a vs
 |.dT kvs=>kvs.length<=sizeLine/\(a==sysModules)=false/\∃xs:List (List Key×Addr×Value),
   Paired (λ(p:List Key×V)(q:List Key×Addr×Value)=>p.1=q.1/\H q.2.1=some (.tup (p.1.map kV))/\RelV p.2 q.2.2) kvs xs/\
   ∃o es ep,h.get? a=some o/\o.ExactDict/\o.data=.dict es ep/\es.toList=xs.map (entryOfKey (tupleKind (VP P w)))/\(xs.map (·.1)).Nodup
 |.set S n=>h.SetOf (intKind P w) a S n
 |.ins C dx fs=>H dx=some (.own a)/\fs.length<=1000/\dx≠a/\h.get? a=some (W.instObj C dx)/\
   ∃mA,h.Ns1 dx mA/\(∀f,UX (fs.lookup f) (mA f))/\PySem.Within mA (fs.map (·.1))
 |.own _=>∃o,h.get? a=some o
 |.xd fs=>∃mA,h.Ns1 a mA/\∀f,UX (fs.lookup f) (mA f)
 |.rng lo hi=>∃t u v,h.get? a=some {cls:=.type "range",data:=.fields #[.int lo t,.int hi u,.int 1 v]}
 |.frz o u=>h.get? a=some o/\VX H h a u
 |.tbl ps=>h.get? a=some {cls:=.none,data:=.fields ps}
 |.met f x=>h.get? a=some (W.methodObj (.ref f) (.ref x))
 |.ext φ=>φ h/\(∃o,h.get? a=some o)/\∀h1 h2:Heap,φ h1->(∀o,h1.get? a=some o->h2.get? a=some o)->φ h2
def HOk(H:Hp)(h:Heap):Prop:=∀a o,H a=some o->VX P w H h a o
end
section
theorem VX.lt(x:VX P w H h a o):a<h.objs.size:=by
 cases o with
 |lst J=>obtain⟨_,_,_,_,e⟩:=x;exact ZN e
 |tup J=>obtain⟨_,_,_,p⟩:=x;exact p.is.lt
 |dK Z=>obtain⟨_,_,_,_,o,_,_,e,_⟩:=x;exact ZN e
 |dT Z=>obtain⟨_,_,_,_,o,_,_,e,_⟩:=x;exact ZN e
 |set S n=>obtain⟨o,_,_,_,e,_⟩:=x;exact ZN e
 |ins C R G=>obtain⟨_,_,_,e,_⟩:=x;exact ZN e
 |own y=>obtain⟨_,e⟩:=x;exact ZN e
 |xd G=>obtain⟨_,⟨_,_,_,e,_⟩,_⟩:=x;exact ZN e
 |rng N O=>obtain⟨_,_,_,e⟩:=x;exact ZN e
 |frz M u=>obtain⟨e,_⟩:=x;exact ZN e
 |tbl L=>exact ZN (show h.get? a=some _ from x)
 |met f y=>exact ZN (show h.get? a=some _ from x)
 |ext φ=>obtain⟨_,⟨_,e⟩,_⟩:=x;exact ZN e
theorem Paired.mapP:∀{J:List α}{Z:List β},Paired F J Z->(∀a b,F a b->G a b)->Paired G J Z
 |_,_,.nil,_=>.nil
 |_,_,.cons r t,f=>.cons (f _ _ r) (Paired.mapP t f)
theorem VX.stay(x:VX P w H h a o)(k:∀b u,(b=a\/H b=some (.own a))->h.get? b=some u->T.get? b=some u)(U:∀b,H b=some (.own a)->E b=some (.own a))(I:∀b M,H b=some (.tup M)->E b=some (.tup M)):VX P w E T a o:=by
 induction o with
 |lst M=>obtain⟨z,L,n,r,e⟩:=x;exact⟨z,L,n,r,k _ _ (.inl rfl) e⟩
 |tup M=>obtain⟨z,L,r,Z,e,c⟩:=x;exact⟨z,L,r,Z,k _ _ (.inl rfl) e,c⟩
 |dK R=>obtain⟨z,y,F,r,Z,J,G,e,c⟩:=x;exact⟨z,y,F,r,Z,J,G,k _ _ (.inl rfl) e,c⟩
 |dT R=>
  obtain⟨z,y,M,r,Z,J,G,e,c⟩:=x;exact⟨z,y,M,Paired.mapP r λp q z=>⟨z.1,I _ _ z.2.1,z.2.2⟩,Z,J,G,k _ _ (.inl rfl) e,c⟩
 |set S n=>obtain⟨Z,J,G,t,e,c⟩:=x;exact⟨Z,J,G,t,k _ _ (.inl rfl) e,c⟩
 |ins C g X=>
  obtain⟨d,z,A,e,O,⟨N,J,G,Q,c⟩,r⟩:=x;exact⟨U _ d,z,A,k _ _ (.inl rfl) e,O,⟨N,J,G,k _ _ (.inr d) Q,c⟩,r⟩
 |own y=>obtain⟨Z,e⟩:=x;exact⟨Z,k _ _ (.inl rfl) e⟩
 |xd X=>obtain⟨O,⟨N,J,G,e,c⟩,r⟩:=x;exact⟨O,⟨N,J,G,k _ _ (.inl rfl) e,c⟩,r⟩
 |rng j m=>obtain⟨t,u,v,e⟩:=x;exact⟨t,u,v,k _ _ (.inl rfl) e⟩
 |frz Z u ih=>obtain⟨e,q⟩:=x;exact⟨k _ _ (.inl rfl) e,ih q⟩
 |tbl D=>
  have e:h.get? a=some {cls:=.none,data:=.fields D}:=x;show T.get? a=some {cls:=.none,data:=.fields D};exact k a _ (.inl rfl) e
 |met f y=>
  have e:h.get? a=some (W.methodObj (.ref f) (.ref y)):=x;show T.get? a=some (W.methodObj (.ref f) (.ref y));exact k a _ (.inl rfl) e
 |ext φ=>obtain⟨p,⟨o,e⟩,B⟩:=x;exact⟨B _ _ p λo q=>k _ _ (.inl rfl) q,⟨o,k _ _ (.inl rfl) e⟩,B⟩
theorem HOk.lt(x:HOk P w H h)(e:H a=some o):a<h.objs.size:=(x a o e).lt
theorem HOk.fresh(x:HOk P w H h)(e:h.objs.size<=a):H a=none:=by
 cases q:H a with
 |none=>rfl
 |some u=>exact Zp (Zv (x.lt q) e) (zJ _)
theorem HOk.kept(x:HOk P w H h)(k:∀b u,h.get? b=some u->Z.get? b=some u):HOk P w H Z:=λa o e=>
 (x a o e).stay (λb u _ q=>k b u q) (λ_ q=>q) λ_ _ q=>q
theorem HOk.laid(x:HOk P w H h)(k:∀b u,h.get? b=some u->h'.get? b=some u)(G:h.objs.size<=a)(Z:VX P w (upd H a o) h' a o):HOk P w (upd H a o) h':=λb u e=>by
 have J:=x.fresh G
 by_cases hb:b=a
 .subst hb;rw[Ya]at e;cases e;exact Z
 .rw [Yd hb]at e
  exact(x b u e).stay (λc v _ q=>k c v q) (λc q=>by rw[Yd (Yf q J)];exact q) λc L q=>by rw[Yd (Yf q J)];exact q
end
def Rd(H:Hp)(a:Addr)(u:HO):Prop:=H a=some u \/ ∃o,H a=some (.frz o u)
theorem Rd.ok(r:Rd H a u)(x:HOk P w H h):VX P w H h a u:=by
 rcases r with r|⟨o,r⟩
 .exact x a u r
 .obtain ⟨_,q⟩:=x a _ r
  exact q
def Mut:Option HO->Prop
 |some (.lst _)=>True
 |some (.dK _)=>True
 |some (.dT _)=>True
 |some (.set _ _)=>True
 |some (.ins _ _ _)=>True
 |some (.ext _)=>True
 |_=>False
section
theorem HOk.write(T:HOk P w H h)(L:Mut (H x))(R:e=x\/H e=some (.own x))(k:∀b u,b≠e->h.get? b=some u->h'.get? b=some u)(O:∃u,h'.get? e=some u)(N:VX P w (upd H x o') h' x o'):HOk P w (upd H x o') h':=λb u q=>by
 have Z:∀c y,H c=some (.own y)->c≠x:=λc y r z=>by subst z;rw[r]at L;exact L
 have J:∀c G,H c=some (.tup G)->c≠x:=λc G r z=>by subst z;rw[r]at L;exact L
 by_cases hb:b=x
 .subst hb;rw[Ya]at q;cases q;exact N
 .rw [Yd hb]at q
  by_cases hbe:b=e
  .have q':H b=some (.own x):=by
    rcases R with z|z
    .exact Zp (hbe.trans z) hb
    .rw [hbe];exact z
   rw[q]at q';cases q';obtain⟨v,B⟩:=O;exact⟨v,by rw[hbe];exact B⟩
  .refine (T b u q).stay (λc v M r=>k c v ?_ r) (λc r=>by rw[Yd (Z c b r)];exact r) λc G r=>by rw[Yd (J c G r)];exact r
   rcases M with rfl|M
   .exact hbe
   .rintro rfl
    rcases R with z|z
    .exact Z c b M z
    .rw [M]at z;cases z;exact hb rfl
end
structure Un(fs ex:List Addr)(H H':Hp)(h h':Heap):Prop where
 keep:∀b o,h.get? b=some o->H b=none->b∉fs->b∉ex->h'.get? b=some o
 slot:∀b o,h.get? b=some o->H b=none->b∈fs->b∉ex->∃sl,h'.get? b=some {o with slots:=sl}
 free:∀b o,h.get? b=some o->H b=none->b∉ex->H' b=none
 there:∀b o,h.get? b=some o->b∉ex->∃o',h'.get? b=some o'
 tups:∀b xs,H b=some (.tup xs)->H' b=some (.tup xs)
 frzs:∀b o u,H b=some (.frz o u)->H' b=some (.frz o u)
 tbls:∀b ps,H b=some (.tbl ps)->∃more,H' b=some (.tbl (ps++ more))
section
variable{fs fs' ex ex':kA}{H H1 H2:Hp}{h h1 h2 h':Heap}{a x e:Addr}{o:HO}
theorem Un.any(u:Un fs ex H H1 h h1)(q:h.get? b=some ob)(n:H b=none)(J:b∉ex):∃sl,h1.get? b=some {ob with slots:=sl}:=by
 by_cases hb:b∈fs
 .exact u.slot b ob q n hb J
 .exact ⟨ob.slots,u.keep b ob q n hb J⟩
theorem Un.kept(k:∀b u,h.get? b=some u->h'.get? b=some u):Un fs ex H H h h':=
 ⟨λb Z q _ _ _=>k b Z q,λb Z q _ _ _=>⟨Z.slots,k b Z q⟩,λ_ _ _ n _=>n,λb Z q _=>⟨Z,k b Z q⟩,λ_ _ q=>q,λ_ _ _ q=>q,λ_ J q=>⟨#[],by rw[q];simp⟩⟩
theorem Un.refl:Un fs ex H H h h:=Un.kept λ_ _ q=>q
theorem Un.laid(k:∀b u,h.get? b=some u->h'.get? b=some u)(G:h.objs.size<=a)(Z:H a=none):Un fs ex H (upd H a o) h h' where
 keep:=λb u q _ _ _=>k b u q
 slot:=λb u q _ _ _=>⟨u.slots,k b u q⟩
 free:=λb u q n _=>by rw[Yd (Zc (Zv (ZN q) G))];exact n
 there:=λb u q _=>⟨u,k b u q⟩
 tups:=λb J q=>by rw[Yd (Yf q Z)];exact q
 frzs:=λb u J q=>by rw[Yd (Yf q Z)];exact q
 tbls:=λb L q=>⟨#[],by rw[Yd (Yf q Z),q];simp⟩
theorem Un.write(Z:Mut (H x))(R:e=x\/H e=some (.own x))(k:∀b u,b≠e->h.get? b=some u->h'.get? b=some u)(G:∃u,h'.get? e=some u):Un fs ex H (upd H x o) h h':=by
 have L:∀b,H b=none->b≠x:=λb n z=>by subst z;rw[n]at Z;exact Z
 have M:∀b,H b=none->b≠e:=λb n z=>by
  subst z;rcases R with r|r
  .exact L b n r
  .rw [n]at r;cases r
 have J:∀b u,H b=some u->¬Mut (some u)->b≠x:=λb u q O z=>by subst z;rw[q]at Z;exact O Z
 refine⟨λb u q n _ _=>k b u (M b n) q,λb u q n _ _=>⟨u.slots,k b u (M b n) q⟩,λb u q n _=>by rw[Yd (L b n)];exact n,λb u q _=>?_,
  λb N q=>by rw[Yd (J b _ q λz=>z)];exact q,λb u N q=>by rw[Yd (J b _ q λz=>z)];exact q,λb T q=>⟨#[],by rw[Yd (J b _ q λz=>z),q];simp⟩⟩
 by_cases hbe:b=e
 .subst hbe;exact G
 .exact ⟨u,k b u hbe q⟩
end
def trk(h:Heap)(H:Hp):kA:=(List.range h.objs.size).filter λa=>(H a).isSome
def M4(h:Heap)(H:Hp):Heap:=W.hideAll h (trk h H)
theorem Fg(h:Heap)(H:Hp):(M4 h H).objs.size=h.objs.size:=W.hideAll_size _ _
theorem LX(e:h.get? b=some o)(n:H b=none):(M4 h H).get? b=some o:=
 W.hideAll_get _ e λZ=>by
  have q:(H b).isSome=true:=(ze.mp Z).2;rw[n]at q;simp at q
theorem PM(e:(M4 h H).get? b=some o):h.get? b=some o/\H b=none:=by
 have Z:h.get? b=some o:=W.of_hideAll (trk h H) e;refine⟨Z,?_⟩
 cases q:H b with
 |none=>rfl
 |some x=>
  have J:b∈trk h H:=ze.mpr ⟨List.mem_range.mpr (ZN Z),by simp[q]⟩;have z:(M4 h H).get? b=none:=W.hideAll_none (trk h H) J;rw[z]at e;cases e
structure Mod(K:W.Frag)(mg:Str->Option Value)(base:Heap):Prop where
 kin:K.In base
 glob:base.Ns mainGlobals mg
 blt:∃mb,base.Ns builtinsNs mb/\∀x:Str,x≠"__name__" ->mb x=bootBuiltins x
 nolimit:base.NoLimit
structure Cx where
 prog:Program
 w:World
 K:W.Frag
 mg:Str->Option Value
 base:Heap
 A:Around
 N:List Str
 s₀:Shared
 H₀:Hp
 env:Env
 outer:List Env
 stack:List Env
 ex:List Addr
 fn:Str->Bool
 calm:Bool
 pn:List (Addr×Obj)
 xe:Value->Shared->Prop
def frs(l:List Env):kA:=l.filterMap (·.frame)
abbrev Cx.fs(X:Cx):kA:=frs X.outer
def Vis(sc:Scope)(x:Str):Prop:=sc.names.lookup x=some .local\/sc.names.lookup x=some .cell\/sc.names.lookup x=some .free
def Loc(sc:Scope)(x:Str):Prop:=sc.names.lookup x=some .local\/sc.names.lookup x=some .cell
def Look(env:Env)(h:Heap)(m:Str->Option Value)(x:Str)(u:Value):Prop:=
 (env.kindOf x=some .local/\m x=some u)\/((env.kindOf x=some .cell\/env.kindOf x=some .free)/\∃c,env.cells.lookup x=some c/\h.IsCell c (some u))
structure Cx.Ok(X:Cx):Prop where
 mod:Mod X.K X.mg X.base
 kind:X.env.scope.kind=.function
 glob:X.env.globals=mainGlobals
 blt:X.env.builtins=builtinsNs
 above:X.s₀.heap.objs.size<=X.env.locals
 inj:∀x y c,X.env.cells.lookup x=some c->X.env.cells.lookup y=some c->x=y
 has:∀x,(X.env.kindOf x=some .cell\/X.env.kindOf x=some .free)->∃c,X.env.cells.lookup x=some c
 cab:∀x c,X.fn x=true->X.env.cells.lookup x=some c->X.s₀.heap.objs.size<=c
 hd:X.calm=true->X.A.handled=none
 frames:X.A.frames=some X.stack
 stk:X.stack=X.outer\/(X.stack=X.env::X.outer/\X.env.frame=some X.env.locals)
 exf:∀b∈X.ex,b≠X.env.locals/\∀x c,X.env.cells.lookup x=some c->c≠b
 bs:∀b o,X.base.get? b=some o->X.s₀.heap.get? b=some o/\X.H₀ b=none
 bsz:X.base.objs.size<=X.s₀.heap.objs.size
 noex:∀b o,X.base.get? b=some o->b∉X.ex
 exfs:∀b∈X.ex,b∉X.fs
 funs:X.s₀.heap.FunFrames X.base X.outer
 frf:∀b∈X.fs,X.H₀ b=none
structure Inv(X:Cx)(pins:List (Addr×Obj))(U:List (Option V))(H:Hp)(s:Shared):Prop where
 ok:X.Ok
 os:s.os=X.s₀.os
 bare:AllBare s.gens
 base:Un X.fs X.ex X.H₀ H X.s₀.heap s.heap
 loc:∃m,s.heap.Ns X.env.locals m/\∀(i:Nat)(x:Str)(v:V),X.N[i]?=some x->U[i]?=some (some v)->Vis X.env.scope x->∃u,RelV v u/\Look X.env s.heap m x u
 cell:∀x c,X.env.cells.lookup x=some c->∃v,s.heap.IsCell c v
 free:H X.env.locals=none
 freeC:∀x c,X.env.cells.lookup x=some c->H c=none
 pin:∀p∈X.pn++ pins,s.heap.get? p.1=some p.2/\H p.1=none/\p.1≠X.env.locals/\p.1∉X.fs/\∀v,p.2.data≠.cell v
 hok:HOk X.prog X.w H s.heap
 len:U.length=X.N.length
section
variable{X:Cx}
theorem Cx.Ok.nofr(Z:X.Ok)(e:X.base.get? b=some o):b∉X.fs:=λJ=>by
 have:=(Z.funs.mem J).1;rw[e]at this;cases this
theorem Inv.bs(I:Inv X Z U H s):∀b o,X.base.get? b=some o->s.heap.get? b=some o/\H b=none:=λb o e=>
 ⟨I.base.keep b o (I.ok.bs b o e).1 (I.ok.bs b o e).2 (I.ok.nofr e) (I.ok.noex b o e),I.base.free b o (I.ok.bs b o e).1 (I.ok.bs b o e).2 (I.ok.noex b o e)⟩
theorem Inv.bk(I:Inv X Z U H s):∀b o,X.base.get? b=some o->s.heap.get? b=some o:=λb o e=>(I.bs b o e).1
theorem Inv.mod(I:Inv X Z U H s):Mod X.K X.mg X.base:=I.ok.mod
theorem Inv.kIn(I:Inv X Z U H s):X.K.In s.heap:=I.ok.mod.kin.keeps I.bk
theorem Inv.lt(I:Inv X Z U H s):X.env.locals<s.heap.objs.size:=let⟨_,J,_⟩:=I.loc;J.lt
theorem Inv.sz(I:Inv X Z U H s):X.s₀.heap.objs.size<=s.heap.objs.size:=ZZ I.ok.above (Zf I.lt)
theorem Inv.nofs(I:Inv X Z U H s)(h:s.heap.objs.size<=a):a∉X.fs:=λG=>by
 obtain⟨_,o,J,_⟩:=I.ok.funs.mem G;exact Zp (Zv (ZN J) (ZZ I.sz h)) (zJ _)
theorem Inv.cne(I:Inv X G U H s):∀x c,X.env.cells.lookup x=some c->c≠X.env.locals:=λx c e z=>by
 obtain⟨v,o,L,M⟩:=I.cell x c e;obtain⟨m,⟨N,O,R,Z,J,_⟩,_⟩:=I.loc;rw[z,Z]at L;cases L;rw[J]at M;cases M
theorem Inv.funs(I:Inv X N U H s):s.heap.FunFrames X.base X.outer:=by
 have M:∀(l:List Env),(∀b∈frs l,b∈X.fs)->X.s₀.heap.FunFrames X.base l->s.heap.FunFrames X.base l:=by
  intro l
  induction l with
  |nil=>intro _ _;trivial
  |cons A r ih=>
   intro O D;obtain⟨E,⟨L,o,Z,B,T,F⟩,R⟩:=D;have G:L∈X.fs:=O L (by unfold frs;rw[vS,Z];exact ZY);obtain⟨sl,e⟩:=I.base.slot L o T (I.ok.frf L G) G λz=>I.ok.exfs L z G;exact⟨E,⟨L,_,Z,B,e,F⟩,ih (λb J=>O b (by unfold frs;rw[vS,Z];exact ZK _ J)) R⟩
 exact M X.outer (λ_ J=>J) I.ok.funs
theorem Inv.stack(I:Inv X Z U H s):s.heap.FunFrames X.base X.stack:=by
 rcases I.ok.stk with e|⟨e,G⟩
 .rw [e];exact I.funs
 .rw [e]
  obtain⟨m,J,_⟩:=I.loc;refine .cons (by rw[I.ok.kind];decide) G J ?_ I.funs;exact vh (ZZ I.ok.bsz I.ok.above)
theorem Inv.stkSub(I:Inv X J U H s):∀b∈frs X.stack,b∈X.env.locals::X.fs:=λb Z=>by
 rcases I.ok.stk with e|⟨e,G⟩
 .rw [e]at Z;exact ZK _ Z
 .rw [e]at Z
  unfold frs at Z;rw[vS,G]at Z;exact Z
theorem Inv.stkFree(I:Inv X J U H s):∀b∈frs X.stack,H b=none:=λb Z=>by
 rcases Zb.mp (I.stkSub b Z)with e|Z
 .rw [e];exact I.free
 .obtain ⟨_,o,ho,_⟩:=I.ok.funs.mem Z
  exact I.base.free b o ho (I.ok.frf b Z) λz=>I.ok.exfs b z Z
theorem Inv.step{ch:kA}(I:Inv X O U H s)(G:∀b∈ch,(b∈X.ex\/X.s₀.heap.objs.size<=b)/\b≠X.env.locals/\(∀x c,X.env.cells.lookup x=some c->c≠b)/\∀p∈X.pn++ O,p.1≠b)(keep:∀b o,b≠X.env.locals->b∉X.fs->b∉ch->s.heap.get? b=some o->H b=none->h'.get? b=some o)(slot:∀b o,b≠X.env.locals->b∈X.fs->b∉ch->s.heap.get? b=some o->H b=none->∃sl,h'.get? b=some {o with slots:=sl})(free:∀b o,b∉ch->s.heap.get? b=some o->H b=none->H' b=none)(there:∀b o,b∉ch->s.heap.get? b=some o->∃E,h'.get? b=some E)(B:∀b N,H b=some (.tup N)->H' b=some (.tup N))(A:∀b o u,H b=some (.frz o u)->H' b=some (.frz o u))(D:∀b C,H b=some (.tbl C)->∃more,H' b=some (.tbl (C++ more)))(g:∀m,s.heap.Ns X.env.locals m->h'.Ns X.env.locals m)(j:HOk X.prog X.w H' h')(w:AllBare g'):
  Inv X O U H' {s with heap:=h',gens:=g',drawn:=d',toks:=t'}:=by
 have F:∀b o,X.s₀.heap.get? b=some o->b≠X.env.locals:=λb o e=>Zc (Zv (ZN e) I.ok.above)
 have L:∀b o,X.s₀.heap.get? b=some o->b∉X.ex->b∉ch:=λb o e Z R=>by
  rcases(G b R).1 with z|z
  .exact Z z
  .exact Zp (Zv (ZN e) z) (zJ _)
 have cellK:∀x c,X.env.cells.lookup x=some c->∀v,s.heap.IsCell c v->h'.IsCell c v:=λx c e v ⟨o,T,y⟩=>by
  have J:c∉ch:=λz=>(G c z).2.2.1 x c e rfl
  by_cases hc:c∈X.fs
  .obtain ⟨sl,q⟩:=slot c o (I.cne x c e) hc J T (I.freeC x c e)
   exact⟨_,q,y⟩
  .exact ⟨o,keep c o (I.cne x c e) hc J T (I.freeC x c e),y⟩
 refine⟨I.ok,I.os,w,⟨λb o e n R Z=>?_,λb o e n R Z=>?_,λb o e n Z=>?_,λb o e Z=>?_,λb N e=>B b N (I.base.tups b N e),λb o N e=>A b o N (I.base.frzs b o N e),λb C e=>?_⟩,?_,λx c e=>?_,?_,λx c e=>?_,λp t=>?_,j,I.len⟩
 .exact keep b o (F b o e) R (L b o e Z) (I.base.keep b o e n R Z) (I.base.free b o e n Z)
 .obtain ⟨sl,M⟩:=I.base.slot b o e n R Z
  obtain⟨Q,S⟩:=slot b _ (F b o e) R (L b o e Z) M (I.base.free b o e n Z);exact⟨Q,S⟩
 .obtain ⟨E,M⟩:=I.base.there b o e Z
  exact free b E (L b o e Z) M (I.base.free b o e n Z)
 .obtain ⟨E,M⟩:=I.base.there b o e Z
  exact there b E (L b o e Z) M
 .obtain ⟨m1,M⟩:=I.base.tbls b C e
  obtain⟨f,S⟩:=D b _ M;exact⟨m1++ f,by rw[S,Array.append_assoc]⟩
 .obtain ⟨m,hn,hl⟩:=I.loc
  refine⟨m,g m hn,λi x v M S h=>?_⟩;obtain⟨u,r,l⟩:=hl i x v M S h;refine⟨u,r,?_⟩;rcases l with l|⟨k,c,e,z⟩
  .exact .inl l
  .exact .inr ⟨k,c,e,cellK x c e _ z⟩
 .obtain ⟨v,z⟩:=I.cell x c e
  exact⟨v,cellK x c e v z⟩
 .obtain ⟨m,⟨o,_,_,T,_⟩,_⟩:=I.loc
  exact free _ o (λz=>(G _ z).2.1 rfl) T I.free
 .obtain ⟨v,o,T,y⟩:=I.cell x c e
  exact free c o (λz=>(G c z).2.2.1 x c e rfl) T (I.freeC x c e)
 .obtain ⟨e,n,ne,nf,d⟩:=I.pin p t
  have J:p.1∉ch:=λz=>(G p.1 z).2.2.2 p t rfl;exact⟨keep p.1 p.2 ne nf J e n,free p.1 p.2 J e n,ne,nf,d⟩
theorem Inv.un(I:Inv X Z U H s)(u:Un X.fs [] H R s.heap h')(G:HOk X.prog X.w R h'):Inv X Z U R {s with heap:=h',toks:=t'}:=by
 obtain⟨m,⟨o,A,S,O,r⟩,_⟩:=id I.loc;obtain⟨sl,D⟩:=u.any O I.free (by simp)
 exact I.step (g':=s.gens) (d':=s.drawn) (ch:=[]) (λ_ z=>nomatch z) (λb o _ L _ e n=>u.keep b o e n L (by simp)) (λb o _ L _ e n=>u.slot b o e n L (by simp)) (λb o _ e n=>u.free b o e n (by simp)) (λb o _ e=>u.there b o e (by simp)) u.tups u.frzs u.tbls (λF B=>by
  obtain⟨E,M,N,J,T⟩:=B;rw[O]at J;cases J;exact⟨_,M,N,D,T⟩) G I.bare
theorem Inv.call(I:Inv X Z U H s)(u:Un (frs X.stack) ch H B s.heap h')(M:HOk X.prog X.w B h')(F:AllBare g')(L:∀b∈ch,(b∈X.ex\/X.s₀.heap.objs.size<=b)/\b≠X.env.locals/\(∀x c,X.env.cells.lookup x=some c->c≠b)/\∀p∈X.pn++ Z,p.1≠b):
  Inv X Z U B {s with heap:=h',gens:=g',drawn:=d',toks:=t'}:=by
 obtain⟨m,⟨o,P,Q,T,r⟩,_⟩:=id I.loc;obtain⟨sl,N⟩:=u.any T I.free λz=>(L _ z).2.1 rfl
 exact I.step (ch:=ch) L (λb o N A J e n=>u.keep b o e n (λz=>(Zb.mp (I.stkSub b z)).elim N A) J) (λb o _ _ J e n=>u.any e n J) (λb o J e n=>u.free b o e n J) (λb o J e=>u.there b o e J) u.tups u.frzs u.tbls (λC E=>by
  obtain⟨S,O,R,G,D⟩:=E;rw[T]at G;cases G;exact⟨_,O,R,N,D⟩) M F
theorem Inv.turned(I:Inv X Z U H s)(k:∀b o,b≠it->s.heap.get? b=some o->D.get? b=some o)(M:H it=none)(L:it≠X.env.locals)(B:it∈X.ex\/X.s₀.heap.objs.size<=it)(T:∀x c,X.env.cells.lookup x=some c->c≠it)(R:∀p∈X.pn++ Z,p.1≠it):Inv X Z U H {s with heap:=D,toks:=t'}:=by
 have G:∀b u,H b=some u->b≠it:=λb u e z=>by rw[z,M]at e;cases e
 refine I.step (g':=s.gens) (d':=s.drawn) (ch:=[it]) (λb O=>?_) (λb o _ _ J e _=>k b o (λz=>J (by simp[z])) e) (λb o _ _ J e _=>⟨o.slots,k b o (λz=>J (by simp[z])) e⟩) (λ_ _ _ _ n=>n)
  (λb o J e=>⟨o,k b o (λz=>J (by simp[z])) e⟩) (λ_ _ e=>e) (λ_ _ _ e=>e) (λb E e=>⟨#[],by rw[e];simp⟩) (λm N=>?_) (λb u e=>?_) I.bare
 .have e:b=it:=by simpa using O
  subst e;exact⟨B,L,T,R⟩
 .obtain ⟨o,es,ep,ho,r⟩:=N
  exact⟨o,es,ep,k _ o (Zq L) ho,r⟩
 .refine (I.hok b u e).stay (λc v J q=>k c v ?_ q) (λ_ q=>q) λ_ _ q=>q
  rcases J with z|z
  .rw [z];exact G b u e
  .exact G c _ z
theorem Inv.tok(I:Inv X Z U H s)(t:Nat):Inv X Z U H {s with toks:=t}:=I.un (h':=s.heap) (t':=t) Un.refl I.hok
theorem Inv.kept(I:Inv X Z U H s)(k:∀b u,s.heap.get? b=some u->J.get? b=some u):Inv X Z U H {s with heap:=J,toks:=t'}:=I.un (Un.kept k) (I.hok.kept k)
theorem Inv.laid(I:Inv X Z U H s)(k:∀b u,s.heap.get? b=some u->h'.get? b=some u)(G:s.heap.objs.size<=a)(J:VX X.prog X.w (upd H a o) h' a o):
  Inv X Z U (upd H a o) {s with heap:=h',toks:=t'}:=I.un (Un.laid k G (I.hok.fresh G)) (I.hok.laid k G J)
theorem Inv.write(I:Inv X Z U H s)(L:Mut (H x))(M:e=x\/H e=some (.own x))(k:∀b u,b≠e->s.heap.get? b=some u->h'.get? b=some u)(J:∃u,h'.get? e=some u)(G:VX X.prog X.w (upd H x o) h' x o):Inv X Z U (upd H x o) {s with heap:=h',toks:=t'}:=I.un (Un.write L M k J) (I.hok.write L M k J G)
theorem Inv.weak(I:Inv X Z U H s)(L:U'.length=U.length)(w:∀(i:Nat) v,U'[i]?=some (some v)->U[i]?=some (some v)):Inv X Z U' H s:=
 ⟨I.ok,I.os,I.bare,I.base,let⟨m,G,J⟩:=I.loc;⟨m,G,λi x v O N M=>J i x v O (w i v N) M⟩,I.cell,I.free,I.freeC,I.pin,I.hok,L.trans I.len⟩
theorem Inv.pins_of(I:Inv X Z U H s)(h:∀p∈pins',s.heap.get? p.1=some p.2/\H p.1=none/\p.1≠X.env.locals/\p.1∉X.fs/\∀v,p.2.data≠.cell v):Inv X pins' U H s:=
 ⟨I.ok,I.os,I.bare,I.base,I.loc,I.cell,I.free,I.freeC,λp J=>(ZV.mp J).elim (λz=>I.pin p (yA _ z)) (h p),I.hok,I.len⟩
theorem Tv{N:kq}(Z:N.Nodup){i j:Nat}(a:N[i]?=some x)(b:N[j]?=some x):i=j:=by
 obtain⟨M,G⟩:=ZE.mp a;obtain⟨L,J⟩:=ZE.mp b;exact(List.getElem_inj Z).mp (G.trans J.symm)
theorem Rh(I:Inv X S U H s)(hN:X.N.Nodup)(t:X.N[i]?=some x)(L:Loc X.env.scope x)(r:RelV v u)(h:∀s',Inv X S (U.set i (some v)) H s'->(∃a,Heap.SameBut a s.heap s'.heap/\(a=X.env.locals\/X.env.cells.lookup x=some a))->Q () s')(hf:X.fn x=true\/X.env.scope.names.lookup x=some .local:=by first|exact .inl rfl|exact .inr rfl|assumption):wpAny M A (storeName X.env x u) Q E s:=by
 obtain⟨m,hn,hl⟩:=id I.loc;have g:(X.env.scope.kind==.class || (X.env.scope.kind==.module && X.env.locals !=X.env.globals))=false:=by rw[I.ok.kind];rfl
 have T:i<U.length:=by rw[I.len];exact(ZE.mp t).1
 have D:=I.cne
 have tracked:∀{a:Addr}{F:Heap},(∃o,s.heap.get? a=some o/\H a=none)->Heap.SameBut a s.heap F->HOk X.prog X.w H F:=λ{a F} ha Z b ob e=>by
  obtain⟨_,_,N⟩:=ha;refine(I.hok b ob e).stay (λc w G q=>(Z.2 c ?_).trans q) (λ_ q=>q) λ_ _ q=>q;rintro rfl;rcases G with rfl|G
  .rw [N]at e;cases e
  .rw [N]at G;cases G
 rcases L with R|R
 .refine wpAny_storeName_local R hn (λF Z9 Z=>?_) g
  obtain⟨oL,_,_,Z8,_⟩:=id hn;refine h _ ⟨I.ok,I.os,I.bare,⟨λb o e n B L=>?_,λb o e n B L=>?_,I.base.free,λb o e L=>?_,I.base.tups,I.base.frzs,I.base.tbls⟩,⟨_,Z9,λj y v' J O e3=>?_⟩,λy c e=>?_,I.free,I.freeC,λp hp=>?_,tracked ⟨oL,Z8,I.free⟩ Z,by simpa using I.len⟩ ⟨_,Z,.inl rfl⟩
  .exact (Z.2 b (Zc (Zv (ZN e) I.ok.above))).trans (I.base.keep b o e n B L)
  .obtain ⟨sl,J⟩:=I.base.slot b o e n B L
   exact⟨sl,(Z.2 b (Zc (Zv (ZN e) I.ok.above))).trans J⟩
  .obtain ⟨o',J⟩:=I.base.there b o e L
   exact⟨o',(Z.2 b (Zc (Zv (ZN e) I.ok.above))).trans J⟩
  .by_cases hj:j=i
   .subst hj
    rw[t]at J;cases J;rw[vG T]at O;cases O;exact⟨u,r,.inl ⟨R,by simp⟩⟩
   .rw [yB (Zq hj)]at O
    obtain⟨u',r',q⟩:=hl j y v' J O e3;refine⟨u',r',?_⟩;rcases q with⟨k,e⟩|⟨k,c,e,z⟩
    .refine .inl ⟨k,?_⟩
     have:y≠x:=λe=>hj (Tv hN J (e ▸ t));simp[this,e]
    .exact .inr ⟨k,c,e,z.sameBut Z (D y c e)⟩
  .obtain ⟨w,z⟩:=I.cell y c e
   exact⟨w,z.sameBut Z (D y c e)⟩
  .obtain ⟨e,n,ne,nf,d⟩:=I.pin p hp
   exact⟨(Z.2 p.1 ne).trans e,n,ne,nf,d⟩
 .have hfn:X.fn x=true:=by
   rcases hf with z|z
   .exact z
   .rw [z]at R;cases R
  obtain⟨c,G⟩:=I.ok.has x (.inl R);obtain⟨w,z⟩:=I.cell x c G;refine wpAny_storeName_cell I.ok.kind R G z (λF f Z=>?_);obtain⟨oc,P,C⟩:=id z;refine h {s with heap:=F} ⟨I.ok,I.os,I.bare,⟨λb o e n B L=>?_,λb o e n B L=>?_,I.base.free,λb o e L=>?_,I.base.tups,I.base.frzs,I.base.tbls⟩,⟨m,hn.sameBut Z (Zq (D x c G)),λj y v' J O e3=>?_⟩,λy l e=>?_,I.free,I.freeC,λp hp=>?_,tracked ⟨oc,P,I.freeC x c G⟩ Z,by simpa using I.len⟩ ⟨c,Z,.inr G⟩
  .exact (Z.2 b (Zc (Zv (ZN e) (I.ok.cab x c hfn G)))).trans (I.base.keep b o e n B L)
  .obtain ⟨sl,J⟩:=I.base.slot b o e n B L
   exact⟨sl,(Z.2 b (Zc (Zv (ZN e) (I.ok.cab x c hfn G)))).trans J⟩
  .obtain ⟨o',J⟩:=I.base.there b o e L
   exact⟨o',(Z.2 b (Zc (Zv (ZN e) (I.ok.cab x c hfn G)))).trans J⟩
  .by_cases hj:j=i
   .subst hj
    rw[t]at J;cases J;rw[vG T]at O;cases O;exact⟨u,r,.inr ⟨.inl R,c,G,f⟩⟩
   .rw [yB (Zq hj)]at O
    obtain⟨u',r',q⟩:=hl j y v' J O e3;refine⟨u',r',?_⟩;rcases q with q|⟨k,l,e,z'⟩
    .exact .inl q
    .refine .inr ⟨k,l,e,z'.sameBut Z ?_⟩
     rintro rfl;exact hj (Tv hN J (I.ok.inj _ _ _ e G ▸ t))
  .by_cases hcc:l=c
   .subst hcc;exact⟨_,f⟩
   .obtain ⟨w2,z2⟩:=I.cell y l e
    exact⟨w2,z2.sameBut Z hcc⟩
  .obtain ⟨e,n,ne,nf,d⟩:=I.pin p hp
   refine⟨(Z.2 p.1 ?_).trans e,n,ne,nf,d⟩;intro q;rw[q,P]at e;have q':oc=p.2:=ZP e;exact d w (by rw[<-q'];exact C)
theorem WF(I:Inv X Z U H s)(O:X.N.Nodup)(L:X.N[i]?=some x)(G:Loc X.env.scope x)(r:RelV v u)(h:∀J,Inv X Z (U.set i (some v)) H J->Q () J)(N:X.fn x=true\/X.env.scope.names.lookup x=some .local:=by first|exact .inl rfl|exact .inr rfl|assumption):wpAny M A (storeName X.env x u) Q E s:=
 Rh I O L G r (λJ R _=>h J R) N
theorem Inv.call'(I:Inv X Z U H s)(N:s'.os=s.os)(u:Un (frs X.stack) ch H L s.heap s'.heap)(J:HOk X.prog X.w L s'.heap)(O:AllBare s'.gens)(G:∀b∈ch,(b∈X.ex\/X.s₀.heap.objs.size<=b)/\b≠X.env.locals/\(∀x c,X.env.cells.lookup x=some c->c≠b)/\∀p∈X.pn++ Z,p.1≠b):Inv X Z U L s':=by
 obtain⟨R,g',d',t',M⟩:=s';have e:M=s.os:=N;subst e;exact I.call (g':=g') (t':=t') (d':=d') u J O G
end
abbrev XK:=Value->Option Addr->Hp->Prop
abbrev St:=List (kJ)
abbrev kI:=St->Hp->Prop
abbrev kH:=Nat->St->Hp->Prop
abbrev VK:=V->Hp->Prop
abbrev TE:=St->Hp->VK->Prop
abbrev TT:=St->Hp->(Bool->Hp->Prop)->Prop
abbrev TA:=St->Hp->(List V->Hp->Prop)->Prop
structure Ends where
 nx:St->Hp->Prop
 rt:VK
 bk:St->Hp->Prop:=λ_ _=>False
 ct:St->Hp->Prop:=λ_ _=>False
abbrev TS:=Ends->St->Hp->Prop
def EP(X:Cx)(pins:kb)(U:St)(Q:VK)(u:Value)(s':Shared):Prop:=∃v Z,Inv X pins U Z s'/\RelV v u/\Q v Z
def TP(X:Cx)(pins:kb)(U:St)(Q:Bool->Hp->Prop)(b:Bool)(s':Shared):Prop:=∃Z,Inv X pins U Z s'/\Q b Z
def AP(X:Cx)(pins:kb)(U:St)(Q:List V->Hp->Prop)(us:kj)(s':Shared):Prop:=∃Z J,Inv X pins U J s'/\Vals Z us/\Q Z J
def SP(X:Cx)(pins:kb)(D:Ends)(f:Flow)(s':Shared):Prop:=
 match f with
 |.next=>∃U' H',Inv X pins U' H' s'/\D.nx U' H'
 |.brk=>∃U' H',Inv X pins U' H' s'/\D.bk U' H'
 |.cont=>∃U' H',Inv X pins U' H' s'/\D.ct U' H'
 |.ret u=>∃v U' H',Inv X pins U' H' s'/\RelV v u/\D.rt v H'
def PE(X:Cx)(e:Expr)(t:TE):Prop:=
 ∀(Z:kb)(s:Shared)(U:St)(H:Hp)(Q:VK),Inv X Z U H s->t U H Q->wpAny (model X.prog X.w) X.A (eval e X.env) (EP X Z U Q) X.xe s
def PT(X:Cx)(e:Expr)(t:TT):Prop:=
 ∀(Z:kb)(s:Shared)(U:St)(H:Hp)(Q:Bool->Hp->Prop),Inv X Z U H s->t U H Q->wpAny (model X.prog X.w) X.A (isTrue e X.env (eval e X.env)) (TP X Z U Q) X.xe s
def PW(X:Cx)(e:Expr)(t:TT):Prop:=
 ∀(whole:Sem Value)(Z:kb)(s:Shared)(U:St)(H:Hp)(Q:Bool->Hp->Prop),Inv X Z U H s->t U H Q->wpAny (model X.prog X.w) X.A (isTrue e X.env whole) (TP X Z U Q) X.xe s
theorem PW.pt(h:PW X e t):PT X e t:=h _
def PA(X:Cx)(es:kP)(t:TA):Prop:=
 ∀(J:Pos)(Z:kb)(s:Shared)(U:St)(H:Hp)(Q:List V->Hp->Prop),Inv X Z U H s->t U H Q->wpAny (model X.prog X.w) X.A (spliced (backTo J (starEach es X.env))) (AP X Z U Q) X.xe s
def PS(X:Cx)(st:Stmt)(t:TS):Prop:=
 ∀(Z:kb)(s:Shared)(U:St)(H:Hp)(D:Ends),Inv X Z U H s->t D U H->wpAny (model X.prog X.w) X.A (exec st X.env) (SP X Z D) X.xe s
def PSs(X:Cx)(st:List Stmt)(t:TS):Prop:=
 ∀(Z:kb)(s:Shared)(U:St)(H:Hp)(D:Ends),Inv X Z U H s->t D U H->wpAny (model X.prog X.w) X.A (execs st X.env) (SP X Z D) X.xe s
theorem thn(h:wpAny M A t Q E s)(Z:∀a s,Q a s->Q' a s):wpAny M A t Q' E s:=Zl h Z λ_ _ x=>x
end L2
namespace L2
open PySem PySem.Spec PyProof.Rows
section
variable{X:Cx}
def IQ(o:Option (kJ))(P:V->Prop):Prop:=match o with
 |some (some v)=>P v
 |_=>False
theorem IQ.old(h:IQ o P):∃v,o=some (some v)/\P v:=by
 match o,h with
 |some (some v),h=>exact⟨v,rfl,h⟩
def XF(x:V)(P:Int->Prop):Prop:=match x with
 |.int c=>P c
 |_=>False
theorem XF.old(h:XF x P):∃c,x=.int c/\P c:=by
 cases x <;> first|exact⟨_,rfl,h⟩|exact h.elim
def Jj(x:V)(P:Addr->Prop):Prop:=match x with
 |.ref c=>P c
 |_=>False
theorem Jj.old(h:Jj x P):∃c,x=.ref c/\P c:=by
 cases x <;> first|exact⟨_,rfl,h⟩|exact h.elim
def MH(i:Nat):TE:=λU H Q=>IQ U[i]? λv=>Q v H
def tC(v:V):TE:=λ_ H Q=>Q v H
theorem SH(E:X.N[i]?=some x)(R:Vis X.env.scope x)(M:(x==("__debug__":Str))=false:=by decide)(N:(x==("__classdict__":Str))=false:=by decide):PE X (.Name x pos) (MH i):=by
 intro L s U H Q I h;replace h:=IQ.old h;obtain⟨v,e,h⟩:=h;obtain⟨m,T,D⟩:=I.loc;obtain⟨u,r,l⟩:=D i x v E e R;have G:EP X L U Q u s:=⟨v,H,I,r,h⟩;rcases l with⟨J,B⟩|⟨J,c,O,Z⟩
 .exact wpAny_Name (wpAny_loadName_local I.ok.kind J T B G) M
 .rcases J with J|J
  .exact wpAny_Name (wpAny_loadName_cell I.ok.kind J O Z G) M
  .exact wpAny_Name (wpAny_loadName_free I.ok.kind J O Z G N) M
theorem YX:PE X (.Constant (.int i) j pos) (tC (.int i)):=λ_ _ _ H _ I h=>wpAny_Constant_int ⟨.int i,H,I.tok _,⟨_,rfl⟩,h⟩
theorem GU:PE X (.Constant (.bool b) j pos) (tC (.bl b)):=λ_ _ _ H _ I h=>Constant_bool ⟨.bl b,H,I,rfl,h⟩
theorem V4:PE X (.Constant .none j pos) (tC .non):=λ_ _ _ H _ I h=>Constant_none ⟨.non,H,I,rfl,h⟩
theorem Y7:PE X (.Constant (.str x) j pos) (tC (.str x)):=λ_ _ _ H _ I h=>Calls.Constant_str ⟨.str x,H,I.tok _,⟨_,rfl⟩,h⟩
def Gl(X:Cx)(x:Str):Prop:=X.env.kindOf x=some .globalImplicit
theorem XC(I:Inv X Z U H s)(G:Gl X x)(J:X.mg x=some u)(h:Q u s)(L:(x==("__debug__":Str))=false:=by decide):wpAny (model X.prog X.w) X.A (eval (.Name x pos) X.env) Q E s:=
 Calls.Name_function_global I.ok.kind G (Calls.loadGlobal_global (by rw[I.ok.glob];exact I.mod.glob.keeps I.bk) J h) L
theorem Wv(I:Inv X Z U H s)(M:Gl X x)(L:X.mg x=none)(J:bootBuiltins x=some u)(h:Q u s)(G:x≠"__name__":=by decide)(N:(x==("__debug__":Str))=false:=by decide):wpAny (model X.prog X.w) X.A (eval (.Name x pos) X.env) Q E s:=by
 obtain⟨T,R,O⟩:=I.mod.blt;exact Calls.Name_function_global I.ok.kind M (Calls.loadGlobal_builtin (by rw[I.ok.glob];exact I.mod.glob.keeps I.bk) L (by rw[I.ok.blt];exact R.keeps I.bk) ((O x G).trans J) h) N
theorem JL(J:Gl X x)(Z:X.mg x=some u)(r:RelV v u)(G:(x==("__debug__":Str))=false:=by decide):PE X (.Name x pos) (tC v):=
 λ_ _ _ H _ I h=>XC I J Z ⟨v,H,I,r,h⟩ G
theorem EK(L:Gl X x)(G:X.mg x=none)(Z:bootBuiltins x=some u)(r:RelV v u)(J:x≠"__name__":=by decide)(M:(x==("__debug__":Str))=false:=by decide):PE X (.Name x pos) (tC v):=
 λ_ _ _ H _ I h=>Wv I L G Z ⟨v,H,I,r,h⟩ J M
variable{a b:Expr}{ta tb:TE}{pos:Pos}
def PC(X:Cx)(op:CmpOp)(a b:Expr)(t:TE):Prop:=
 ∀(Z:kb)(s:Shared)(U:St)(H:Hp)(Q:VK),Inv X Z U H s->t U H Q->
  wpAny (model X.prog X.w) X.A (eval a X.env) (λv G=>wpAny (model X.prog X.w) X.A (eval b X.env) (λu J=>wpAny (model X.prog X.w) X.A (compareOp op v u) (EP X Z U Q) X.xe J) X.xe G) X.xe s
def tB(t:TE):TT:=λU H Q=>t U H λx Z=>∃c,x=.bl c/\Q c Z
theorem UB(h:PC X op a b t)(J:behindInMarks op b=false:=by first|exact nobehind _ (by decide) (by decide)|rfl):PT X (.Compare a [op] [b] pos) (tB t):=by
 intro Z s U H Q I M;refine wpAny_isTrue_Compare1 (thn (h Z s U H _ I M) λv D J=>thn J λu B N=>thn N λc T ⟨x,R,O,G,L⟩=>?_) J;obtain⟨d,rfl,q⟩:=L;cases G;exact zy ⟨R,O,q⟩
theorem JZ(h:PE X e t)(M:∀whole,isTrue e X.env whole=(do let v <-whole;standAt e.pos;holding [v] (truthy v)):=by intro _;rfl):PT X e (tB t):=by
 intro Z s U H Q I L;refine isTrue_plain (thn (h Z s U H _ I L) λv R ⟨x,O,N,J,G⟩=>?_) (M _);obtain⟨d,rfl,q⟩:=G;cases J;exact zy ⟨O,N,q⟩
variable{rest:kP}
def Cd(t u:TT):TT:=λU H Q=>t U H λc Z=>if c=true then u U Z Q else Q false Z
def tOr(t u:TT):TT:=λU H Q=>t U H λc Z=>if c=true then Q true Z else u U Z Q
def CZ(t:TT):TT:=λU H Q=>t U H λc Z=>Q (!c) Z
theorem U8(J:PT X a tA):PW X (.BoolOp .And [a] pos) tA:=by
 intro G Z s U H Q I h;refine isTrue_and (thn (J Z s U H Q I h) λc L e=>?_)
 cases c with
 |true=>exact isTrue_and_nil e
 |false=>exact e
theorem Jz(J:PT X a tA):PW X (.BoolOp .Or [a] pos) tA:=by
 intro G Z s U H Q I h;refine isTrue_or (thn (J Z s U H Q I h) λc L e=>?_)
 cases c with
 |false=>exact isTrue_or_nil e
 |true=>exact e
theorem X1(R:PT X a tA)(O:PW X (.BoolOp .And (b::rest) pos) tB'):PW X (.BoolOp .And (a::b::rest) pos) (Cd tA tB'):=by
 intro M Z s U H Q I h;refine isTrue_and (thn (R Z s U H _ I h) λc N ⟨L,G,J⟩=>?_)
 cases c with
 |true=>exact O M Z N U L Q G J
 |false=>exact⟨L,G,J⟩
theorem UF(R:PT X a tA)(O:PW X (.BoolOp .Or (b::rest) pos) tB'):PW X (.BoolOp .Or (a::b::rest) pos) (tOr tA tB'):=by
 intro M Z s U H Q I h;refine isTrue_or (thn (R Z s U H _ I h) λc N ⟨L,G,J⟩=>?_)
 cases c with
 |true=>exact⟨L,G,J⟩
 |false=>exact O M Z N U L Q G J
theorem Ja(J:PT X a tA):PT X (.UnaryOp .Not a pos) (CZ tA):=by
 intro Z s U H Q I h;exact isTrue_not (J Z s U H (λc G=>Q (!c) G) I h)
def AR(ta tb:TE):TE:=λU H Q=>ta U H λx Z=>∃c,x=.bl c/\if c=true then tb U Z Q else Q (.bl false) Z
def CY(ta tb:TE):TE:=λU H Q=>ta U H λx Z=>∃c,x=.bl c/\if c=true then Q (.bl true) Z else tb U Z Q
def AM(ta:TE):TE:=λU H Q=>ta U H λx Z=>∃c,x=.bl c/\Q (.bl (!c)) Z
theorem To(h:PE X a t):PE X (.BoolOp op [a] pos) t:=λZ s U H Q I J=>BoolOp_one (h Z s U H Q I J)
theorem Tq(R:PE X a ta)(O:PE X (.BoolOp .And (b::rest) pos) tb):PE X (.BoolOp .And (a::b::rest) pos) (AR ta tb):=by
 intro Z s U H Q I h;refine BoolOp_and (thn (R Z s U H _ I h) λv M ⟨x,L,G,N,J⟩=>?_);obtain⟨c,rfl,J⟩:=J;cases N;refine zy ?_
 cases c with
 |true=>exact O Z M U L Q G J
 |false=>exact⟨.bl false,L,G,rfl,J⟩
theorem Ab(R:PE X a ta)(O:PE X (.BoolOp .Or (b::rest) pos) tb):PE X (.BoolOp .Or (a::b::rest) pos) (CY ta tb):=by
 intro Z s U H Q I h;refine BoolOp_or (thn (R Z s U H _ I h) λv M ⟨x,L,G,N,J⟩=>?_);obtain⟨c,rfl,J⟩:=J;cases N;refine zy ?_
 cases c with
 |false=>exact O Z M U L Q G J
 |true=>exact⟨.bl true,L,G,rfl,J⟩
theorem SL(L:PE X a ta):PE X (.UnaryOp .Not a pos) (AM ta):=by
 intro Z s U H Q I h;refine UnaryOp_ (thn (L Z s U H _ I h) λv O ⟨x,N,M,G,J⟩=>?_);obtain⟨c,rfl,J⟩:=J;cases G;exact not_of (zy ⟨.bl (!c),N,M,rfl,J⟩)
end
end L2
namespace L2
open PySem PySem.Spec PyProof.Rows
def SqL(K:W.Frag)(H:Hp)(a:Addr)(xs:kF):Prop:=
 Rd H a (.lst xs) \/
  ∃(o:Obj)(Z:kC)(n:Nat),K.lookup a=some o/\o.cls=.type "list" /\o.dict=none/\o.data=.seq Z n/\Z.size<=sizeLine/\Vals xs Z.toList
def SqT(K:W.Frag)(H:Hp)(a:Addr)(xs:kF):Prop:=
 Rd H a (.tup xs) \/
  ∃(o:Obj)(Z:kC)(n:Nat),K.lookup a=some o/\o.cls=.type "tuple" /\o.data=.seq Z n/\Z.size<=sizeLine/\Vals xs Z.toList
def zF:Value->Option V
 |.none=>some .non
 |.bool b=>some (.bl b)
 |.int i _=>some (.int i)
 |.str x _=>some (.str x)
 |.bytes b _=>some (.byt b)
 |.float b _=>some (.flt b)
 |.ref a=>some (.ref a)
 |.type n=>some (.ty n)
 |_=>none
theorem RelV.abs(r:RelV x u):zF u=some x:=by
 cases x with
 |non=>cases r;rfl
 |bl _=>cases r;rfl
 |int _=>obtain⟨t,rfl⟩:=r;rfl
 |str _=>obtain⟨t,rfl⟩:=r;rfl
 |byt _=>obtain⟨t,rfl⟩:=r;rfl
 |flt _=>obtain⟨t,rfl⟩:=r;rfl
 |ref _=>cases r;rfl
 |ty _=>cases r;rfl
theorem RelV.inj(r:RelV x u)(q:RelV y u):x=y:=ZP (r.abs.symm.trans q.abs)
theorem Vals.inj:∀{J Z:kF}{G:kj},Vals J G->Vals Z G->J=Z
 |_,_,_,.nil,.nil=>rfl
 |_,_,_,.cons r t,.cons r' t'=>by rw[r.inj r',Vals.inj t t']
section
theorem SqL.of{K:W.Frag}(h:H a=some (.lst Z)):SqL K H a Z:=.inl (.inl h)
abbrev Z1:=@SqL.of
theorem SqT.of{K:W.Frag}(h:H a=some (.tup Z)):SqT K H a Z:=.inl (.inl h)
abbrev Z0:=@SqT.of
theorem Inv.list(I:Inv X G U H s)(h:SqL X.K H a J):∃Z:kj,Vals J Z/\PlainL s.heap a Z.toArray/\J.length<=sizeLine:=by
 rcases h with h|⟨o,Z,n,M,O,N,L,R,r⟩
 .obtain ⟨z,Z,n,r,e⟩:=h.ok I.hok
  exact⟨Z,r,⟨_,n,e,rfl,rfl,rfl⟩,z⟩
 .refine ⟨Z.toList,r,⟨o,n,I.kIn a o M,O,N,by simpa using L⟩,?_⟩
  have e:=r.length;simp only[vT]at e;omega
theorem Inv.tuple(I:Inv X G U H s)(h:SqT X.K H a J):∃Z:kj,Vals J Z/\IsTup s.heap a Z.toArray/\J.length<=sizeLine:=by
 rcases h with h|⟨o,Z,n,M,N,L,O,r⟩
 .obtain ⟨z,Z,r,p⟩:=h.ok I.hok
  exact⟨Z,r,p.is,z⟩
 .refine ⟨Z.toList,r,⟨o,I.kIn a o M,N,n,by simpa using L⟩,?_⟩
  have e:=r.length;simp only[vT]at e;omega
theorem Inv.list_inj(I:Inv X G U H s)(h:SqL X.K H a O)(T:SqL X.K H a N):O=N:=by
 obtain⟨J,r,⟨o,n,e,_,_,d⟩,_⟩:=I.list h;obtain⟨Z,R,⟨D,E,L,_,_,M⟩,_⟩:=I.list T;rw[e]at L;cases L;rw[d]at M;injection M with B _;have:J=Z:=by simpa using congrArg Array.toList B
 subst this;exact r.inj R
theorem Inv.tuple_inj(I:Inv X G U H s)(h:SqT X.K H a O)(T:SqT X.K H a N):O=N:=by
 obtain⟨J,r,⟨o,e,_,n,d⟩,_⟩:=I.tuple h;obtain⟨Z,R,⟨D,L,_,E,M⟩,_⟩:=I.tuple T;rw[e]at L;cases L;rw[d]at M;injection M with B _;have:J=Z:=by simpa using congrArg Array.toList B
 subst this;exact r.inj R
end
abbrev Cx.wish(X:Cx)(E:kh):Cx:={X with xe:=E}
abbrev Cx.nox(X:Cx):Cx:=X.wish λ_ _=>False
theorem Cx.Ok.wish{X:Cx}(Z:X.Ok)(E:kh):(X.wish E).Ok:=
 ⟨Z.mod,Z.kind,Z.glob,Z.blt,Z.above,Z.inj,Z.has,Z.cab,Z.hd,Z.frames,Z.stk,Z.exf,Z.bs,Z.bsz,Z.noex,Z.exfs,Z.funs,Z.frf⟩
theorem Cx.Ok.unwish{X:Cx}(Z:(X.wish E).Ok):X.Ok:=
 ⟨Z.mod,Z.kind,Z.glob,Z.blt,Z.above,Z.inj,Z.has,Z.cab,Z.hd,Z.frames,Z.stk,Z.exf,Z.bs,Z.bsz,Z.noex,Z.exfs,Z.funs,Z.frf⟩
section
theorem Inv.wish(I:Inv X Z U H s)(E:kh):Inv (X.wish E) Z U H s:=⟨I.ok.wish E,I.os,I.bare,I.base,I.loc,I.cell,I.free,I.freeC,I.pin,I.hok,I.len⟩
theorem Inv.unwish(I:Inv (X.wish E) Z U H s):Inv X Z U H s:=⟨I.ok.unwish,I.os,I.bare,I.base,I.loc,I.cell,I.free,I.freeC,I.pin,I.hok,I.len⟩
theorem SP.unwish(h:SP (X.wish E) G D f L):SP X G D f L:=by
 cases f with
 |next=>obtain⟨Z,J,I,q⟩:=h;exact⟨Z,J,I.unwish,q⟩
 |brk=>obtain⟨Z,J,I,q⟩:=h;exact⟨Z,J,I.unwish,q⟩
 |cont=>obtain⟨Z,J,I,q⟩:=h;exact⟨Z,J,I.unwish,q⟩
 |ret u=>obtain⟨v,Z,J,I,r,q⟩:=h;exact⟨v,Z,J,I.unwish,r,q⟩
theorem PSs.nox{J:List Stmt}(h:PSs X.nox J t):PSs X J t:=λZ s U H D I G=>
 Zl (h Z s U H D (I.wish _) G) (λ_ _ q=>q.unwish) λ_ _ z=>False.elim z
end
section
variable{st:Stmt}{rest:List Stmt}{t u:TS}{te:TE}
def IW:TS:=λD U H=>D.nx U H
def Yh(t u:TS):TS:=λD U H=>t {D with nx:=u D} U H
theorem Yv:PSs X [] IW:=λ_ _ U H _ I h=>vY ⟨U,H,I,h⟩
theorem YW(L:PS X st t)(G:PSs X rest u):PSs X (st::rest) (Yh t u):=by
 intro Z s U H D I h;refine wpAny_execs_cons (thn (L Z s U H {D with nx:=u D} I h) λf J q=>?_)
 cases f with
 |next=>
  obtain⟨M,O,N,q⟩:=q;exact G Z J M O D N q
 |ret v=>exact q
 |brk=>exact q
 |cont=>exact q
theorem YY(J:PS X st t):PSs X [st] t:=by
 intro Z s U H D I h;refine wpAny_execs_cons (thn (J Z s U H D I h) λf G q=>?_)
 cases f with
 |next=>exact vY q
 |ret v=>exact q
 |brk=>exact q
 |cont=>exact q
theorem Inv.quiet(I:Inv X Z U H s):interactive X.env=false:=by simp[interactive,I.ok.kind]
def QB(te:TE):TS:=λD U H=>te U H λ_ Z=>D.nx U Z
theorem VO(L:PE X e te)(G:swapsWith e none pos.line X.env=pure false:=by rfl):PS X (.Expr e pos) (QB te):=by
 intro Z s U H D I h;exact wpAny_Expr_any (thn (L Z s U H _ I h) λv O ⟨x,N,M,R,J⟩=>⟨U,N,M,J⟩) I.quiet G
def CV(te:TE):TS:=λD U H=>te U H D.rt
theorem Yt(L:PE X e te):PS X (.Return (some e) pos) (CV te):=by
 intro Z s U H D I h;exact wpAny_Return_some (thn (L Z s U H _ I h) λv O ⟨x,N,M,J,G⟩=>⟨x,U,N,M,J,G⟩)
def VN(c:TT)(t u:TS):TS:=λD U H=>c U H λb Z=>if b=true then t D U Z else u D U Z
theorem Y5(N:PT X c tc)(R:PSs X a t)(O:PSs X b u):PS X (.If c a b pos) (VN tc t u):=by
 intro Z s U H D I h;refine wpAny_If (thn (N Z s U H _ I h) λd J ⟨M,L,G⟩=>?_)
 cases d with
 |true=>exact R Z J U M D L G
 |false=>exact O Z J U M D L G
end
abbrev TG:=V->St->Hp->(kI)->Prop
abbrev TGs:=List V->St->Hp->(kI)->Prop
def PG(X:Cx)(target:Expr)(t:TG):Prop:=
 ∀(Z:kb)(s:Shared)(U:St)(H:Hp)(v:V)(u:Value)(Q:kI),Inv X Z U H s->RelV v u->t v U H Q->
  wpAny (model X.prog X.w) X.A (assign target X.env u) (λ_ L=>∃J G,Inv X Z J G L/\Q J G) X.xe s
def PGs(X:Cx)(ts:kP)(t:TGs):Prop:=
 ∀(Z:kb)(s:Shared)(U:St)(H:Hp)(J:kF)(G:kj)(Q:kI),Inv X Z U H s->Vals J G->t J U H Q->
  wpAny (model X.prog X.w) X.A (assignInOrder ((assignEach ts X.env).map (·.2)) G) (λ_ N=>∃L M,Inv X Z L M N/\Q L M) X.xe s
abbrev CN:=V->V->V->Hp->(Hp->Prop)->Prop
def CQ(X:Cx)(t:CN):Prop:=
 ∀(Z:kb)(s:Shared)(U:St)(H:Hp)(o i v:V)(J G u:Value)(Q:Hp->Prop),Inv X Z U H s->RelV o J->RelV i G->RelV v u->t o i v H Q->
  wpAny (model X.prog X.w) X.A (setItem J G u) (λ_ M=>∃L,Inv X Z U L M/\Q L) X.xe s
abbrev TIp:=V->V->Hp->VK->Prop
def PIp(X:Cx)(op:Operator)(t:TIp):Prop:=
 ∀(Z:kb)(s:Shared)(U:St)(H:Hp)(x y:V)(v u:Value)(Q:VK),Inv X Z U H s->RelV x v->RelV y u->t x y H Q->
  wpAny (model X.prog X.w) X.A (inplaceOp op v u) (EP X Z U Q) X.xe s
section
variable{X:Cx}
def Vu(i:Nat):TG:=λv U H Q=>Q (U.set i (some v)) H
theorem YZ(i:Nat)(L:X.N.Nodup)(J:X.N[i]?=some x:=by exact rfl)(hx:Loc X.env.scope x:=by exact Or.inl rfl)(G:X.fn x=true\/X.env.scope.names.lookup x=some .local:=by first|exact .inl rfl|exact .inr rfl|assumption):PG X (.Name x pos) (Vu i):=by
 intro Z s U H v u Q I r h;exact wpAny_assign_Name (WF I L J hx r (λN M=>⟨_,H,M,h⟩) G)
def Nv:TGs:=λvs U H Q=>match vs with
 |[]=>Q U H
 |_=>False
theorem Nv.old(h:Nv Z U H Q):Z=[]/\Q U H:=by
 match Z,h with
 |[],h=>exact⟨rfl,h⟩
def XM(t:TG)(u:TGs):TGs:=λvs U H Q=>match vs with
 |v::r=>t v U H λU' H'=>u r U' H' Q
 |_=>False
theorem XM.old(h:XM t u Z U H Q):∃v r,Z=v::r/\t v U H λJ G=>u r J G Q:=by
 match Z,h with
 |v::r,h=>exact⟨v,r,rfl,h⟩
theorem Y6:PGs X [] Nv:=by
 intro Z s U H J G Q I r h;replace h:=Nv.old h;obtain⟨e,h⟩:=h;subst e;cases r;exact assignInOrder_nil ⟨U,H,I,h⟩
theorem Ye(O:PG X e t)(N:PGs X es u)(M:(assignEach (e::es) X.env).map (·.2)=assign e X.env::(assignEach es X.env).map (·.2):=by rfl):PGs X (e::es) (XM t u):=by
 intro Z s U H D F Q I r h;replace h:=XM.old h;obtain⟨v,E,R,h⟩:=h;subst R
 cases r with
 |cons r G=>
  rw[M];refine assignInOrder_cons (thn (O Z s U H _ _ _ I r h) λ_ J ⟨σ1,B,T,L⟩=>?_);exact N Z J σ1 B _ _ Q T G L
def Pm(K:W.Frag)(n:Nat)(t:TGs):TG:=λv U H Q=>Jj v λa=>∃Z,SqT K H a Z/\Z.length=n/\t Z U H Q
theorem VE(E:X.calm=true)(h:PGs X es t)(B:(assignEach es X.env).length=n:=by rfl)(G:(assignEach es X.env).findIdx? (·.1)=none:=by rfl):PG X (.Tuple es k pos) (Pm X.K n t):=by
 intro Z s U H v u Q I r J;replace J:=Jj.old J;obtain⟨a,A,M,T,D,J⟩:=J;subst A;cases r;obtain⟨N,L,R,C⟩:=I.tuple T;refine assign_Tuple_tuple (I.ok.hd E) R (by simp[B,<-D,L.length]) G λF O=>?_;have S:Inv X Z U H {s with heap:=F}:=I.kept (t':=s.toks) λb o e=>O b o (Zc (ZN e)) e;exact h Z _ U H M _ Q S (by simpa using L) J
def C8(to ti:TE)(t:CN):TG:=λv U H Q=>to U H λo G=>ti U G λi J=>t o i v J λZ=>Q U Z
theorem Ms(E:PE X o to)(F:PE X i ti)(D:CQ X t)(A:∀v,assign (.Subscript o i pos) X.env v=(do
   let J <-holding [v] (eval o X.env)
   let G <-holding [v,J] (eval i X.env)
   standAt pos
   holding [v,J,G] (setItem J G v)
   release [v,J,G] []):=by intro _;rfl):PG X (.Subscript o i pos) (C8 to ti t):=by
 intro Z s U H v u Q I r h;rw[A];refine Zj (wpAny_holding (thn (E Z s U H _ I h) λJ M ⟨x,q,P,O,B⟩=>?_));refine Zj (wpAny_holding (thn (F Z M U q _ P B) λG L ⟨y,z,C,N,T⟩=>?_));refine Zj (ya (Zj (wpAny_holding (thn (D Z L U z x y v J G u _ C O N r T) λ_ m ⟨j,S,R⟩=>?_))));exact wpAny_release ⟨U,j,S,R⟩
def BN(te:TE)(g:TG):TS:=λD U H=>te U H λx Z=>g x U Z D.nx
theorem JP(R:PE X e te)(O:PG X tg g)(N:swapsWithSole [tg] e pos.line X.env=pure false:=by rfl)(M:swappedStores [tg] e X.env=pure none:=by rfl)(T:(assignEach [tg] X.env).map (·.2)=[assign tg X.env]:=by rfl):PS X (.Assign [tg] e pos) (BN te g):=by
 intro Z s U H D I h;refine wpAny_Assign_stores (thn (R Z s U H _ I h) λv J ⟨x,E,B,G,L⟩=>?_) N M;rw[T];exact thn (O Z J U E x v _ B G L) λ_ F q=>q
theorem Ym(i:Nat)(R:X.N.Nodup)(O:PE X e te)(M:X.N[i]?=some x:=by exact rfl)(hx:Loc X.env.scope x:=by exact Or.inl rfl)(L:swapsWith e (some (.Name x pos')) pos.line X.env=pure false:=by rfl)(N:X.fn x=true\/X.env.scope.names.lookup x=some .local:=by first|exact .inl rfl|exact .inr rfl|assumption):
  PS X (.Assign [.Name x pos'] e pos) (BN te (Vu i)):=by
 intro Z s U H D I h;refine wpAny_Assign_Name (thn (O Z s U H _ I h) λv A ⟨y,E,B,J,G⟩=>?_) L;exact WF B R M hx J (λF T=>⟨_,E,T,G⟩) N
def Cc(i:Nat)(te:TE)(ti:TIp):TS:=λD U H=>∃x,U[i]?=some (some x)/\te U H λy J=>ti x y J λz Z=>D.nx (U.set i (some z)) Z
theorem B4(p:X.N.Nodup)(R:X.N[i]?=some x)(O:Loc X.env.scope x)(t:PE X e te)(C:PIp X op ti)(q:X.fn x=true\/X.env.scope.names.lookup x=some .local:=by first|exact .inl rfl|exact .inr rfl|assumption):
  PS X (.AugAssign (.Name x pos') op e pos) (Cc i te ti):=by
 intro Z s U H D I h;obtain⟨v,d,h⟩:=h;obtain⟨m,P,j⟩:=I.loc;have N:Vis X.env.scope x:=by rcases O with k|k;exact .inl k;exact .inr (.inl k)
 obtain⟨u,r,l⟩:=j i x v R d N;refine wpAny_AugAssign_Name ?_
 have T:wpAny (model X.prog X.w) X.A (eval e X.env) (λw M=>wpAny (model X.prog X.w) X.A (inplaceOp op u w) (λr L=>wpAny (model X.prog X.w) X.A (storeName X.env x r) (λ_=>SP X Z D .next) X.xe L) X.xe M) X.xe s:=by
  refine thn (t Z s U H _ I h) λw B ⟨y,a,o,F,S⟩=>?_;refine thn (C Z B U a v y u w _ o r F S) λz s2 ⟨zv,n,b,E,A⟩=>?_;exact WF b p R O E (λs3 f=>⟨_,n,f,A⟩) q
 rcases l with⟨J,Q⟩|⟨J,c,g,G⟩
 .exact wpAny_loadName_local I.ok.kind J P Q T
 .rcases J with J|J
  .exact wpAny_loadName_cell I.ok.kind J g G T
  .rcases O with k|k
   .have:X.env.scope.names.lookup x=some .free:=J
    rw[k]at this;cases this
   .have:X.env.scope.names.lookup x=some .free:=J
    rw[k]at this;cases this
end
structure It where
 go:Nat->Hp->Prop
 yld:Nat->Hp->V->Hp->Prop
 stop:Nat->Hp->Prop
def UI(X:Cx)(pins:kb)(H:Hp)(b:Addr):Prop:=
 H b=none/\b≠X.env.locals/\b∉X.fs/\(b∈X.ex\/X.s₀.heap.objs.size<=b)/\(∀x c,X.env.cells.lookup x=some c->c≠b)/\∀p∈X.pn++ pins,p.1≠b
theorem Inv.fpOk(I:Inv X Z U H s)(J:s.heap.objs.size<=b)(L:M b=none):UI X Z M b:=by
 refine⟨L,yf (Zv I.lt J),I.nofs J,.inr (ZZ I.sz J),λx c e z=>?_,λp G z=>?_⟩
 .obtain ⟨v,q⟩:=I.cell x c e
  exact Zp (Zv q.lt (by rw[z];exact J)) (zJ _)
 .exact Zp (Zv (ZN (I.pin p G).1) (by rw[z];exact J)) (zJ _)
structure Turn(P:Program)(w:World)(K:W.Frag)(tg:Expr)(J:It)(fp:List Addr)(it:Addr)(tn:Nat->Heap->Prop):Prop where
 mem:it∈fp
 obj:∀i h,tn i h->∀b∈fp,∃o,h.get? b=some o/\∀v,o.data≠.cell v
 keep:∀i h h',tn i h->(∀b∈fp,∀o,h.get? b=some o->h'.get? b=some o)->tn i h'
 item:∀(X:Cx),X.prog=P->X.w=w->X.K=K->X.calm=true->∀(i:Nat)(pins:List (Addr×Obj))(s:Shared)(U:St)(H:Hp)(E:Value->Shared->Prop),Inv X pins U H s->(∀b∈fp,UI X pins H b)->tn i s.heap->J.go i H->
  wpAny (model P w) X.A (pyNext (.ref it)) (λr s1=>∃u,r=some u/\
   wpAny (model P w) X.A (letOwnedTupleGo tg (.ref it) u) (λ_ s2=>∃x H',Inv X pins U H' s2/\RelV x u/\J.yld i H x H'/\tn (i+1) s2.heap/\∀b∈fp,H' b=none) E s1) E s
 done:∀(X:Cx),X.prog=P->X.w=w->X.K=K->X.calm=true->∀(i:Nat)(pins:List (Addr×Obj))(s:Shared)(U:St)(H:Hp)(E:Value->Shared->Prop),Inv X pins U H s->(∀b∈fp,UI X pins H b)->tn i s.heap->J.stop i H->
  wpAny (model P w) X.A (pyNext (.ref it)) (λr s1=>r=none/\Inv X pins U H s1) E s
 self:∀(A:Around)(i:Nat)(s:Shared)(Q:Value->Shared->Prop)(E:Value->Shared->Prop),tn i s.heap->Q (.ref it) s->wpAny (model P w) A (pyIter (.ref it)) Q E s
abbrev TI:=St->Hp->(It->Hp->Prop)->Prop
def PIE(X:Cx)(pins:kb)(U:St)(tg:Expr)(R:It->Hp->Prop)(itv:Value)(s2:Shared):Prop:=
 ∃(L:Addr)(M:kA)(G:Nat->Heap->Prop)(J:It)(Z:Hp),itv=.ref L/\Inv X pins U Z s2/\Turn X.prog X.w X.K tg J M L G/\G 0 s2.heap/\(∀b∈M,UI X pins Z b)/\R J Z
def PI(X:Cx)(tg iter:Expr)(wi:TI):Prop:=
 ∀(Z:kb)(s:Shared)(U:St)(H:Hp)(R:It->Hp->Prop),Inv X Z U H s->wi U H R->
  wpAny (model X.prog X.w) X.A (eval iter X.env) (λv J=>wpAny (model X.prog X.w) X.A (pyIter v) (PIE X Z U tg R) X.xe J) X.xe s
theorem Ld(G:s.heap.get? it=some o)(O:o.cls=.type n)(N:o.data=.fields J)(L:["enumerate","zip","dict_itemiterator","dict_reverseitemiterator","odict_iterator","itertools.zip_longest","itertools.pairwise"].contains n=false)(Z:Q () s):wpAny M A (letOwnedTupleGo tg (.ref it) u) Q E s:=by
  unfold letOwnedTupleGo;cases tg <;> first
    |exact Zk Z
    | (cases u <;> first
        |exact Zk Z
        | (refine Zj (wpAny_load G ?_)
           rw[O,N];show wpAny M A (if(["enumerate","zip","dict_itemiterator","dict_reverseitemiterator","odict_iterator","itertools.zip_longest","itertools.pairwise"].contains n && J[0]?==some (rawInt _))=true then _ else _) Q E s;rw[Zo (by intro h;rw[L,Bool.false_and]at h;cases h)];exact Zk Z))
def Itl(K:W.Frag)(a:Addr):It:=
 ⟨λi H=>∃Z x,SqL K H a Z/\Z[i]?=some x,λi H x J=>J=H/\∀Z,SqL K H a Z->Z[i]?=some x,λi H=>∃Z,SqL K H a Z/\Z.length<=i⟩
def Itt(K:W.Frag)(a:Addr):It:=
 ⟨λi H=>∃Z x,SqT K H a Z/\Z[i]?=some x,λi H x J=>J=H/\∀Z,SqT K H a Z->Z[i]?=some x,λi H=>∃Z,SqT K H a Z/\Z.length<=i⟩
def Itr(lo:Int)(n:Nat):It:=⟨λi _=>i<n,λi H x Z=>Z=H/\x=.int (lo+i),λi _=>n<=i⟩
theorem E6{P:Program}{w:World}{K:W.Frag}{g:Expr}(a it:Addr):Turn P w K g (Itl K a) [it] it (λi h=>h.IsListIter it a i) where
 mem:=by simp
 obj:=λi h Z b G=>by
  have e:b=it:=by simpa using G
  subst e;obtain⟨o,e,c,d⟩:=Z;exact⟨o,e,λv z=>by rw[d]at z;cases z⟩
 keep:=λi h O Z k=>Z.at λo e=>k it (by simp) o e
 item:=by
  intro X A D S t i J s U H E I N Z F;subst A D S;obtain⟨m,x,M,B⟩:=F;obtain⟨T,R,p,l⟩:=I.list M;obtain⟨u,hu,r⟩:=R.get B;obtain⟨q,y,f2,j,Q,C⟩:=N it (by simp);refine wpAny_pyNext_list_item Z p.isList (x:=u) (by simpa using hu) λO L f=>?_;have I1:Inv X J U H {s with heap:=O}:=I.turned (t':=s.toks) (λb o G e=>(f.2 b G).trans e) q y j Q C;obtain⟨o,e,c,d⟩:=id L;exact⟨u,rfl,Ld (s:={s with heap:=O}) e c d (by decide) ⟨x,H,I1,r,⟨rfl,λys n=>by rw[I.list_inj n M];exact B⟩,L,λb G=>(N b G).1⟩⟩
 done:=by
  intro X A D S t i J s U H E I N Z F;subst A D S;obtain⟨m,M,B⟩:=F;obtain⟨T,R,p,l⟩:=I.list M;obtain⟨q,y,f2,j,Q,C⟩:=N it (by simp);have hl:=R.length;exact wpAny_pyNext_list_end (I.ok.hd t) Z p.isList (by simp;omega) λO eb=>⟨rfl,I.turned (t':=s.toks) (λb o G e=>eb b o G e) q y j Q C⟩
 self:=λ_ _ _ _ _ Z h=>wpAny_pyIter_listiter Z h
theorem BJ{P:Program}{w:World}{K:W.Frag}{g:Expr}(a it:Addr):Turn P w K g (Itt K a) [it] it (λi h=>h.IsTupleIter it a i) where
 mem:=by simp
 obj:=λi h Z b L=>by
  have e:b=it:=by simpa using L
  subst e;obtain⟨o,e,c,d⟩:=Z;exact⟨o,e,λv z=>by rw[d]at z;cases z⟩
 keep:=λi h R Z k=>Z.at λo e=>k it (by simp) o e
 item:=by
  intro X A D S t i J s U H E I O Z F;subst A D S;obtain⟨m,x,N,B⟩:=F;obtain⟨G,T,p,l⟩:=I.tuple N;obtain⟨u,hu,r⟩:=T.get B;obtain⟨q,y,f2,j,Q,C⟩:=O it (by simp);refine wpAny_pyNext_tuple_item Z (show s.heap.IsTuple a G.toArray from p) (x:=u) (by simpa using hu) λR M f=>?_;have I1:Inv X J U H {s with heap:=R}:=I.turned (t':=s.toks) (λb o L e=>(f.2 b L).trans e) q y j Q C;obtain⟨o,e,c,d⟩:=id M;exact⟨u,rfl,Ld (s:={s with heap:=R}) e c d (by decide) ⟨x,H,I1,r,⟨rfl,λys n=>by rw[I.tuple_inj n N];exact B⟩,M,λb L=>(O b L).1⟩⟩
 done:=by
  intro X A D S t i J s U H E I O Z F;subst A D S;obtain⟨m,N,B⟩:=F;obtain⟨G,T,p,l⟩:=I.tuple N;obtain⟨q,y,f2,j,Q,C⟩:=O it (by simp);have hl:=T.length;exact wpAny_pyNext_tuple_end (I.ok.hd t) Z (show s.heap.IsTuple a G.toArray from p) (by simp;omega) λR eb=>⟨rfl,I.turned (t':=s.toks) (λb o L e=>eb b o L e) q y j Q C⟩
 self:=λ_ _ _ _ _ Z h=>wpAny_pyIter_tupleiter Z h
theorem BK{P:Program}{w:World}{K:PySem.W.Frag}{m:Expr}(it:Addr)(M:Int)(n:Nat):Turn P w K m (Itr M n) [it] it (λi h=>IsRangeIter h it (M+(i:Nat)*1) ((n:Int)-(i:Nat)) 1) where
 mem:=by simp
 obj:=λi h Z b G=>by
  have e:b=it:=by simpa using G
  subst e
  exact⟨_,Z,λv z=>by
   have q:Data.fields _=Data.cell v:=z;cases q⟩
 keep:=λi h O Z k=>k it (by simp) _ Z
 item:=by
  intro X D R F B i J s U H E I N Z T;subst D R F;obtain⟨j,Q,c,C,S,A⟩:=N it (by simp);have W:=Walks.range (prog:=X.prog) (w:=X.w) (I.ok.hd B) it M 1 n;refine W.item i s _ _ T Z λv O y p L g=>?_;obtain⟨t,rfl⟩:=p;have f:Inv X J U H {s with heap:=O,toks:=y}:=I.turned (λb o G e=>g b o (by simpa using G) e) j Q C S A;refine⟨_,rfl,Ld (s:={s with heap:=O,toks:=y}) (n:="range_iterator") L rfl rfl (by decide) ⟨.int (M+i),H,f,⟨t,?_⟩,⟨rfl,rfl⟩,L,λb G=>(N b G).1⟩⟩;rw[Int.mul_one]
 done:=by
  intro X D R F B i J s U H E I N Z T;subst D R F;obtain⟨j,Q,c,C,S,A⟩:=N it (by simp);exact wpAny_pyNext_range_end (I.ok.hd B) Z (by have:n<=i:=T;omega) λO d=>⟨rfl,I.turned (t':=s.toks) (λb o G e=>d b o G e) j Q C S A⟩
 self:=λ_ _ _ _ _ Z h=>wpAny_pyIter_rangeiter Z h
end L2
namespace L2
open PySem PySem.Spec PyProof.Rows
section
def LV(K:W.Frag)(tl:TE):TI:=λU H R=>tl U H λx Z=>Jj x λa=>(∃J,SqL K Z a J)/\R (Itl K a) Z
def C0(K:W.Frag)(tl:TE):TI:=λU H R=>tl U H λx Z=>Jj x λa=>(∃J,SqT K Z a J)/\R (Itt K a) Z
theorem VF(T:PE X l tl):PI X tg l (LV X.K tl):=by
 intro Z s U H R I h;refine thn (T Z s U H _ I h) λv J ⟨x,D,G,M,L⟩=>?_;replace L:=Jj.old L;obtain⟨a,e,⟨E,O⟩,q⟩:=L;subst e;cases M;obtain⟨N,F,p,A⟩:=G.list O;refine yW p.isList ?_;refine⟨J.heap.objs.size,[J.heap.objs.size],_,_,D,rfl,G.kept (t':=J.toks) λb o e=>ZD _ e,E6 a _,⟨_,ZW _ rfl,rfl,rfl⟩,λb B=>?_,q⟩;have e:b=J.heap.objs.size:=by simpa using B
 subst e;exact G.fpOk (ZF _) (G.hok.fresh (ZF _))
theorem JH(T:PE X l tl):PI X tg l (C0 X.K tl):=by
 intro J s U H R I h;refine thn (T J s U H _ I h) λv Z ⟨x,D,G,N,L⟩=>?_;replace L:=Jj.old L;obtain⟨a,e,⟨E,O⟩,q⟩:=L;subst e;cases N;obtain⟨M,F,p,A⟩:=G.tuple O;refine wpAny_pyIter_tuple (show Z.heap.IsTuple a M.toArray from p) ?_;refine⟨Z.heap.objs.size,[Z.heap.objs.size],_,_,D,rfl,G.kept (t':=Z.toks) λb o e=>ZD _ e,BJ a _,⟨_,ZW _ rfl,rfl,rfl⟩,λb B=>?_,q⟩;have e:b=Z.heap.objs.size:=by simpa using B
 subst e;exact G.fpOk (ZF _) (G.hok.fresh (ZF _))
theorem Ke{Z J:Int}(I:Inv X G U H s)(B: -(2 ^ 62)<=Z)(T:Z<2 ^ 62)(O: -(2 ^ 62)<=J)(N:J<2 ^ 62)(q:R (Itr Z (J-Z).toNat) H):wpAny (model X.prog X.w) X.A (pyIter (.ref s.heap.objs.size)) (PIE X G U tg R) E {s with heap:=s.heap.push {cls:=.type "range",data:=.fields #[.int Z t,.int J u,.int 1 v]},toks:=tk}:=by
 refine wpAny_pyIter_range (IsRange.new ..) (small_one B T O N) ?_;have L:Inv X G U H {s with heap:=s.heap.push {cls:=.type "range",data:=.fields #[.int Z t,.int J u,.int 1 v]},toks:=tk}:=I.kept λb o e=>ZD _ e;refine⟨(s.heap.push {cls:=.type "range",data:=.fields #[.int Z t,.int J u,.int 1 v]}).objs.size,[(s.heap.push {cls:=.type "range",data:=.fields #[.int Z t,.int J u,.int 1 v]}).objs.size],_,_,H,rfl,
  L.kept (t':=tk) λb o e=>ZD _ e,BK _ Z (J-Z).toNat,?_,λb M=>?_,q⟩
 .have e1:Z+((0:Nat):Int)*1=Z:=by simp
  have D:(((J-Z).toNat:Nat):Int)-((0:Nat):Int)=Builtin.Range.rangeSize Z J 1:=by rw[rangeSize_one];split <;> omega
  show IsRangeIter _ _ (Z+((0:Nat):Int)*1) ((((J-Z).toNat:Nat):Int)-((0:Nat):Int)) 1;rw[e1,D];exact ZW _ rfl
 .have e:b=(s.heap.push {cls:=.type "range",data:=.fields #[.int Z t,.int J u,.int 1 v]}).objs.size:=by simpa using M
  subst e;exact L.fpOk (ZF _) (L.hok.fresh (ZF _))
def CF(ta:TA):TI:=λU H R=>ta U H λZ J=>∃j:Int,Z=[.int j]/\ -(2 ^ 62)<=j/\j<2 ^ 62/\R (Itr 0 j.toNat) J
theorem Uo(T:Gl X "range")(O:X.mg "range"=none)(B:PA X [a] ta)(N:starEach [a] X.env=[(false,eval a X.env)]:=by rfl):PI X tg (.Call (.Name "range" p) [a] [] pos) (CF ta):=by
 intro Z s U H R I h;refine Call_ (Wv I T O boot_range (yu (thn (B pos Z s U H _ I h) λF A ⟨E,S,D,L,J⟩=>?_) N rfl));obtain⟨j,e,J,M,q⟩:=J;subst e
 cases L with
 |cons r G=>
  cases G;obtain⟨t,rfl⟩:=r;exact call_range_1 (Ke D (by omega) (by omega) J M (by simpa using q))
def Jx(wi:TI)(g:TG)(tb:TS):TS:=λD U H=>wi U H λJ O=>∃W:Nat->Nat->St->Hp->Prop,(∃m,W 0 m U O)/\∀i m U H,W i m U H->
 (J.stop i H/\D.nx U H)\/(J.go i H/\∃N:kI,(∀L Z,N L Z->∃G,G<m/\W (i+1) G L Z)/\∀x Z,J.yld i H x Z->g x U Z fun σ2 M=>tb {D with nx:=N,ct:=N,bk:=D.nx} σ2 M)
def VT(fp:kA)(h:Heap):kb:=fp.filterMap λb=>(h.get? b).map λo=>(b,o)
theorem Vt(Z:b∈fp)(e:h.get? b=some o):(b,o)∈VT fp h:=List.mem_filterMap.mpr ⟨b,Z,by rw[e];rfl⟩
theorem Xn(Z:p∈VT fp h):p.1∈fp/\h.get? p.1=some p.2:=by
 obtain⟨b,J,e⟩:=List.mem_filterMap.mp Z
 cases q:h.get? b with
 |none=>rw[q]at e;cases e
 |some o=>
  rw[q]at e;have G:(b,o)=p:=ZP e;subst G;exact⟨J,q⟩
theorem Inv.pinned(I:Inv X Z U H s)(N:∀b∈fp,UI X Z H b)(M:∀b∈fp,∃o,s.heap.get? b=some o/\∀v,o.data≠.cell v):Inv X (Z++ VT fp s.heap) U H s:=
 I.pins_of λp L=>(ZV.mp L).elim (λz=>I.pin p (ZQ _ z)) λz=>by
  obtain⟨J,e⟩:=Xn z;obtain⟨T,R,O,_⟩:=N p.1 J;obtain⟨o,G,d⟩:=M p.1 J;rw[e]at G;cases G;exact⟨e,T,R,O,d⟩
theorem Inv.unpinned(I:Inv X (Z++ pl) U H s):Inv X Z U H s:=I.pins_of λp J=>I.pin p (ZQ _ (yA _ J))
theorem Vo(S:PassesOwn (model X.prog X.w) X.A X.env X.xe)(a:X.calm=true)(hi:PI X tg iter wi)(hg:PG X tg g)(L:PSs X body tb)(hs:∀x,foldedSetIterable iter X.env x=pure x:=by intro _;rfl):PS X (.For tg iter body [] pos) (Jx wi g tb):=by
 intro Z s U H D I h;refine wpAny_For (thn (hi Z s U H _ I h) λv s1 h1=>thn h1 λZ8 s2 h2=>?_) hs;obtain⟨it,P,p,J,H2,e,I2,T,y,f2,W,⟨m0,w0⟩,turn⟩:=h2;subst e;have G:∀{R:Hp},(∀b∈P,R b=none)->∀b∈P,UI X Z R b:=λhn b L=>⟨hn b L,(f2 b L).2⟩;refine codeAny_forLoop_any (λn l=>∃i Q R,Inv X Z Q R l/\p i l.heap/\(∀b∈P,R b=none)/\W i n Q R) ?_ m0 ⟨0,U,H2,I2,y,λb L=>(f2 b L).1,w0⟩;rintro n w ⟨i,σ3,j,I3,F,C,w3⟩;rcases turn i n σ3 j w3 with⟨stop,qn⟩|⟨go,N,hN,step⟩
 .refine vo S (thn (T.done X rfl rfl rfl a i Z w σ3 j X.xe I3 (G C) F stop) λr s4 ⟨q,I4⟩=>?_)
  subst q;exact vY ⟨σ3,j,I4,qn⟩
 .refine vo S (thn (T.item X rfl rfl rfl a i Z w σ3 j X.xe I3 (G C) F go) λr s4 ⟨u,q,h4⟩=>?_)
  subst q;refine vo S (thn h4 λ_ c ⟨x,H5,I5,r5,y5,E,t⟩=>?_);have k:=I5.pinned (G t) (T.obj _ _ E);refine vo S (thn (hg _ c σ3 H5 x u _ k r5 (step x H5 y5)) λ_ s6 ⟨σ6,H6,I6,q6⟩=>?_);refine vo S (thn (L _ s6 σ6 H6 _ I6 q6) λf z B=>?_)
  have again:∀{σ7:St}{O:Hp},Inv X (Z++ VT P c.heap) σ7 O z->N σ7 O->∃m,m<n/\∃i Q R,Inv X Z Q R z/\p i z.heap/\(∀b∈P,R b=none)/\W i m Q R:=λ{σ7 O} M A=>by
   obtain⟨m',hm,w7⟩:=hN σ7 O A;refine⟨m',hm,i+1,σ7,O,M.unpinned,T.keep _ _ _ E λb L o e=>(M.pin (b,o) (ZQ _ (ZQ _ (Vt L e)))).1,λb L=>?_,w7⟩;obtain⟨o,e,d⟩:=T.obj _ _ E b L;exact(M.pin (b,o) (ZQ _ (ZQ _ (Vt L e)))).2.1
  cases f with
  |next=>obtain⟨σ7,O,M,A⟩:=B;exact again M A
  |cont=>obtain⟨σ7,O,M,A⟩:=B;exact again M A
  |brk=>obtain⟨σ7,O,M,B⟩:=B;exact⟨σ7,O,M.unpinned,B⟩
  |ret v=>obtain⟨x7,σ7,O,M,r7,B⟩:=B;exact⟨x7,σ7,O,M.unpinned,r7,B⟩
end
theorem Lk{K:PySem.W.Frag}{g:TG}{O:TS}{D:Ends}(J:kH)(S:J 0 U H)(F:∀i U H,i<=Z.length->J i U H->SqL K H a Z)(E:∀i x U H,Z[i]?=some x->J i U H->g x U H fun σ2 M=>O {D with nx:=J (i+1),ct:=J (i+1),bk:=D.nx} σ2 M)(I:∀U H,J Z.length U H->D.nx U H):
  ∃W:Nat->Nat->St->Hp->Prop,(∃m,W 0 m U H)/\∀i m U H,W i m U H->
   ((Itl K a).stop i H/\D.nx U H)\/((Itl K a).go i H/\∃N:kI,(∀L G,N L G->∃R,R<m/\W (i+1) R L G)/\∀x G,(Itl K a).yld i H x G->g x U G fun σ2 M=>O {D with nx:=N,ct:=N,bk:=D.nx} σ2 M):=by
 refine⟨λi m U H=>m=Z.length-i/\i<=Z.length/\J i U H,⟨Z.length,by simp,Za _,S⟩,?_⟩;rintro i m U H ⟨rfl,A,p⟩;have q:=F i U H A p
 by_cases hlt:i<Z.length
 .refine .inr ⟨⟨Z,Z[i],q,by simp[hlt]⟩,J (i+1),λL G T=>⟨Z.length-(i+1),by omega,rfl,hlt,T⟩,λx G y=>?_⟩
  obtain⟨e,y⟩:=y;subst e;exact E i x U _ (y Z q) p
 .have e:i=Z.length:=by omega
  subst e;exact .inl ⟨⟨Z,q,ZF _⟩,I U H p⟩
theorem Pn{K:PySem.W.Frag}{g:TG}{O:TS}{D:Ends}(J:kH)(S:J 0 U H)(F:∀i U H,i<=Z.length->J i U H->SqT K H a Z)(E:∀i x U H,Z[i]?=some x->J i U H->g x U H fun σ2 M=>O {D with nx:=J (i+1),ct:=J (i+1),bk:=D.nx} σ2 M)(I:∀U H,J Z.length U H->D.nx U H):
  ∃W:Nat->Nat->St->Hp->Prop,(∃m,W 0 m U H)/\∀i m U H,W i m U H->
   ((Itt K a).stop i H/\D.nx U H)\/((Itt K a).go i H/\∃N:kI,(∀L G,N L G->∃R,R<m/\W (i+1) R L G)/\∀x G,(Itt K a).yld i H x G->g x U G fun σ2 M=>O {D with nx:=N,ct:=N,bk:=D.nx} σ2 M):=by
 refine⟨λi m U H=>m=Z.length-i/\i<=Z.length/\J i U H,⟨Z.length,by simp,Za _,S⟩,?_⟩;rintro i m U H ⟨rfl,A,p⟩;have q:=F i U H A p
 by_cases hlt:i<Z.length
 .refine .inr ⟨⟨Z,Z[i],q,by simp[hlt]⟩,J (i+1),λL G T=>⟨Z.length-(i+1),by omega,rfl,hlt,T⟩,λx G y=>?_⟩
  obtain⟨e,y⟩:=y;subst e;exact E i x U _ (y Z q) p
 .have e:i=Z.length:=by omega
  subst e;exact .inl ⟨⟨Z,q,ZF _⟩,I U H p⟩
theorem Fk{G:Int}{g:TG}{O:TS}{D:Ends}(Z:kH)(A:Z 0 U H)(E:∀i U H,i<n->Z i U H->g (.int (G+i)) U H fun σ2 M=>O {D with nx:=Z (i+1),ct:=Z (i+1),bk:=D.nx} σ2 M)(F:∀U H,Z n U H->D.nx U H):
  ∃W:Nat->Nat->St->Hp->Prop,(∃m,W 0 m U H)/\∀i m U H,W i m U H->
   ((Itr G n).stop i H/\D.nx U H)\/((Itr G n).go i H/\∃N:kI,(∀L J,N L J->∃R,R<m/\W (i+1) R L J)/\∀x J,(Itr G n).yld i H x J->g x U J fun σ2 M=>O {D with nx:=N,ct:=N,bk:=D.nx} σ2 M):=by
 refine⟨λi m U H=>m=n-i/\i<=n/\Z i U H,⟨n,by simp,Za _,A⟩,?_⟩;rintro i m U H ⟨rfl,I,p⟩
 by_cases hlt:i<n
 .refine .inr ⟨hlt,Z (i+1),λL J T=>⟨n-(i+1),by omega,rfl,hlt,T⟩,λx J y=>?_⟩
  obtain⟨e,y⟩:=y;subst e y;exact E i U _ hlt p
 .have e:i=n:=by omega
  subst e;exact .inl ⟨ZF _,F U H p⟩
abbrev R2:=V->V->Hp->VK->Prop
def OpR(X:Cx)(f:Value->Value->Sem Value)(r:R2):Prop:=
 ∀(Z:kb)(s:Shared)(U:St)(H:Hp)(x y:V)(v u:Value)(Q:VK),Inv X Z U H s->RelV x v->RelV y u->r x y H Q->
  wpAny (model X.prog X.w) X.A (f v u) (EP X Z U Q) X.xe s
def UnR(X:Cx)(f:Value->Sem Value)(r:V->Hp->VK->Prop):Prop:=
 ∀(Z:kb)(s:Shared)(U:St)(H:Hp)(x:V)(v:Value)(Q:VK),Inv X Z U H s->RelV x v->r x H Q->
  wpAny (model X.prog X.w) X.A (f v) (EP X Z U Q) X.xe s
def UG(X:Cx)(f:Value)(r:List V->Hp->VK->Prop):Prop:=
 ∀(Z:kb)(s:Shared)(U:St)(H:Hp)(J:kF)(G:kj)(Q:VK),Inv X Z U H s->Vals J G->r J H Q->
  wpAny (model X.prog X.w) X.A (call f G) (EP X Z U Q) X.xe s
def tOp(r:R2)(ta tb:TE):TE:=λU H Q=>ta U H λx J=>tb U J λy Z=>r x y Z Q
def tUn(r:V->Hp->VK->Prop)(ta:TE):TE:=λU H Q=>ta U H λx Z=>r x Z Q
def rI(C:Int->Int->Prop)(g:Int->Int->V):R2:=λx y H Q=>XF x λi=>XF y λj=>C i j/\Q (g i j) H
theorem rI.old(h:rI C g x y H Q):∃i j,x=.int i/\y=.int j/\C i j/\Q (g i j) H:=by
 replace h:=XF.old h;obtain⟨i,e,h⟩:=h;replace h:=XF.old h;obtain⟨j,Z,h⟩:=h;exact⟨i,j,e,Z,h⟩
def rI0(g:Int->Int->V):R2:=λx y H Q=>XF x λi=>XF y λj=>Q (g i j) H
theorem rI0.old(h:rI0 g x y H Q):∃i j,x=.int i/\y=.int j/\Q (g i j) H:=by
 replace h:=XF.old h;obtain⟨i,e,h⟩:=h;replace h:=XF.old h;obtain⟨j,Z,h⟩:=h;exact⟨i,j,e,Z,h⟩
def rU(g:Int->V):V->Hp->VK->Prop:=λx H Q=>∃i,x=.int i/\Q (g i) H
section
theorem AE(S:PE X a ta)(A:PE X b tb){R:V->V->Hp->Prop}(I:Inv X Z U H s)(h:ta U H λx N=>tb U N λy J=>R x y J){f:Value->Value->Sem Value}(F:∀v u M x y J,Inv X Z U J M->RelV x v->RelV y u->R x y J->wpAny (model X.prog X.w) X.A (f v u) Q X.xe M):
  wpAny (model X.prog X.w) X.A (eval a X.env) (λv L=>wpAny (model X.prog X.w) X.A (eval b X.env) (λu G=>wpAny (model X.prog X.w) X.A (f v u) Q X.xe G) X.xe L) X.xe s:=by
 refine thn (S Z s U H _ I h) λv O ⟨x,N,P,B,E⟩=>?_;refine thn (A Z O U N _ P E) λu M ⟨y,J,C,T,D⟩=>?_;exact F v u M x y J C B T D
theorem Y1(M:OpR X (binaryOp op) r)(O:PE X a ta)(N:PE X b tb):PE X (.BinOp a op b pos) (tOp r ta tb):=by
 intro Z s U H Q I h;exact wpAny_BinOp (AE O N I h λv u J x y T R L G q=>M Z J U T x y v u Q R L G q)
theorem EJ(M:UnR X (unaryOp op) r)(N:PE X a ta):PE X (.UnaryOp op a pos) (tUn r ta):=by
 intro Z s U H Q I h;exact UnaryOp_ (thn (N Z s U H _ I h) λv J ⟨x,R,O,G,L⟩=>M Z J U R x v Q O G L)
theorem opI{g:Int->Int->Int}(rule:∀(i j:Int)(t u:Tok)(s:Shared)(Q:kh)(E:kh),C i j->Q (.int (g i j) s.toks) {s with toks:=s.toks+1}->wpAny (model X.prog X.w) X.A (f (.int i t) (.int j u)) Q E s):
  OpR X f (rI C λi j=>.int (g i j)):=by
 intro Z s U H x y v u Q I L G h;replace h:=rI.old h;obtain⟨i,j,rfl,rfl,M,q⟩:=h;obtain⟨t,rfl⟩:=L;obtain⟨J,rfl⟩:=G;exact rule i j t J s _ _ M ⟨.int (g i j),H,I.tok _,⟨_,rfl⟩,q⟩
theorem SQ{g:Int->Int->Int}(rule:∀(i j:Int)(t u:Tok)(s:Shared)(Q:kh)(E:kh),Q (.int (g i j) s.toks) {s with toks:=s.toks+1}->wpAny (model X.prog X.w) X.A (f (.int i t) (.int j u)) Q E s):
  OpR X f (rI0 λi j=>.int (g i j)):=by
 intro Z s U H x y v u Q I L G h;replace h:=rI0.old h;obtain⟨i,j,rfl,rfl,q⟩:=h;obtain⟨t,rfl⟩:=L;obtain⟨J,rfl⟩:=G;exact rule i j t J s _ _ ⟨.int (g i j),H,I.tok _,⟨_,rfl⟩,q⟩
theorem O0{g:Int->Int->Bool}(rule:∀(i j:Int)(t u:Tok)(s:Shared)(Q:kh)(E:kh),Q (.bool (g i j)) s->wpAny (model X.prog X.w) X.A (f (.int i t) (.int j u)) Q E s):
  OpR X f (rI0 λi j=>.bl (g i j)):=by
 intro Z s U H x y v u Q I L G h;replace h:=rI0.old h;obtain⟨i,j,rfl,rfl,q⟩:=h;obtain⟨t,rfl⟩:=L;obtain⟨J,rfl⟩:=G;exact rule i j t J s _ _ ⟨.bl (g i j),H,I,rfl,q⟩
def zI(i j:Int):Prop:=0<j/\j<1073741824
def CS(i j:Int):Prop:=0<=j/\j<=1000000/\i.natAbs<2 ^ 64
def P7(i j:Int):Prop:=(-(2 ^ 64)<i/\i<2 ^ 64)\/(-(2 ^ 64)<j/\j<2 ^ 64)
theorem P7.ok(h:P7 i j):IntMulOk i j:=by
 rcases h with⟨J,Z⟩|⟨J,Z⟩
 .exact .of_left (intBits_le_64 J Z)
 .exact .of_right (intBits_le_64 J Z)
theorem Vf:OpR X (binaryOp .Add) (rI0 λi j=>.int (i+j)):=SQ λ_ _ _ _ _ _ _ q=>add_int q
theorem UP:OpR X (binaryOp .Sub) (rI0 λi j=>.int (i-j)):=SQ λ_ _ _ _ _ _ _ q=>sub_int q
theorem Jb:OpR X (binaryOp .Mult) (rI P7 λi j=>.int (i*j)):=opI λ_ _ _ _ _ _ _ Z q=>mul_int q Z.ok
theorem G0:OpR X (binaryOp .FloorDiv) (rI zI λi j=>.int (i / j)):=opI λi j _ _ _ _ _ Z q=>by
 have G:(0:Int)<j:=Z.1;have J:j<1073741824:=Z.2;exact floordiv_int (by omega) (by rw[Int.fdiv_eq_ediv_of_nonneg i (by omega)];exact q) (.inl (PyProof.noPylong_small (by omega)))
theorem XZ:OpR X (binaryOp .Mod) (rI (λ_ j=>0<j) λi j=>.int (i % j)):=opI λi j _ _ _ _ _ Z q=>by
 have J:(0:Int)<j:=Z;exact mod_int' (by omega) (by rw[Int.fmod_eq_emod_of_nonneg i (by omega)];exact q)
theorem SO:OpR X (binaryOp .Pow) (rI CS λi j=>.int (i ^ j.toNat)):=opI λ_ _ _ _ _ _ _ Z q=>pow_int_small Z.1 Z.2.1 Z.2.2 q
theorem EW:OpR X (inplaceOp .Add) (rI0 λi j=>.int (i+j)):=SQ λ_ _ _ _ _ _ _ q=>iadd_int q
theorem Pc:OpR X (inplaceOp .Mult) (rI P7 λi j=>.int (i*j)):=opI λ_ _ _ _ _ _ _ Z q=>imul_int q Z.ok
theorem unI{g:Int->Int}(rule:∀(i:Int)(t:Tok)(s:Shared)(Q:kh)(E:kh),Q (.int (g i) s.toks) {s with toks:=s.toks+1}->wpAny (model X.prog X.w) X.A (f (.int i t)) Q E s):
  UnR X f (rU λi=>.int (g i)):=by
 intro Z s U H x v Q I J h;obtain⟨i,rfl,q⟩:=h;obtain⟨t,rfl⟩:=J;exact rule i t s _ _ ⟨.int (g i),H,I.tok _,⟨_,rfl⟩,q⟩
theorem MG:UnR X (unaryOp .USub) (rU λi=>.int (-i)):=unI λ_ _ _ _ _ q=>neg_int q
end
def Q0:V->V->Bool
 |.non,.non=>true|.non,.int _=>true|.int _,.non=>true|.non,.bl _=>true|.bl _,.non=>true|.non,.str _=>true|.str _,.non=>true
 |.int _,.int _=>true|.bl _,.bl _=>true|.str _,.str _=>true|.byt _,.byt _=>true
 |.int _,.str _=>true|.str _,.int _=>true|.bl _,.str _=>true|.str _,.bl _=>true
 |_,_=>false
def rEq:R2:=λx y H Q=>Q0 x y=true/\Q (.bl (decide (x=y))) H
def rNe:R2:=λx y H Q=>Q0 x y=true/\Q (.bl (!decide (x=y))) H
theorem Ek:decide (V.int i=V.int j)=(i==j):=by
 rw[yd];simp
theorem Lv:decide (V.bl i=V.bl j)=(i==j):=by
 rw[yd];simp
theorem Ej:decide (V.str i=V.str j)=(i==j):=by
 rw[yd];simp
theorem El:decide (V.byt i=V.byt j)=(i.toList==j.toList):=by
 rw[yd];cases i;cases j;simp
section
variable{a b c:Expr}{ta tb tc:TE}
theorem VV(I:Inv X Z U H s)(q:Q (.bl k) H)(e:k=k'):EP X Z U Q (.bool k') s:=by
 subst e;exact⟨.bl k,H,I,rfl,q⟩
theorem V9:OpR X (compareOp .Eq) rEq:=by
 intro M s U H x y v u Q I L Z h;obtain⟨G,q⟩:=h
 cases x with
 |non=>
  cases L
  cases y with
  |non=>cases Z;exact PySem.EqNone.eq_none_none (VV I q (by simp))
  |bl j=>cases Z;exact PySem.EqNone.eq_none_bool (VV I q (by simp))
  |int j=>obtain⟨J,rfl⟩:=Z;exact PySem.EqNone.eq_none_int (VV I q (by simp))
  |str j=>obtain⟨J,rfl⟩:=Z;exact PySem.EqNone.eq_none_str (VV I q (by simp))
  |_=>exact Zp (show false=true from G) Zg
 |bl i=>
  cases L
  cases y with
  |non=>cases Z;exact PySem.EqNone.eq_bool_none (VV I q (by simp))
  |bl j=>cases Z;exact eq_bool (VV I q Lv)
  |str j=>obtain⟨J,rfl⟩:=Z;exact PySem.EqMixed.eq_bool_str (VV I q (by simp))
  |_=>exact Zp (show false=true from G) Zg
 |int i=>
  obtain⟨t,rfl⟩:=L
  cases y with
  |non=>cases Z;exact PySem.EqNone.eq_int_none (VV I q (by simp))
  |int j=>obtain⟨J,rfl⟩:=Z;exact eq_int (VV I q Ek)
  |str j=>obtain⟨J,rfl⟩:=Z;exact PySem.EqMixed.eq_int_str (VV I q (by simp))
  |_=>exact Zp (show false=true from G) Zg
 |str i=>
  obtain⟨t,rfl⟩:=L
  cases y with
  |non=>cases Z;exact PySem.EqNone.eq_str_none (VV I q (by simp))
  |bl j=>cases Z;exact PySem.EqMixed.eq_str_bool (VV I q (by simp))
  |int j=>obtain⟨J,rfl⟩:=Z;exact PySem.EqMixed.eq_str_int (VV I q (by simp))
  |str j=>obtain⟨J,rfl⟩:=Z;exact eq_str (VV I q Ej)
  |_=>exact Zp (show false=true from G) Zg
 |byt i=>
  obtain⟨t,rfl⟩:=L
  cases y with
  |byt j=>obtain⟨J,rfl⟩:=Z;exact W.eq_bytes (VV I q El)
  |_=>exact Zp (show false=true from G) Zg
 |_=>cases y <;> exact Zp (show false=true from G) Zg
theorem XY:OpR X (compareOp .NotEq) rNe:=by
 intro M s U H x y v u Q I L Z h;obtain⟨G,q⟩:=h
 cases x with
 |non=>
  cases L
  cases y with
  |non=>cases Z;exact PySem.EqNone.ne_none_none (VV I q (by simp))
  |bl j=>cases Z;exact PySem.EqNone.ne_none_bool (VV I q (by simp))
  |int j=>obtain⟨J,rfl⟩:=Z;exact PySem.EqNone.ne_none_int (VV I q (by simp))
  |str j=>obtain⟨J,rfl⟩:=Z;exact PySem.EqNone.ne_none_str (VV I q (by simp))
  |_=>exact Zp (show false=true from G) Zg
 |bl i=>
  cases L
  cases y with
  |non=>cases Z;exact PySem.EqNone.ne_bool_none (VV I q (by simp))
  |bl j=>cases Z;exact ne_bool (VV I q (congrArg not Lv))
  |str j=>obtain⟨J,rfl⟩:=Z;exact PySem.EqMixed.ne_bool_str (VV I q (by simp))
  |_=>exact Zp (show false=true from G) Zg
 |int i=>
  obtain⟨t,rfl⟩:=L
  cases y with
  |non=>cases Z;exact PySem.EqNone.ne_int_none (VV I q (by simp))
  |int j=>obtain⟨J,rfl⟩:=Z;exact ne_int (VV I q (congrArg not Ek))
  |str j=>obtain⟨J,rfl⟩:=Z;exact PySem.EqMixed.ne_int_str (VV I q (by simp))
  |_=>exact Zp (show false=true from G) Zg
 |str i=>
  obtain⟨t,rfl⟩:=L
  cases y with
  |non=>cases Z;exact PySem.EqNone.ne_str_none (VV I q (by simp))
  |bl j=>cases Z;exact PySem.EqMixed.ne_str_bool (VV I q (by simp))
  |int j=>obtain⟨J,rfl⟩:=Z;exact PySem.EqMixed.ne_str_int (VV I q (by simp))
  |str j=>obtain⟨J,rfl⟩:=Z;exact ne_str (VV I q (congrArg not Ej))
  |_=>exact Zp (show false=true from G) Zg
 |byt i=>
  obtain⟨t,rfl⟩:=L
  cases y with
  |byt j=>obtain⟨J,rfl⟩:=Z;exact W.ne_bytes (VV I q (congrArg not El))
  |_=>exact Zp (show false=true from G) Zg
 |_=>cases y <;> exact Zp (show false=true from G) Zg
theorem Ts:OpR X (compareOp .Lt) (rI0 λi j=>.bl (decide (i<j))):=O0 λ_ _ _ _ _ _ _ q=>lt_int q
theorem GX:OpR X (compareOp .LtE) (rI0 λi j=>.bl (decide (i<=j))):=O0 λ_ _ _ _ _ _ _ q=>le_int q
theorem Ur:OpR X (compareOp .Gt) (rI0 λi j=>.bl (decide (j<i))):=O0 λ_ _ _ _ _ _ _ q=>gt_int q
theorem QK:OpR X (compareOp .GtE) (rI0 λi j=>.bl (decide (j<=i))):=O0 λ_ _ _ _ _ _ _ q=>ge_int q
theorem FN:OpR X (compareOp .In) (λx y H Q=>∃i j,x=.str i/\y=.str j/\Q (.bl (!(Builtin.Str.occurrences j i 0 j.length 1).isEmpty)) H):=by
 intro Z s U H x y v u Q I G J h;obtain⟨i,j,rfl,rfl,q⟩:=h;obtain⟨t,rfl⟩:=G;obtain⟨L,rfl⟩:=J;exact in_str (VV I q rfl)
theorem Tt:OpR X (compareOp .Is) (λx y H Q=>y=.non/\Q (.bl (decide (x=.non))) H):=by
 intro J s U H x y v u Q I Z G h;obtain⟨rfl,q⟩:=h;cases G;refine is_none_gen (VV I q ?_);cases x <;> first
  |(cases Z;rfl)
  |(obtain⟨t,rfl⟩:=Z;rfl)
theorem OpR.or(h:OpR X f r)(L:OpR X f r'):OpR X f (λx y H Q=>r x y H Q\/r' x y H Q):=by
 intro Z s U H x y v u Q I G J q;rcases q with q|q
 .exact h Z s U H x y v u Q I G J q
 .exact L Z s U H x y v u Q I G J q
theorem Yy(b:Expr)(h:op≠.In:=by decide)(Z:op≠.NotIn:=by decide):behindInMarks op b=false:=by
 have G:(op==CmpOp.In)=false:=by cases op <;> first|rfl|exact Zp rfl h
 have J:(op==CmpOp.NotIn)=false:=by cases op <;> first|rfl|exact Zp rfl Z
 cases b <;> simp[behindInMarks,G,J]
theorem XA(M:OpR X (compareOp op) r)(R:PE X a ta)(O:PE X b tb)(N:behindInMarks op b=false):PE X (.Compare a [op] [b] pos) (tOp r ta tb):=by
 intro Z s U H Q I h;exact wpAny_Compare1 (AE R O I h λv u J x y B T L G q=>M Z J U B x y v u Q T L G q) N
def QA(t:TE):TT:=λU H Q=>t U H λx Z=>∃k,x=.bl k/\Q k Z
theorem Ys(B:OpR X (compareOp op) r)(F:PE X a ta)(E:PE X b tb)(D:behindInMarks op b=false):PT X (.Compare a [op] [b] pos) (QA (tOp r ta tb)):=by
 intro Z s U H Q I h
 refine wpAny_isTrue_Compare1 (thn (F Z s U H _ I h) λv G ⟨x,q,C,N,T⟩=>thn (E Z G U q _ C T) λu J ⟨y,j,S,M,R⟩=>
  thn (B Z J U j x y v u _ S N M R) λc t ⟨z,P,A,L,k,e,O⟩=>?_) D
 subst e;cases L;exact zy ⟨P,A,O⟩
def Ib(r r':R2)(ta tb tc:TE):TE:=λU H Q=>ta U H λx M=>tb U M λy L=>r x y L λz Z=>∃k,z=.bl k/\
 (if k=true then tc U Z λJ G=>r' y J G Q else Q (.bl false) Z)
theorem Kn(q:OpR X (compareOp op) r)(J:OpR X (compareOp op') r')(p:PE X a ta)(g:PE X b tb)(m:PE X c tc)(t:lastMarks [op,op'] [b,c]=false:=by with_unfolding_all rfl):PE X (.Compare a [op,op'] [b,c] pos) (Ib r r' ta tb tc):=by
 intro Z s U H Q I h
 refine Compare_chain (thn (p Z s U H _ I h) λv E ⟨x,n,l,S,j⟩=>chain_link (thn (g Z E U n _ l j) λu D ⟨y,i,w,G,P⟩=>
  thn (q Z D U i x y v u _ w S G P) λd B ⟨z,N,M,A,k,e,L⟩=>?_)) t
 subst e;cases A;refine zy ?_
 cases k with
 |false=>exact ite_ff ⟨.bl false,N,M,rfl,L⟩
 |true=>exact ite_tt (chain_last (thn (m Z B U N _ M L) λR T ⟨O,o,f,F,C⟩=>J Z T U o y O u R Q f G F C))
theorem Tl(g:OpR X (compareOp op) r)(J:OpR X (compareOp op') r')(l:PE X a ta)(w:PE X b tb)(f:PE X c tc)(p:lastMarks [op,op'] [b,c]=false:=by with_unfolding_all rfl):PT X (.Compare a [op,op'] [b,c] pos) (QA (Ib r r' ta tb tc)):=by
 intro Z s U H Q I h
 refine isTrue_chain (thn (l Z s U H _ I h) λv E ⟨x,H1,I1,C,t⟩=>test_link (thn (w Z E U H1 _ I1 t) λu D ⟨y,H2,I2,G,q⟩=>
  thn (g Z D U H2 x y v u _ I2 C G q) λd B ⟨z,N,M,S,k,e,L⟩=>?_)) p
 subst e;cases S;refine zy ?_
 cases k with
 |false=>
  obtain⟨k',i,m⟩:=L;cases i;exact ite_ff ⟨N,M,m⟩
 |true=>
  refine ite_tt (test_last (thn (f Z B U N _ M L) λR T ⟨O,H4,I4,A,j⟩=>thn (J Z T U H4 y O u R _ I4 G A j) λd' s5 ⟨z2,H5,n,F,k2,o,P⟩=>?_));subst o;cases F;exact zy ⟨H5,n,P⟩
theorem Wu:(sizeLine:Nat)<2 ^ 63:=by rw[sizeLine_eq];decide
theorem Tu:OpR X (binaryOp .Add) (λx y H Q=>∃i j,x=.str i/\y=.str j/\i.length+j.length<=sizeLine/\Q (.str (i++ j)) H):=by
 intro Z s U H x y v u Q I L G h;obtain⟨i,j,rfl,rfl,M,q⟩:=h;obtain⟨t,rfl⟩:=L;obtain⟨J,rfl⟩:=G;exact add_str (λJ N=>⟨.str (i++ j),H,I.tok _,⟨_,rfl⟩,q⟩) M
theorem vals1(r:Vals [x] Z):∃u,Z=[u]/\RelV x u:=by
 cases r with
 |cons G J=>cases J;exact⟨_,rfl,G⟩
theorem vals2(r:Vals [x,y] J):∃u Z,J=[u,Z]/\RelV x u/\RelV y Z:=by
 cases r with
 |cons N M=>
  cases M with
  |cons L G=>cases G;exact⟨_,_,rfl,N,L⟩
theorem W7(G:X.calm=true):UG X (.builtin "max") (λZ H Q=>∃i j,Z=[.int i,.int j]/\Q (.int (if j > i then j else i)) H):=by
 intro J s U H Z M Q I r h;obtain⟨i,j,rfl,q⟩:=h;obtain⟨u,L,rfl,⟨t,rfl⟩,⟨O,rfl⟩⟩:=vals2 r;refine max_two_ints (I.ok.hd G) λR N k=>⟨_,H,I.kept k,?_,q⟩
 by_cases hj:j > i
 .rw [Zn hj,Zn hj];exact⟨_,rfl⟩
 .rw [Zo hj,Zo hj];exact⟨_,rfl⟩
end
structure Dv(h:Heap)(x dx C:Addr)(mA:Str->Option Value):Prop where
 obj:h.get? x=some (W.instObj C dx)
 ns:h.Ns1 dx mA
 ne:dx≠x
set_option tactic.hygienic true in
theorem Rk{h:Heap}(n:h.Ns1 T mA):∃J,h.get? T=some J/\∀name,W.lookIn name J=some (mA name):=by
 obtain⟨o,G,D,M,R,O,_,N⟩:=n;refine⟨o,M,λname=>?_⟩;have e:=N name;unfold nsFind findBy at e;rw[<-Array.find?_toList]at e;unfold W.lookIn;rw[R];dsimp only
 split
 .rename_i y q
  rw[q]at e;exact congrArg some e
 .rename_i q
  rw[q]at e
  have a:G.toList.any (·.refKey)=false:=by
   rw[List.any_eq_false];intro y L;obtain⟨z,t,Z⟩:=O y (Array.mem_toList_iff.mp L);simp[DictEntry.refKey,Z]
  have B:¬G.toList.any (·.refKey)=true:=by rw[a];exact Zg
  rw[Zo B];exact congrArg some e
theorem Dv.look(I:Dv h x L C mA):∃Z,W.InstAt h x (W.instObj C L) C (some Z)/\∀name,W.lookIn name Z=some (mA name):=
 let⟨Z,J,G⟩:=Rk I.ns
 ⟨Z,⟨I.obj,rfl,rfl,J⟩,G⟩
section
variable{K:W.Frag}
theorem Pk(X:K.In s.heap)(I:Dv s.heap x T C mA)(N:W.plainGet K C name=true)(M:W.hasDictIn K C=true)(O:W.findIn K (.ref C) name=some none)(G:mA name=some v)(Z:W.handedIn v=true)(h:Q v {s with toks:=s.toks+1}):
  wpAny (model prog w) A (getAttr (.ref x) name expr) Q E s:=by
 obtain⟨R,J,L⟩:=I.look;exact W.get_value X J (W.plainGet_of N).1 (W.findObj_own M O rfl (by rw[L,G])) Z h
theorem Lf(X:K.In s.heap)(I:Dv s.heap x R C mA)(Z:W.plainGet K C name=true)(O:W.findIn K (.ref C) name=some (some (.ref f)))(M:W.isFn K (.ref f)=true)(L:mA name=none)(h:Q (.ref f,[.ref x]) s):
  wpAny (model prog w) A (getMethod (.ref x) name pl) Q E s:=by
 obtain⟨G,J,N⟩:=I.look;exact W.method_fn X J (W.plainGet_of Z).1 (W.plainGet_of Z).2 O (beq_iff_eq.mp M) (by show(W.lookIn name G).map (·.isSome)=some false;rw[N,L];rfl) h
theorem OQ(X:K.In s.heap)(I:Dv s.heap x M C mA)(U:W.findIn K (.ref C) "__setattr__"=some (some (.builtin "object.__setattr__")))(P:W.plainOver K C=true)(F:W.takerIn K C name=some none)(j:W.hasDictIn K C=true)(D:PySem.Within mA T)(S:T.length<=sizeLine)(h:∀L,Dv L x M C (λy=>if y=name then some v else mA y)->Heap.SameBut M s.heap L->Q () {s with heap:=L,toks:=s.toks+2}):
  wpAny (model prog w) A (setAttr (.ref x) name v) Q E s:=by
 obtain⟨m,J,k⟩:=I.look;refine W.set_plain X J U (W.osa_open (s:={s with toks:=s.toks+1}) (r:=none) X J P F λb=>?_);obtain⟨p,z,O⟩:=W.any_some j;have B:s.heap.get? x=some ⟨.ref C,some M,.plain,#[]⟩:=I.obj;refine Zj (Zk (Zj (Zj (wpAny_loadPart B (Zj (W.Looks.here (s:={s with toks:=s.toks+1}) (W.looks_clsIn X z) ?_))))));rw[O];refine Zk (a:=some M) (Zj (Zk (Zj ?_)));refine wpAny_nsSet1 (s:={s with toks:=s.toks+1}) I.ns λL G Z=>?_;obtain⟨g,q,t,N,hdD,R⟩:=G.count (PySem.Within.cons name v D);refine Zj (wpAny_lookBehind N (by rw[hdD];exact pastItsLine_dict (ZZ R (by rw[Zd];omega))) ?_);exact Zk (h _ ⟨(Z.2 _ (Zq I.ne)).trans I.obj,G,I.ne⟩ Z)
theorem Nl(X:K.In s.heap)(J:W.makesIn K C=true)(G:W.findIn K (.ref C) "__init__"=some (some (.ref f)))(L:W.typeIn K (.ref f)=some (.type "function"))(h:codeAny (model prog w) (A.under (.builtin "type.__call__" ⟨.ref C::Z,kw⟩)) (.call (.ref f) ⟨.ref (s.heap.objs.size+1)::Z,kw⟩) (W.InitBack (s.heap.objs.size+1) R)
   {s with heap:=(s.heap.push W.emptyDict).push (W.instObj C s.heap.objs.size)}):
  codeAny (model prog w) A (.call (.ref C) ⟨Z,kw⟩) R s:=by
 obtain⟨N,g,d,t,M⟩:=s;exact W.make_core (W.makes_of X J) (W.looks_findIn X G) (λself=>W.bind_fn X self L) (.inl rfl) h
end
def VY(f:Str)(v:V):List (Str×V)->List (Str×V)
 |[]=>[(f,v)]
 |(g,x)::r=>if g=f then(g,v)::r else(g,x)::VY f v r
theorem GZ(f g:Str)(v:V):∀Z:List (Str×V),(VY f v Z).lookup g=if g=f then some v else Z.lookup g
 |[]=>by
  show List.lookup g [(f,v)]=_
  by_cases h:g=f
  .have hb:(g==f)=true:=beq_iff_eq.mpr h
   simp only[List.lookup,hb,Zn h]
  .have hb:(g==f)=false:=beq_eq_false_iff_ne.mpr h
   simp only[List.lookup,hb,Zo h]
 |(k,x)::r=>by
  have ih:=GZ f g v r;rw[show VY f v ((k,x)::r)=(if k=f then(k,v)::r else(k,x)::VY f v r)from rfl]
  by_cases hk:k=f
  .rw [Zn hk]
   by_cases h:g=k
   .have hb:(g==k)=true:=beq_iff_eq.mpr h
    simp only[List.lookup,hb,Zn (h.trans hk)]
   .have hb:(g==k)=false:=beq_eq_false_iff_ne.mpr h
    simp only[List.lookup,hb,Zo (λe:g=f=>h (e.trans hk.symm))]
  .rw [Zo hk]
   by_cases h:g=k
   .have hb:(g==k)=true:=beq_iff_eq.mpr h
    simp only[List.lookup,hb,Zo (λe:g=f=>hk (h.symm.trans e))]
   .have hb:(g==k)=false:=beq_eq_false_iff_ne.mpr h
    simp only[List.lookup,hb];exact ih
theorem Wz(f:Str)(v:V):∀Z:List (Str×V),f∈(VY f v Z).map (·.1)/\∀g,g∈Z.map (·.1)->g∈(VY f v Z).map (·.1)
 |[]=>⟨by simp[VY],λg h=>by simp at h⟩
 |(k,x)::r=>by
  obtain⟨G,J⟩:=Wz f v r;rw[show VY f v ((k,x)::r)=(if k=f then(k,v)::r else(k,x)::VY f v r)from rfl]
  by_cases hk:k=f
  .rw [Zn hk]
   subst hk;exact⟨by simp,λg h=>by simpa using h⟩
  .rw [Zo hk]
   refine⟨?_,λg h=>?_⟩
   .rw [ZT]
    exact ZK _ G
   .rw [ZT]at h |-
    rcases Zb.mp h with e|e
    .exact Zb.mpr (.inl e)
    .exact ZK _ (J g e)
theorem Ga(f:Str)(v:V):∀Z:List (Str×V),(VY f v Z).length<=Z.length+1
 |[]=>by simp[VY]
 |(k,x)::r=>by
  have ih:=Ga f v r;rw[show VY f v ((k,x)::r)=(if k=f then(k,v)::r else(k,x)::VY f v r)from rfl]
  by_cases hk:k=f
  .rw [Zn hk,Zd,Zd];omega
  .rw [Zo hk,Zd,Zd];omega
theorem UX.some_of(r:UX (some v) o):∃u,o=some u/\RelV v u:=by
 cases o with
 |none=>exact(show False from r).elim
 |some u=>exact⟨u,rfl,r⟩
theorem UX.none_of(r:UX none o):o=none:=by
 cases o with
 |none=>rfl
 |some u=>exact(show False from r).elim
theorem Rp(r:RelV v u):W.handedIn u=true:=by
 cases v with
 |non=>cases(show u=Value.none from r);rfl
 |bl b=>cases(show u=Value.bool b from r);rfl
 |int i=>obtain⟨t,e⟩:=(show ∃t,u=Value.int i t from r);cases e;rfl
 |str x=>obtain⟨t,e⟩:=(show ∃t,u=Value.str x t from r);cases e;rfl
 |byt b=>obtain⟨t,e⟩:=(show ∃t,u=Value.bytes b t from r);cases e;rfl
 |flt b=>obtain⟨t,e⟩:=(show ∃t,u=Value.float b t from r);cases e;rfl
 |ref a=>cases(show u=Value.ref a from r);rfl
 |ty n=>cases(show u=Value.type n from r);rfl
section
theorem G5(J:HOk P w H h)(e:H a=some (.ins C G fs)):∃Z,Dv h a G C Z/\(∀f,UX (fs.lookup f) (Z f))/\PySem.Within Z (fs.map (·.1))/\fs.length<=1000/\H G=some (.own a):=by
 obtain⟨d,z,M,L,Z,n,r,q⟩:=(show VX P w H h a (.ins C G fs)from J a _ e);exact⟨Z,⟨L,n,M⟩,r,q,z,d⟩
end
structure Cls(K:W.Frag)(C:Addr):Prop where
 pg:W.plainGet K C Str.empty=true
 hd:W.hasDictIn K C=true
 po:W.plainOver K C=true
 sa:W.findIn K (.ref C) "__setattr__"=some (some (.builtin "object.__setattr__"))
theorem Cls.get{K:W.Frag}(c:Cls K C)(f:Str):W.plainGet K C f=true:=c.pg
def JD(K:W.Frag)(C:Addr)(f:Str):Prop:=W.findIn K (.ref C) f=some none
theorem JD.taker{K:W.Frag}(n:JD K C f):W.takerIn K C f=some none:=by
 unfold W.takerIn;rw[show W.findIn K (.ref C) f=some none from n]
 rfl
structure Vn(K:W.Frag)(C:Addr)(m:Str)(f:Addr):Prop where
 at_:W.findIn K (.ref C) m=some (some (.ref f))
 fn:W.isFn K (.ref f)=true
 kp:W.keepIn K (.ref f)=true
section
theorem Di(I:Inv X Z U H s)(e:H a=some (.ins C N fs))(c:Cls X.K C)(n:JD X.K C f)(l:fs.lookup f=some v)(h:∀u J,Inv X Z U H J->RelV v u->Q u J):wpAny (model X.prog X.w) A (getAttr (.ref a) f b) Q E s:=by
 obtain⟨L,O,r,_,_,_⟩:=G5 I.hok e;obtain⟨u,M,G⟩:=UX.some_of (v:=v) (o:=L f) (by rw[<-l];exact r f);exact Pk I.kIn O (c.get f) c.hd n M (Rp G) (h u _ (I.tok _) G)
theorem RC(I:Inv X Z U H s)(e:H a=some (.ins C L fs))(c:Cls X.K C)(k:Vn X.K C m g)(l:fs.lookup m=none)(h:Q (.ref g,[.ref a]) s):wpAny (model X.prog X.w) A (getMethod (.ref a) m pl) Q E s:=by
 obtain⟨J,O,r,_,_,_⟩:=G5 I.hok e;have G:J m=none:=UX.none_of (by rw[<-l];exact r m);exact Lf I.kIn O (c.get m) k.at_ k.fn G h
theorem Bb(I:Inv X Z U H s)(e:H a=some (.ins C J fs))(c:Cls X.K C)(n:JD X.K C f)(m:fs.length<1000)(B:RelV y u)(h:∀M,Inv X Z U (upd H a (.ins C J (VY f y fs))) M->Q () M):wpAny (model X.prog X.w) A (setAttr (.ref a) f u) Q E s:=by
 obtain⟨N,O,r,L,_,R⟩:=G5 I.hok e;have D:(fs.map (·.1)).length<=sizeLine:=by rw[ZA,sizeLine_eq];omega
 refine OQ I.kIn O c.sa c.po n.taker c.hd L D λj G T=>h _ ?_;have S:∃o,j.get? J=some o:=let⟨o,_,_,t,_⟩:=G.ns;⟨o,t⟩
 refine I.write (x:=a) (e:=J) (by rw[e];exact True.intro) (.inr R) (λb q P z=>(T.2 b P).trans z) S ?_;refine⟨by rw[Yd O.ne];exact R,?_,O.ne,G.obj,_,G.ns,λg=>?_,λg F=>?_⟩
 .have:=Ga f y fs;omega
 .show UX ((VY f y fs).lookup g) (if g=f then some u else N g)
  rw[GZ]
  by_cases q:g=f
  .rw [Zn q,Zn q];exact B
  .rw [Zo q,Zo q];exact r g
 .by_cases q:g=f
  .rw [q];exact(Wz f y fs).1
  .refine (Wz f y fs).2 g (L g λz=>F ?_)
   show(if g=f then some u else N g)=none;rw[Zo q];exact z
theorem Inv.made(I:Inv X Z U H s):Inv X Z U (upd (upd H s.heap.objs.size (.own (s.heap.objs.size+1))) (s.heap.objs.size+1) (.ins C s.heap.objs.size []))
  {s with heap:=(s.heap.push W.emptyDict).push (W.instObj C s.heap.objs.size)}:=by
 have G:(s.heap.push W.emptyDict).get? s.heap.objs.size=some W.emptyDict:=ZW s.heap rfl
 have O:((s.heap.push W.emptyDict).push (W.instObj C s.heap.objs.size)).get? (s.heap.objs.size+1)=some (W.instObj C s.heap.objs.size):=by
  have:=ZW (s.heap.push W.emptyDict) (o:=W.instObj C s.heap.objs.size) rfl
  rwa [zR]at this
 have N:(s.heap.push W.emptyDict).Ns s.heap.objs.size (λ_=>none):=⟨W.emptyDict,#[],_,G,rfl,(λe M=>Zp M (by simp)),λ_=>rfl⟩;have R:=I.laid (a:=s.heap.objs.size) (o:=.own (s.heap.objs.size+1)) (h':=s.heap.push W.emptyDict) (t':=s.toks) (λb u q=>ZD _ q) (ZF _) ⟨_,G⟩;refine R.laid (a:=s.heap.objs.size+1) (o:=.ins C s.heap.objs.size []) (t':=s.toks) (λb u q=>ZD _ q) (yq (zR _ _)) ?_;have J:s.heap.objs.size≠s.heap.objs.size+1:=Zc (yG _);refine⟨by rw[Yd J,Ya],Za _,J,O,λ_=>none,(Heap.Ns1.of_empty N).at λo q=>ZD _ q,λ_=>True.intro,λy L=>Zp rfl L⟩
theorem Es(J:attributeBase e f env (eval e env)=eval e env)(h:wpAny (model prog w) A (eval e env) (λo Z=>wpAny (model prog w) A (getAttr o f true) Q E Z) E s):wpAny (model prog w) A (eval (.Attribute e f pos) env) Q E s:=
 Attribute_any_ h (by rw[arm_eval_Attribute,J])
end
def Qm(K:W.Frag)(ta:TE)(f:Str):TE:=λU H Q=>ta U H λx J=>Jj x λa=>∃C G Z v,J a=some (.ins C G Z)/\Cls K C/\JD K C f/\Z.lookup f=some v/\Q v J
def Ci(K:W.Frag)(ta tv:TE)(f:Str):TS:=λD U H=>tv U H λy L=>ta U L λx G=>∃a C J Z,x=.ref a/\G a=some (.ins C J Z)/\Cls K C/\JD K C f/\Z.length<1000/\
 D.nx U (upd G a (.ins C J (VY f y Z)))
section
theorem Y8(L:PE X e ta)(M:attributeBase e f X.env (eval e X.env)=eval e X.env):PE X (.Attribute e f pos) (Qm X.K ta f):=by
 intro Z s U H Q I h;refine Es M (thn (L Z s U H _ I h) λu F ⟨x,B,T,J,q⟩=>?_);replace q:=Jj.old q;obtain⟨a,N,C,S,A,v,O,c,n,l,q⟩:=q;subst N;obtain rfl:u=Value.ref a:=J;exact Di T O c n l λD E R G=>⟨v,B,R,G,q⟩
theorem J0(T:PE X o ta)(O:PE X value tv)(R:swapsWith value (some (.Attribute o f pos')) pos.line X.env=pure false):PS X (.Assign [.Attribute o f pos'] value pos) (Ci X.K ta tv f):=by
 intro Z s U H D I h;refine plainObj_wpAny_Assign_Attribute (thn (O Z s U H _ I h) λu J ⟨y,P,S,G,q⟩=>thn (T Z J U P _ S q) λN j ⟨x,m,A,L,a,C,t,z,B,E,c,n,l,M⟩=>?_) R;subst B;obtain rfl:N=Value.ref a:=L;exact Bb A E c n l G λQ F=>⟨U,_,F,M⟩
end
section
variable{H:Hp}
inductive WC(K:W.Frag)(H:Hp):V->Value->Prop where
 |non:WC K H .non (.type "NoneType")
 |bl (x:Bool):WC K H (.bl x) (.type "bool")
 |int (i:Int):WC K H (.int i) (.type "int")
 |str (x:Str):WC K H (.str x) (.type "str")
 |flt (x:UInt64):WC K H (.flt x) (.type "float")
 |lst {a:Addr}{xs:List V}(e:H a=some (.lst xs)):WC K H (.ref a) (.type "list")
 |frz {a:Addr}{o:Obj}{xs:List V}(e:H a=some (.frz o (.lst xs))):WC K H (.ref a) (.type "list")
 |tup {a:Addr}{xs:List V}(e:H a=some (.tup xs)):WC K H (.ref a) (.type "tuple")
 |dK {a:Addr}{kvs:List (Key×V)}(e:H a=some (.dK kvs)):WC K H (.ref a) (.type "dict")
 |dT {a:Addr}{kvs:List (List Key×V)}(e:H a=some (.dT kvs)):WC K H (.ref a) (.type "dict")
 |ins {a C dx:Addr}{fs:List (Str×V)}(e:H a=some (.ins C dx fs)) (cl:Cls K C) (ha:W.findIn K (.ref C) "__class__"=some (some (.builtin "object.__class__")))
   (hn:W.specialIn K (.builtin "object.__class__") "__get__"=some (some (.builtin "getset_descriptor.__get__"))) (htk:W.takesIn K (.builtin "object.__class__")=some true)
   (hm:W.mroIn K C (.type "object")=some true):WC K H (.ref a) (.ref C)
theorem Fe(I:Inv X B U H s)(Z:RelV x u)(ty:WC X.K H x t)(e:W.kitOne X.K t c=some b)(h:∀F,Q (.bool b) {s with toks:=F}):
  wpAny (model X.prog X.w) A (call (.builtin "isinstance") [u,c]) Q E s:=by
 cases ty with
 |non=>cases(show u=Value.none from Z);exact yr W.kitx_none I.kIn True.intro e (λz=>nomatch z) h
 |bl y=>cases(show u=Value.bool y from Z);exact yr W.kitx_bool I.kIn True.intro e (λz=>nomatch z) h
 |int i=>obtain⟨t,q⟩:=(show ∃t,u=Value.int i t from Z);cases q;exact yr W.kitx_int I.kIn True.intro e (λz=>nomatch z) h
 |str y=>obtain⟨t,q⟩:=(show ∃t,u=Value.str y t from Z);cases q;exact yr W.kitx_str I.kIn True.intro e (λz=>nomatch z) h
 |flt y=>obtain⟨t,q⟩:=(show ∃t,u=Value.float y t from Z);cases q;exact yr W.kitx_float I.kIn True.intro e (λz=>nomatch z) h
 | @lst a N G=>
  cases(show u=Value.ref a from Z);obtain⟨_,_,n,_,L⟩:=(show VX X.prog X.w H s.heap a (.lst N)from I.hok a _ G);exact yr W.kitx_list I.kIn ⟨_,L,rfl⟩ e (λz=>nomatch z) h
 | @frz a S N G=>
  cases(show u=Value.ref a from Z);obtain⟨_,_,_,n,_,L⟩:=(show VX X.prog X.w H s.heap a (.frz S (.lst N))from I.hok a _ G);exact yr W.kitx_list I.kIn ⟨_,L,rfl⟩ e (λz=>nomatch z) h
 | @tup a N G=>
  cases(show u=Value.ref a from Z);obtain⟨_,_,_,p⟩:=(show VX X.prog X.w H s.heap a (.tup N)from I.hok a _ G);obtain⟨o,L,_,R,_⟩:=p;exact yr W.kitx_tuple I.kIn ⟨o,L,R⟩ e (λz=>nomatch z) h
 | @dK a M G=>
  cases(show u=Value.ref a from Z);obtain⟨_,_,d,_,p⟩:=(show VX X.prog X.w H s.heap a (.dK M)from I.hok a _ G);obtain⟨o,g,k,L,R,_⟩:=p;exact yr W.kitx_dict I.kIn ⟨o,L,R.1⟩ e (λz=>nomatch z) h
 | @dT a M G=>
  cases(show u=Value.ref a from Z);obtain⟨_,_,N,_,o,g,k,L,R,_⟩:=(show VX X.prog X.w H s.heap a (.dT M)from I.hok a _ G);exact yr W.kitx_dict I.kIn ⟨o,L,R.1⟩ e (λz=>nomatch z) h
 | @ins a C r w G D m P T j=>
  cases(show u=Value.ref a from Z);obtain⟨v,O,_⟩:=G5 I.hok G;obtain⟨f,J,_⟩:=O.look;exact yr (W.kitx_own (D.get _) D.hd m P T j) I.kIn J e (λz=>nomatch z) h
end
structure Vk(k:Nat)(A:Around):Prop where
 hd:A.handled=none
 dp:A.depth+3*k+5<recursionLimit
 un:A.units+16*k+200<cLine
theorem Vk.mono(r:Vk k A)(h:j<=k):Vk j A:=⟨r.hd,by have:=r.dp;omega,by have:=r.un;omega⟩
theorem Vk.deeper(r:Vk (k+1) A)(Z:Env):Vk k (A.deeper Z):=
 ⟨r.hd,by have:=r.dp;show A.depth+1+3*k+5<_;omega,by have:=r.un;show A.units+3+16*k+200<_;omega⟩
theorem Vk.in1(r:Vk (k+1) A):Vk k A.in1:=
 ⟨r.hd,by have:=r.dp;show A.depth+3*k+5<_;omega,by have:=r.un;show A.units+1+16*k+200<_;omega⟩
theorem DV{A:Around}:(A.under (.builtin "type.__call__" ⟨.ref C::Z,kw⟩)).depth=A.depth+1:=by
 first|rfl|simp[Around.under,Code.weight,Code.isCreation,Code.isGuard,Code.isCaller,Code.frames,Code.isFrame,guardIds]
theorem DU{A:Around}:(A.under (.builtin "type.__call__" ⟨.ref C::Z,kw⟩)).units=A.units+1:=by
 first|rfl|simp[Around.under,Code.cUnits,Code.frames,Code.isFrame]
theorem Vk.make(r:Vk (k+1) A)(C:Addr)(Z:kj)(J:List (Str×Value)):Vk k (A.under (.builtin "type.__call__" ⟨.ref C::Z,J⟩)):=
 ⟨r.hd,by have:=r.dp;rw[DV];omega,by have:=r.un;rw[DU];omega⟩
theorem Vk.depth(r:Vk k A):A.depth<recursionLimit:=by have:=r.dp;omega
theorem Vk.units(r:Vk k A):A.units+64<cLine:=by have:=r.un;omega
theorem Vk.units0(r:Vk k A):A.units<cLine:=by have:=r.un;omega
def TJ:TA:=λ_ H Q=>Q [] H
def V6(ta:TE)(tr:TA):TA:=λU H Q=>ta U H λx G=>tr U G λZ J=>Q (x::Z) J
section
variable{t:TA}
theorem Vi:PA X [] TJ:=λ_ _ _ _ H Q I h=>Calls.spliced_nil ⟨[],H,I,.nil,h⟩
theorem VJ(D:PE X e te)(B:PA X es t)(T:starEach (e::es) X.env=(false,eval e X.env)::starEach es X.env:=by rfl):PA X (e::es) (V6 te t):=by
 intro J Z s U H Q I h;rw[T];show wpAny _ _ (spliced ((false,eval e X.env)::backTo J (starEach es X.env))) _ _ s;refine Calls.spliced_cons (thn (D Z s U H _ I h) λu L ⟨x,S,F,N,R⟩=>?_);exact thn (B J Z L U S _ F R) λC P ⟨G,A,E,M,O⟩=>⟨x::G,A,E,.cons N M,O⟩
theorem pa1(J:PE X e0 t0)(Z:starEach [e0] X.env=(false,eval e0 X.env)::starEach [] X.env:=by rfl):PA X [e0] (V6 t0 (TJ)):=VJ J (Vi) Z
theorem pa2(L:PE X e0 t0)(G:PE X e1 t1)(J:starEach [e0,e1] X.env=(false,eval e0 X.env)::starEach [e1] X.env:=by rfl)(Z:starEach [e1] X.env=(false,eval e1 X.env)::starEach [] X.env:=by rfl):PA X [e0,e1] (V6 t0 (V6 t1 (TJ))):=VJ L (VJ G (Vi) Z) J
theorem pa3(N:PE X e0 t0)(M:PE X e1 t1)(L:PE X e2 t2)(G:starEach [e0,e1,e2] X.env=(false,eval e0 X.env)::starEach [e1,e2] X.env:=by rfl)(J:starEach [e1,e2] X.env=(false,eval e1 X.env)::starEach [e2] X.env:=by rfl)(Z:starEach [e2] X.env=(false,eval e2 X.env)::starEach [] X.env:=by rfl):PA X [e0,e1,e2] (V6 t0 (V6 t1 (V6 t2 (TJ)))):=VJ N (VJ M (VJ L (Vi) Z) J) G
theorem pa4(R:PE X e0 t0)(O:PE X e1 t1)(N:PE X e2 t2)(M:PE X e3 t3)(L:starEach [e0,e1,e2,e3] X.env=(false,eval e0 X.env)::starEach [e1,e2,e3] X.env:=by rfl)(G:starEach [e1,e2,e3] X.env=(false,eval e1 X.env)::starEach [e2,e3] X.env:=by rfl)(J:starEach [e2,e3] X.env=(false,eval e2 X.env)::starEach [e3] X.env:=by rfl)(Z:starEach [e3] X.env=(false,eval e3 X.env)::starEach [] X.env:=by rfl):PA X [e0,e1,e2,e3] (V6 t0 (V6 t1 (V6 t2 (V6 t3 (TJ))))):=VJ R (VJ O (VJ N (VJ M (Vi) Z) J) G) L
theorem pa5(B:PE X e0 t0)(T:PE X e1 t1)(R:PE X e2 t2)(O:PE X e3 t3)(N:PE X e4 t4)(M:starEach [e0,e1,e2,e3,e4] X.env=(false,eval e0 X.env)::starEach [e1,e2,e3,e4] X.env:=by rfl)(L:starEach [e1,e2,e3,e4] X.env=(false,eval e1 X.env)::starEach [e2,e3,e4] X.env:=by rfl)(G:starEach [e2,e3,e4] X.env=(false,eval e2 X.env)::starEach [e3,e4] X.env:=by rfl)(J:starEach [e3,e4] X.env=(false,eval e3 X.env)::starEach [e4] X.env:=by rfl)(Z:starEach [e4] X.env=(false,eval e4 X.env)::starEach [] X.env:=by rfl):PA X [e0,e1,e2,e3,e4] (V6 t0 (V6 t1 (V6 t2 (V6 t3 (V6 t4 (TJ)))))):=VJ B (VJ T (VJ R (VJ O (VJ N (Vi) Z) J) G) L) M
theorem pa6(E:PE X e0 t0)(D:PE X e1 t1)(B:PE X e2 t2)(T:PE X e3 t3)(R:PE X e4 t4)(O:PE X e5 t5)(N:starEach [e0,e1,e2,e3,e4,e5] X.env=(false,eval e0 X.env)::starEach [e1,e2,e3,e4,e5] X.env:=by rfl)(M:starEach [e1,e2,e3,e4,e5] X.env=(false,eval e1 X.env)::starEach [e2,e3,e4,e5] X.env:=by rfl)(L:starEach [e2,e3,e4,e5] X.env=(false,eval e2 X.env)::starEach [e3,e4,e5] X.env:=by rfl)(G:starEach [e3,e4,e5] X.env=(false,eval e3 X.env)::starEach [e4,e5] X.env:=by rfl)(J:starEach [e4,e5] X.env=(false,eval e4 X.env)::starEach [e5] X.env:=by rfl)(Z:starEach [e5] X.env=(false,eval e5 X.env)::starEach [] X.env:=by rfl):PA X [e0,e1,e2,e3,e4,e5] (V6 t0 (V6 t1 (V6 t2 (V6 t3 (V6 t4 (V6 t5 (TJ))))))):=VJ E (VJ D (VJ B (VJ T (VJ R (VJ O (Vi) Z) J) G) L) M) N
def CT(t:TA):TE:=λU H Q=>t U H λZ J=>Z.length<=sizeLine/\∀p,J p=none->Q (.ref p) (upd J p (.tup Z))
def Ca(t:TA):TE:=λU H Q=>t U H λZ J=>Z.length<=sizeLine/\∀p,J p=none->Q (.ref p) (upd J p (.lst Z))
theorem Yx(h:PA X es t):PE X (.Tuple es x1 pos) (CT t):=by
 intro Z s U H Q I O;refine wpAny_Tuple_spliced (thn (h pos Z s U H _ I O) λN J ⟨M,L,G,r,z,q⟩=>⟨by rw[<-r.length];exact z,?_⟩);have R:L J.heap.objs.size=none:=G.hok.fresh (ZF _);refine⟨.ref J.heap.objs.size,upd L J.heap.objs.size (.tup M),G.laid (t':=J.toks) (λb u e=>ZD _ e) (ZF _) ?_,rfl,q _ R⟩;exact⟨z,N,r,⟨_,ZW _ rfl,rfl,rfl,_,rfl⟩⟩
theorem Vs(h:PA X es t):PE X (.List es pos) (Ca t):=by
 intro Z s U H Q I O;refine wpAny_List_spliced (thn (h pos Z s U H _ I O) λN J ⟨M,L,G,r,z,q⟩=>⟨by rw[<-r.length];exact z,?_⟩);have R:L J.heap.objs.size=none:=G.hok.fresh (ZF _);refine⟨.ref J.heap.objs.size,upd L J.heap.objs.size (.lst M),G.laid (t':=J.toks) (λb u e=>ZD _ e) (ZF _) ?_,rfl,q _ R⟩;exact⟨z,N,0,r,ZW _ rfl⟩
end
abbrev Sp:=List V->Hp->VK->XK->Prop
abbrev CXT:=List Env->Hp->Shared->XK->Value->Shared->Prop
structure Dw(P:Program)(w:World)(K:W.Frag)(mg:Str->Option Value)(base:Heap)(A:Around)(outer:List Env)(s:Shared)(H:Hp):Prop where
 frames:A.frames=some outer
 mod:Mod K mg base
 bs:∀b o,base.get? b=some o->s.heap.get? b=some o/\H b=none
 bsz:base.objs.size<=s.heap.objs.size
 funs:s.heap.FunFrames base outer
 frf:∀b∈frs outer,H b=none
 hok:HOk P w H s.heap
 bare:AllBare s.gens
def CE(outer:List Env)(P:Program)(w:World)(H:Hp)(s:Shared)(Q:VK)(u:Value)(s':Shared):Prop:=
 ∃v Z,s'.os=s.os/\AllBare s'.gens/\Un (frs outer) [] H Z s.heap s'.heap/\HOk P w Z s'.heap/\RelV v u/\Q v Z
def CR(CX:CXT)(outer:List Env)(P:Program)(w:World)(H:Hp)(s:Shared)(Q:VK)(E:XK)(r:Result)(s':Shared):Prop:=
 match r with
 |.ok (.ret u)=>CE outer P w H s Q u s'
 |.ok _=>False
 |.error e=>CX outer H s E e s'
structure Yk(P:Program)(w:World)(K:W.Frag)(mg:Str->Option Value)(base:Heap)(CX:CXT)(k:Nat)(f:Addr)(fd:FuncData)(ps:List Str)(sp:Sp):Prop where
 len:∀vs H Q E,sp vs H Q E->vs.length=ps.length
 run:∀(A:Around)(outer:List Env)(s:Shared)(H:Hp)(args:Args)(us:List Value)(vs:List V)(Q:VK)(E:XK),Vk k A->Dw P w K mg base A outer s H->BindsTo s fd args (ps.zip us)->Vals vs us->sp vs H Q E->
  codeAny (model P w) A (.call (.ref f) args) (CR CX outer P w H s Q E) s
theorem Yk.mono{K:W.Frag}(F:Yk P w K N base CX j f R M L)(h:j<=k):
  Yk P w K N base CX k f R M L:=⟨F.len,λA Z s H args G J Q E O=>F.run A Z s H args G J Q E (O.mono h)⟩
theorem Dw.make{K:W.Frag}(e:Dw P w K J base A outer s H)(C:Addr)(Z:kj)(G:List (Str×Value)):
  Dw P w K J base (A.under (.builtin "type.__call__" ⟨.ref C::Z,G⟩)) outer s H:=⟨by first|exact e.frames|(simpa[Around.under,Code.envs,Code.isFrame,pushEnvs]using e.frames),e.mod,e.bs,e.bsz,e.funs,e.frf,e.hok,e.bare⟩
section
theorem Inv.env0(I:Inv X Z U H s):Dw X.prog X.w X.K X.mg X.base X.A X.stack s H:=
 ⟨I.ok.frames,I.ok.mod,I.bs,ZZ I.ok.bsz I.sz,I.stack,I.stkFree,I.hok,I.bare⟩
theorem Inv.after(I:Inv X Z U H s)(h:CE X.stack X.prog X.w H s Q u L):EP X Z U Q u L:=by
 obtain⟨v,R,N,bare,M,G,r,q⟩:=h;obtain⟨O,g,d,t,J⟩:=L;obtain rfl:J=s.os:=N;exact⟨v,R,I.call (h':=O) (g':=g) (d':=d) (t':=t) (ch:=[]) M G bare (λb z=>Zp z (by simp)),r,q⟩
end
def Ic(sp:Sp)(dvs:kF)(E:XK)(t:TA):TE:=λU H Q=>t U H λZ J=>sp (Z++ dvs) J Q E
def IX(C:Addr)(m:Str)(sp:Sp)(dvs:kF)(E:XK)(ta:TE)(t:TA):TE:=λU H Q=>ta U H λx J=>Jj x λa=>∃L Z,J a=some (.ins C L Z)/\Z.lookup m=none/\
 t U J λG M=>sp (x::(G++ dvs)) M Q E
def AN(C:Addr)(sp:Sp)(dvs:kF)(E:XK)(t:TA):TE:=λU H Q=>t U H λG J=>∀x Z,J x=none->J Z=none->Z≠x->
 sp (.ref x::(G++ dvs)) (upd (upd J Z (.own x)) x (.ins C Z [])) (λv L=>v=.non/\Q (.ref x) L) E
def Binds(K:W.Frag)(fd:FuncData)(ps:kq)(ds:kj):Prop:=
 ∀(s:Shared)(Z:kj),K.In s.heap->(Z++ ds).length=ps.length->BindsTo s fd ⟨Z,[]⟩ (ps.zip (Z++ ds))
theorem Binds.all{K:W.Frag}(h:∀Z:kj,Z.length=J.length->bindArgs L ⟨Z,[]⟩=pure (J.zip Z)):Binds K L J []:=λs Z _ G=>by
 rw[zV]at G |-;exact .of_eq (h Z G)
def UV(CX:CXT)(X:Cx)(E:XK):Prop:=∀(Z:kb)(U:St)(H:Hp)(s:Shared)(e:Value)(J:Shared),Inv X Z U H s->CX X.stack H s E e J->X.xe e J
section
variable{f C:Addr}
theorem Ml(F:Yk X.prog X.w X.K X.mg X.base CX k f P M N)(T:Vk k X.A)(A:Binds X.K P M G)(D:Vals dvs G)(R:UV CX X E)(I:Inv X Z U H s)(r:Vals vs us)(h:N (vs++ dvs) H Q E):wpAny (model X.prog X.w) X.A (call (.ref f) us) (EP X Z U Q) X.xe s:=by
 have L:Vals (vs++ dvs) (us++ G):=r.append D;have B:(us++ G).length=M.length:=by rw[<-L.length];exact F.len _ _ _ _ h
 refine wpAny_call (yX (F.run X.A X.stack s H ⟨us,[]⟩ (us++ G) (vs++ dvs) Q E T I.env0 (A s us I.kIn B) L h) λr O J=>?_)
 cases r with
 |error e=>exact R Z U H s e O I J
 |ok S=>
  cases S with
  |ret u=>exact I.after J
  |next=>exact False.elim J
  |brk=>exact False.elim J
  |cont=>exact False.elim J
theorem WP(F:Yk X.prog X.w X.K X.mg X.base CX k f y N M)(R:Vk k X.A)(D:Gl X x)(T:X.mg x=some (.ref f))(B:W.keepIn X.K (.ref f)=true)(P:Binds X.K y N z)(S:Vals dvs z)(O:UV CX X E)(j:PA X (e::es) t)(G:(x==("__debug__":Str))=false:=by decide)(A:starEach (e::es) X.env=(false,eval e X.env)::starEach es X.env:=by rfl)(J:(backTo pos (starEach es X.env)).any (·.1)=false:=by rfl):
  PE X (.Call (.Name x p) (e::es) [] pos) (Ic M dvs E t):=by
 intro Z s U H Q I h;refine yg (XC I D T ?_ G);refine vv (h₀:=X.base) I.ok.mod.kin B (thn (j pos Z s U H _ I h) λg c ⟨m,d,L,r,q⟩=>⟨L.kIn,?_⟩) A J;exact Ml F R P S O L r q
theorem Vg(j:PE X o ta)(c:Cls X.K C)(L:Vn X.K C m f)(F:Yk X.prog X.w X.K X.mg X.base CX k f p D O)(P:Vk k X.A)(z:Binds X.K p D w)(y:Vals dvs w)(A:UV CX X E)(g:PA X (e::es) t)(J:starEach (e::es) X.env=(false,eval e X.env)::starEach es X.env:=by rfl)(G:(backTo pos (starEach es X.env)).any (·.1)=false:=by rfl)(S:eval (.Call (.Attribute o m apos) (e::es) [] pos) X.env=(do
   let ov <-eval o X.env
   standAt apos.atName
   let(f,first) <-holding [ov] (getMethod ov m pl)
   callWith pos f first (backTo pos (starEach (e::es) X.env)) (backToKw pos (keywordEach [] X.env))):=by rfl):
  PE X (.Call (.Attribute o m apos) (e::es) [] pos) (IX C m O dvs E ta t):=by
 intro Z s U H Q I h;refine W.methodCall_KW (pl:=pl) (thn (j Z s U H _ I h) λu R ⟨x,b,N,T,q⟩=>?_) S;replace q:=Jj.old q;obtain⟨a,d,dx,n,v,l,q⟩:=q;subst d;obtain rfl:u=Value.ref a:=T;refine RC N v c L l ?_;refine vv (first:=[.ref a]) (h₀:=X.base) I.ok.mod.kin L.kp (thn (g pos Z R U b _ N q) λus i ⟨vs,H2,M,r,B⟩=>⟨M.kIn,?_⟩) J G;exact Ml (us:=.ref a::us) (vs:=.ref a::vs) F P z y A M (.cons rfl r) B
theorem VU(B:PE X o ta)(c:Cls X.K C)(G:Vn X.K C m f)(F:Yk X.prog X.w X.K X.mg X.base CX k f S N L)(T:Vk k X.A)(A:Binds X.K S N y)(D:Vals dvs y)(O:UV CX X E)(R:eval (.Call (.Attribute o m apos) [] [] pos) X.env=(do
   let ov <-eval o X.env
   standAt apos.atName
   let(f,first) <-holding [ov] (getMethod ov m pl)
   callWith pos f first (backTo pos (starEach [] X.env)) (backToKw pos (keywordEach [] X.env))):=by rfl):
  PE X (.Call (.Attribute o m apos) [] [] pos) (IX C m L dvs E ta TJ):=by
 intro Z s U H Q I h;refine W.methodCall_KW (pl:=pl) (thn (B Z s U H _ I h) λu z ⟨x,p,J,M,q⟩=>?_) R;replace q:=Jj.old q;obtain⟨a,P,g,t,j,l,q⟩:=q;subst P;obtain rfl:u=Value.ref a:=M;refine RC J j c G l ?_;exact W.callWith_K0 (first:=[.ref a]) J.kIn G.kp (Ml (us:=[.ref a]) (vs:=[.ref a]) F T A D O J (.cons rfl .nil) q)
structure Mk(K:W.Frag)(C f:Addr):Prop where
 makes:W.makesIn K C=true
 init:W.findIn K (.ref C) "__init__"=some (some (.ref f))
 fn:W.isFn K (.ref f)=true
 kp:W.keepIn K (.ref C)=true
theorem KY(M:Mk X.K C f)(F:Yk X.prog X.w X.K X.mg X.base CX k f p B A)(z:Vk (k+1) X.A)(m:Binds X.K p B N)(t:Vals dvs N)(y:UV CX X E)(I:Inv X G U H s)(r:Vals R J)(h:∀x L,H x=none->H L=none->L≠x->A (.ref x::(R++ dvs)) (upd (upd H L (.own x)) x (.ins C L [])) (λv w=>v=.non/\Q (.ref x) w) E):
  wpAny (model X.prog X.w) X.A (call (.ref C) J) (EP X G U Q) X.xe s:=by
 have D:=h (s.heap.objs.size+1) s.heap.objs.size (I.hok.fresh (yY _)) (I.hok.fresh (ZF _)) (Zc (yG _));have O:=Inv.made (C:=C) I;have T:Vals (V.ref (s.heap.objs.size+1)::(R++ dvs)) (Value.ref (s.heap.objs.size+1)::(J++ N)):=.cons rfl (r.append t)
 have q:(Value.ref (s.heap.objs.size+1)::J++ N).length=B.length:=by
  have e:=T.length;rw[F.len _ _ _ _ D]at e;exact e.symm
 refine wpAny_call (Nl (f:=f) I.kIn M.makes M.init (beq_iff_eq.mp M.fn) (yX (F.run _ X.stack _ _ ⟨Value.ref (s.heap.objs.size+1)::J,[]⟩ (Value.ref (s.heap.objs.size+1)::(J++ N)) _ _ E (z.make C J [])
  (O.env0.make C J []) (m _ (Value.ref (s.heap.objs.size+1)::J) O.kIn q) T D) λr S Z=>?_))
 cases r with
 |error e=>exact y G U _ _ e S O Z
 |ok g=>
  cases g with
  |ret u=>
   obtain⟨v,l,d,P,c,j⟩:=O.after Z;subst c;exact⟨P,⟨V.ref (s.heap.objs.size+1),l,d,rfl,j⟩⟩
  |next=>exact False.elim Z
  |brk=>exact False.elim Z
  |cont=>exact False.elim Z
theorem Gz(M:Mk X.K C f)(F:Yk X.prog X.w X.K X.mg X.base CX k f y O N)(T:Vk (k+1) X.A)(D:Gl X x)(B:X.mg x=some (.ref C))(P:Binds X.K y O z)(S:Vals dvs z)(R:UV CX X E)(j:PA X (e::es) t)(G:(x==("__debug__":Str))=false:=by decide)(A:starEach (e::es) X.env=(false,eval e X.env)::starEach es X.env:=by rfl)(J:(backTo pos (starEach es X.env)).any (·.1)=false:=by rfl):
  PE X (.Call (.Name x p) (e::es) [] pos) (AN C N dvs E t):=by
 intro Z s U H Q I h;refine yg (XC I D B ?_ G);refine vv (h₀:=X.base) I.ok.mod.kin M.kp (thn (j pos Z s U H _ I h) λg c ⟨m,d,L,r,q⟩=>⟨L.kIn,?_⟩) A J;exact KY M F T P S R L r q
end
structure Yo(N P:List Str)(sc:Scope):Prop where
 kind:sc.kind=.function
 co:sc.isCoroutine=false
 gen:sc.isGenerator=false
 nd:N.Nodup
 pre:N.take P.length=P
 par:∀x∈P,sc.names.lookup x=some .local\/sc.names.lookup x=some .cell
 nofree:∀y∈sc.names,y.2≠.free
theorem Rv{kindOf:Str->Option NameKind}:∀{binds:List (Str×Value)}{m:Str->Option Value},(∀v,(x,v)∉binds)->bindL kindOf binds m x=m x
 |[],_,_=>rfl
 |(n,v)::r,m,h=>by
  unfold bindL;rw[Rv λw Z=>h w (ZK _ Z)]
  split
  .have:x≠n:=by rintro rfl;exact h v ZY
   simp[this]
  .rfl
theorem Ry{kindOf:Str->Option NameKind}:∀{binds:List (Str×Value)}{m:Str->Option Value},(∀v,(x,v)∉binds)->bindC kindOf binds m x=m x
 |[],_,_=>rfl
 |(n,v)::r,m,h=>by
  unfold bindC;rw[Ry λw Z=>h w (ZK _ Z)]
  split
  .rfl
  .have:x≠n:=by rintro rfl;exact h v ZY
   simp[this]
theorem Rx{kindOf:Str->Option NameKind}:∀{P:kq}{Z:kj}{i:Nat}{m:Str->Option Value},P.Nodup->P[i]?=some x->Z[i]?=some v->kindOf x=some .local->
  bindL kindOf (P.zip Z) m x=some v
 |[],_,_,_,_,h,_,_=>by simp at h
 |_::_,[],_,_,_,_,h,_=>by simp at h
 |p::P,w::Z,0,m,nd,h1,h2,hk=>by
  simp at h1 h2;subst h1;subst h2;show bindL kindOf ((p,w)::P.zip Z) m p=_;unfold bindL;rw[Rv λv J=>(zO.mp nd).1 (yt J).1,Zn hk];simp
 |p::P,w::Z,i+1,m,nd,h1,h2,hk=>by
  show bindL kindOf ((p,w)::P.zip Z) m x=_;unfold bindL;exact Rx (i:=i) (zO.mp nd).2 (by simpa using h1) (by simpa using h2) hk
theorem Rz{kindOf:Str->Option NameKind}:∀{P:kq}{Z:kj}{i:Nat}{m:Str->Option Value},P.Nodup->P[i]?=some x->Z[i]?=some v->kindOf x≠some .local->
  bindC kindOf (P.zip Z) m x=some v
 |[],_,_,_,_,h,_,_=>by simp at h
 |_::_,[],_,_,_,_,h,_=>by simp at h
 |p::P,w::Z,0,m,nd,h1,h2,hk=>by
  simp at h1 h2;subst h1;subst h2;show bindC kindOf ((p,w)::P.zip Z) m p=_;unfold bindC;rw[Ry λv J=>(zO.mp nd).1 (yt J).1,Zo hk];simp
 |p::P,w::Z,i+1,m,nd,h1,h2,hk=>by
  show bindC kindOf ((p,w)::P.zip Z) m x=_;unfold bindC;exact Rz (i:=i) (zO.mp nd).2 (by simpa using h1) (by simpa using h2) hk
def start(N:kq)(vs:kF):St:=vs.map some++ List.replicate (N.length-vs.length) none
def Vl(CX:CXT)(P:Program)(w:World)(K:W.Frag)(mg:Str->Option Value)(base:Heap)(N:kq)(qual:Str)(scope:Scope)(f:Addr)(cd:Value)(A:Around)(outer:List Env)(s:Shared)(H:Hp)(E:XK):Cx where
 prog:=P
 w:=w
 K:=K
 mg:=mg
 base:=base
 A:=A.deeper (envOfC qual scope s.heap.objs.size f cd)
 N:=N
 s₀:=s
 H₀:=H
 env:=envOfC qual scope s.heap.objs.size f cd
 outer:=outer
 stack:=envOfC qual scope s.heap.objs.size f cd::outer
 ex:=[]
 calm:=true
 fn:=λ_=>true
 pn:=[]
 xe:=λe J=>wpAny (model P w) (A.deeper (envOfC qual scope s.heap.objs.size f cd)) (leaving (envOfC qual scope s.heap.objs.size f cd) e) (λ_ Z=>CX outer H s E e Z) (λG Z=>CX outer H s E G Z) J
theorem BC{Z:Scope}(h:Z.names.lookup x=some .cell):∃c,(cellsFrom n Z.names []).lookup x=some c:=by
 have q:=W.cellsFrom_some Z.names n [] (.inl h);exact vw.mp q
theorem Ff{C:CXT}{P:Program}{w:World}{K:W.Frag}(S:Yo N O scope)(j:A.handled=none)(J:Dw P w K F base A outer s H)(g:M.length=O.length)(r:Vals M D)(x:InCallC s s.heap.objs.size (bindL (envOfC qual scope s.heap.objs.size f cd).kindOf (O.zip D) λ_=>none) (cellsFrom (s.heap.objs.size+1) scope.names []) (bindC (envOfC qual scope s.heap.objs.size f cd).kindOf (O.zip D) λ_=>none) s1):
  Inv (Vl C P w K F base N qual scope f cd A outer s H E) [] (start N M) H s1:=by
 have Q:O.length<=N.length:=by have:=congrArg List.length S.pre;rw[ZL]at this;omega
 obtain⟨B,m,rfl,U⟩:=x.done;have G:∀b:Addr,b∉(Vl C P w K F base N qual scope f cd A outer s H E).ex:=λb z=>Zp (show b∈([]:kA)from z) (by simp);refine⟨⟨J.mod,S.kind,rfl,rfl,ZF _,λy z c B Z=>?_,λy L=>?_,λy c _ h=>?_,λ_=>j,Around.frames_deeper J.frames,.inr ⟨rfl,rfl⟩,λb z=>Zp z (G b),J.bs,J.bsz,λb _ _=>G b,λb z=>Zp z (G b),J.funs,J.frf⟩,
  rfl,J.bare,Un.kept U,⟨_,x.toInCall.ns,λi y v B Z d=>?_⟩,λy c h=>⟨_,x.cell y c h⟩,J.hok.fresh (ZF _),λy c h=>?_,λp T=>Zp (show p∈([]:kb)from T) (by simp),J.hok.kept U,?_⟩
 .exact name_of_addr x.apart (yn B) (yn Z)
 .have L:scope.names.lookup y=some .cell\/scope.names.lookup y=some .free:=L
  rcases L with L|L
  .exact BC L
  .exact Zp rfl (S.nofree _ (yn L))
 .exact Zf (x.above y c (yn h))
 .have hi:i<M.length:=by
   unfold start at Z
   by_cases hi:i<M.length
   .exact hi
   .rw [zt (by simpa using hi)]at Z
    rw[yo]at Z
    split at Z <;> cases Z
  have t:M[i]?=some v:=by
   unfold start at Z;rw[zn (by simpa using hi),ZG]at Z
   cases e:M[i]? with
   |none=>rw[e]at Z;cases Z
   |some a=>rw[e]at Z;cases Z;rfl
  obtain⟨u,I,X⟩:=r.get t
  have T:O[i]?=some y:=by
   rw[<-S.pre,List.getElem?_take_of_lt (by omega)];exact B
  have R:O.Nodup:=by rw[<-S.pre];exact S.nd.sublist (zU _ _)
  refine⟨u,X,?_⟩;rcases S.par y (ZH T)with k|k
  .exact .inl ⟨k,Rx R T I k⟩
  .obtain ⟨c,e⟩:=BC (n:=s.heap.objs.size+1) k
   refine .inr ⟨.inl k,c,e,?_⟩;have q:=x.cell y c e;rw[Rz R T I (by show scope.names.lookup y≠_;rw[k];decide)]at q;exact q
 .exact J.hok.fresh (Zf (x.above y c (yn h)))
 .unfold start
  show _=N.length;rw[ZJ,ZA,List.length_replicate];omega
theorem QW{j:CXT}{P:Program}{K:W.Frag}{dV kV C a G ct oc:Value}(lk:K.lookup f=some ⟨oc,od,.func (W.fnOf name qual params body scope dV kV C a an G ct),osl⟩)(l:W.codeIn K G qual=true)(S:Yo N g scope)(B:∀L H Q E,i L H Q E->L.length=g.length)(R:∀(A:Around)(Z:List Env)(s:Shared)(H:Hp)(L:kF)(Q:VK)(E:XK),Vk k (A.deeper (envOfC qual scope s.heap.objs.size f G))->i L H Q E->
   ∃t,PSs (Vl j P w K p base N qual scope f G A Z s H E) body t/\t {nx:=λ_ M=>Q .non M,rt:=Q} (start N L) H):
  Yk P w K p base j (k+1) f (W.fnOf name qual params body scope dV kV C a an G ct) g i:=by
 refine⟨B,λA Z s H args us L Q E d U hb r D=>?_⟩;have hl:=B _ _ _ _ D;have KX:K.In s.heap:=U.mod.kin.keeps λb o e=>(U.bs b o e).1;have c:s.heap.NoLimit:=U.mod.nolimit.keeps λb o e=>(U.bs b o e).1
 have O:∀y∈g.zip us,scope.names.lookup y.1=some .local\/(scope.names.lookup y.1=some .cell/\((cellsFrom (s.heap.objs.size+1) scope.names []).lookup y.1).isSome=true):=λ⟨n,v⟩ hy=>by
  rcases S.par n (yt hy).1 with q|q
  .exact .inl q
  .exact .inr ⟨q,W.cellsFrom_some _ _ _ (.inl q)⟩
 refine codeAny_call_function d.depth (KX _ _ lk) rfl S.co S.gen rfl (W.codeRec_of KX l) (hb _ _ _ _ ?_);refine wpAny_newFunctionEnv_cells S.kind O λZ8 he h x=>?_;subst he;refine⟨c.keeps x.toInCall.keep,codeAny_func ?_⟩;obtain⟨t,ht,hq⟩:=R A Z s H L Q E (d.deeper _) D;have I:Inv (Vl j P w K p base N qual scope f G A Z s H E) [] (start N L) H h:=Ff S d.hd U hl r x;refine Zl (ht [] h (start N L) H _ I hq) (λfl z T=>?_) λe z T=>T
 have F:∀{X:St}{M:Hp}{v:V}{u:Value},Inv (Vl j P w K p base N qual scope f G A Z s H E) [] X M z->RelV v u->Q v M->CE Z P w H s Q u z:=
  λ{X M v u} J m q=>⟨v,M,J.os,J.bare,J.base,J.hok,m,q⟩
 cases fl with
 |ret u=>
  obtain⟨v,X,M,J,m,q⟩:=T;exact F J m q
 |next=>
  obtain⟨X,M,J,q⟩:=T;exact F (v:=V.non) (u:=Value.none) J rfl q
 |brk=>
  obtain⟨_,_,_,q⟩:=T;exact False.elim q
 |cont=>
  obtain⟨_,_,_,q⟩:=T;exact False.elim q
end L2
namespace L2
open PySem PySem.Spec PyProof.Rows
section
variable{t:TA}{id T:String}{r:List V->Hp->VK->Prop}
def tCB(r:List V->Hp->VK->Prop)(t:TA):TE:=λU H Q=>t U H λZ J=>r Z J Q
theorem Yr(A:UG X (.builtin id) r)(F:Gl X x)(E:X.mg x=none)(B:bootBuiltins x=some (.builtin id))(S:PA X (e::es) t)(D:x≠"__name__":=by decide)(G:(x==("__debug__":Str))=false:=by decide)(he:starEach (e::es) X.env=(false,eval e X.env)::starEach es X.env:=by rfl)(J:(backTo pos (starEach es X.env)).any (·.1)=false:=by rfl):PE X (.Call (.Name x p) (e::es) [] pos) (tCB r t):=by
 intro Z s U H Q I h;refine yg (Wv I F E B ?_ D G);exact PyProof.Rows.callWith_builtin1 (thn (S pos Z s U H _ I h) λM N ⟨L,P,C,O,R⟩=>A Z N U P L M Q C O R) he J
theorem VA(S:UG X (.type T) r)(F:Gl X x)(E:X.mg x=none)(B:bootBuiltins x=some (.type T))(C:PA X (e::es) t)(D:x≠"__name__":=by decide)(G:(x==("__debug__":Str))=false:=by decide)(A:starEach (e::es) X.env=(false,eval e X.env)::starEach es X.env:=by rfl)(J:(backTo pos (starEach es X.env)).any (·.1)=false:=by rfl):PE X (.Call (.Name x p) (e::es) [] pos) (tCB r t):=by
 intro Z s U H Q I h;refine yg (Wv I F E B ?_ D G);exact yu (thn (C pos Z s U H _ I h) λM N ⟨L,j,P,O,R⟩=>S Z N U j L M Q P O R) A J
end
end L2
namespace HT
open PySem PyProof.Rows
section
open PySem.SeqAt
open PySem.AutoSeq1 (wpAny_loadPart')
open PySem.MeetsSeq PySem.MeetsSeq2 PySem.MeetsSeq3
end
section
theorem cat_tup(X:IsTup s.heap t G.toArray)(P:IsTup s.heap b Z.toArray)(F:G≠[])(y:Z=[]->Q (.ref t) s)(j:Z≠[]->Q (.ref s.heap.objs.size) {s with heap:=s.heap.push {cls:=.type "tuple",data:=.seq (G++ Z).toArray}})(T:G.length+Z.length<=sizeLine):wpAny (model prog w) A (binaryOp .Add (.ref t) (.ref b)) Q E s:=by
 obtain⟨⟨B,U,data,sl⟩,R,S,n,I⟩:=id X;obtain⟨⟨C,O,data2,L⟩,J,N,D,M⟩:=id P;simp only at S I N M;subst S I N M;have e:G.toArray++ Z.toArray=(G++ Z).toArray:=by simp
 by_cases hw:Z=[]
 .exact concat_meets ⟨_,R,rfl⟩ ⟨_,J,rfl⟩ noFill_tuple_add seq_tuple_add vH vA (vy _ _)
   (tuple_addW1 t b G.toArray Z.toArray n D U O sl L (by simpa using F) (by simp[hw])) ⟨R,J,y hw⟩
 .refine concat_meets ⟨_,R,rfl⟩ ⟨_,J,rfl⟩ noFill_tuple_add seq_tuple_add vH vA (vy _ _)
   (tuple_addW2 t b G.toArray Z.toArray n D U O sl L (by simpa using F) (by simpa using hw) (by rw[ZM,ZM];exact T)) ⟨R,J,?_⟩
  rw[e];exact j hw
def sIx(n d:Nat):Option Int->Nat
 |none=>d
 |some v=>if v<0 then(v+(n:Int)).toNat else min v.toNat n
theorem sIx_none(n d:Nat):sIx n d none=d:=rfl
theorem sIx_nat(n d k:Nat):sIx n d (some (k:Int))=min k n:=by
 show(if(k:Int)<0 then((k:Int)+(n:Int)).toNat else min (k:Int).toNat n)=min k n;rw[Zo (by omega),yN]
theorem SA(n d:Nat)(Z:d<=n)(o:Option Int):sIx n d o<=n:=by
 cases o with
 |none=>exact Z
 |some v=>
  show(if v<0 then(v+(n:Int)).toNat else min v.toNat n)<=n
  by_cases hv:v<0
  .rw [Zn hv];omega
  .rw [Zo hv];exact Nat.min_le_right _ _
theorem Eo(v:Int)(n d:Nat):(if v<0 then max (v+(n:Int)) 0 else min v (n:Int))=((sIx n d (some v):Nat):Int):=by
 show(if v<0 then max (v+(n:Int)) 0 else min v (n:Int))=(((if v<0 then(v+(n:Int)).toNat else min v.toNat n):Nat):Int)
 by_cases hv:v<0
 .simp only[Zn hv];omega
 .simp only[Zo hv];omega
theorem Du(Z J:Option Int)(n:Nat):Builtin.Slice.sliceAdjust Z J 1 (n:Int)=(((sIx n 0 Z:Nat):Int),((sIx n n J:Nat):Int)):=by
 have G:¬((1:Int)<0):=by omega
 unfold Builtin.Slice.sliceAdjust;simp only[G,if_false];refine Prod.ext ?_ ?_
 .cases Z with
  |none=>rfl
  |some v=>exact Eo v n 0
 .cases J with
  |none=>rfl
  |some v=>exact Eo v n n
theorem B5(i j:Nat):Builtin.Slice.slicePlaces (i:Int) (j:Int) 1=j-i:=by
 unfold Builtin.Slice.slicePlaces;have Z:(1:Int) > 0:=by omega
 simp only[Z,if_true,Int.ediv_one]
 split <;> omega
theorem TY(p:IsPart v o)(h:Q o s):wpAny (model prog w) A (Builtin.Slice.slicePartIndex v) Q E s:=by
 cases p with
 |none=>exact slicePart_none h
 |int i t=>exact slicePart_int h
theorem sliceApplied_gen{Z G:Option Int}{n:Nat}(O:s.heap.IsSliceOf sl vl vu .none)(N:IsPart vl Z)(M:IsPart vu G)(h:Q (((sIx n 0 Z:Nat):Int),1,sIx n n G-sIx n 0 Z) s):wpAny (model prog w) A (Builtin.Slice.sliceApplied (.ref sl) (pure (n:Int))) Q E s:=by
 obtain⟨T,J,R,L⟩:=id O;unfold Builtin.Slice.sliceApplied Builtin.Slice.sliceFields;refine Zj (Zj (Zm J L (x:=vl) rfl (Zj (Zm J L (x:=vu) rfl (Zj (Zm J L (x:=.none) rfl (Zk ?_)))))));refine Zj (slicePart_none ?_);show wpAny _ _ (if((1:Int)==0)=true then _ else _) _ _ s;rw[Zo (by decide)];refine Zj (TY N (Zj (TY M (Zj (Zk ?_)))));show wpAny _ _ (match Builtin.Slice.sliceAdjust Z G 1 (n:Int)with|(Z,G)=>pure (Z,(1:Int),Builtin.Slice.slicePlaces Z G 1)) _ _ s;rw[Du Z G n];show wpAny _ _ (pure (((sIx n 0 Z:Nat):Int),(1:Int),Builtin.Slice.slicePlaces ((sIx n 0 Z:Nat):Int) ((sIx n n G:Nat):Int) 1)) _ _ s;rw[B5];exact Zk h
theorem Kk(Z:Array Value)(i k:Nat):((List.range k).filterMap λ(m:Nat)=>Z[((i:Int)+(m:Int)*1).toNat]?).toArray=((Z.toList.drop i).take k).toArray:=by
 have e:(λ(m:Nat)=>Z[((i:Int)+(m:Int)*1).toNat]?)=λm=>Z[i+m]?:=by
  funext m
  have:((i:Int)+(m:Int)*1).toNat=i+m:=by omega
  rw[this]
 rw[e];have:=pick_run Z i k;rw[List.filterMap_map]at this;have J:((λx=>Z[x]?) ∘ λx=>i+x)=λm=>Z[i+m]?:=rfl;rw[J]at this;rw[this]
theorem getItem_tuple_cut{J G:Option Int}(L:IsTup s.heap t items)(T:s.heap.IsSliceOf sl vl vu .none)(D:IsPart vl J)(B:IsPart vu G)(I:¬(sIx items.size 0 J=0/\sIx items.size items.size G=items.size))(h:Q (.ref s.heap.objs.size) {s with heap:=s.heap.push {cls:=.type "tuple",data:=.seq ((items.toList.drop (sIx items.size 0 J)).take (sIx items.size items.size G-sIx items.size 0 J)).toArray}})(S:items.size<=sizeLine):wpAny (model prog w) A (getItem (.ref t) (.ref sl)) Q E s:=by
 have Z:sizeOk (.seq ((items.toList.drop (sIx items.size 0 J)).take (sIx items.size items.size G-sIx items.size 0 J)).toArray):=by
  show((items.toList.drop (sIx items.size 0 J)).take (sIx items.size items.size G-sIx items.size 0 J)).toArray.size<=sizeLine;rw[ZM,ZL,zp,vT];omega
 have P:sIx items.size items.size G<=items.size:=SA _ _ (ZF _) G;obtain⟨F,M,O,U⟩:=id T;have R:s.TypeIs (.ref sl) "slice":=⟨F,M,O⟩;unfold getItem
 try with_reducible refine wpAny_holding ?_
 first|refine Zj (Zk ?_)|skip
 refine Zj (wpAny_sequenceKey L.typeIs (by decide) ?_);refine Zj (wpAny_callSpecial?_slot (name:=Str.ofString "__getitem__") L.typeIs yk
  (yb yk L.typeIs entry_tuple_getitem ?_ (args_tuple_getitem _ _)))
 show wpAny _ _ (Builtin.Tuple.tupleItemsOf (.ref t) >>=_) _ _ s;refine Zj (tupleItemsOf_ L ?_);refine Zj (yZ R ?_);rw[Zn (by decide)];refine Zj (sliceApplied_gen T D B ?_)
 have N:¬((((sIx items.size 0 J:Nat):Int)==0 && (1:Int)==1 && (sIx items.size items.size G-sIx items.size 0 J)==items.size)=true):=by
  intro q;rw[ZX,ZX]at q;have X:((sIx items.size 0 J:Nat):Int)=0:=eq_of_beq q.1.1;have C:sIx items.size items.size G-sIx items.size 0 J=items.size:=eq_of_beq q.2;exact I ⟨by omega,by omega⟩
 show wpAny _ _ (if(((sIx items.size 0 J:Nat):Int)==0 && (1:Int)==1 && (sIx items.size items.size G-sIx items.size 0 J)==items.size)=true then _ else _) _ _ s;rw[Zo N,Kk]
 first
  |exact Zj (m:=Builtin.Tuple.tupleExact _) (zW (Zk ⟨_,rfl,Zk h⟩) Z)
  |exact Zj (m:=Builtin.Tuple.tupleExact _) (zW (Zj (Zk (Zk ⟨_,rfl,Zk h⟩))) Z)
  |exact Zj (Zj (m:=Builtin.Tuple.tupleExact _) (zW (Zk (Zk ⟨_,rfl,Zk h⟩)) Z))
  |exact Zj (Zj (m:=Builtin.Tuple.tupleExact _) (zW (Zk ⟨_,rfl,Zk h⟩) Z))
end
end HT
namespace L2
open PySem PySem.Spec PyProof.Rows
abbrev TO:=St->Hp->(Option Int->Hp->Prop)->Prop
def PO(X:Cx)(e:Option Expr)(t:TO):Prop:=
 ∀(Z:kb)(s:Shared)(U:St)(H:Hp)(Q:Option Int->Hp->Prop),Inv X Z U H s->t U H Q->
  wpAny (model X.prog X.w) X.A (evalPart e X.env) (λu G=>∃o J,Inv X Z U J G/\IsPart u o/\Q o J) X.xe s
def D5:TO:=λ_ H Q=>Q none H
def AL(t:TE):TO:=λU H Q=>t U H λx Z=>∃i,x=.int i/\Q (some i) Z
section
variable{X:Cx}{te:TE}{lo hi:Option Expr}{tl th:TO}
theorem Vb:PO X none D5:=by
 intro Z s U H Q I h;rw[evalPart_none];exact Zk ⟨none,H,I,.none,h⟩
theorem Va(h:PE X e te):PO X (some e) (AL te):=by
 intro Z s U H Q I L;rw[evalPart_some];refine thn (h Z s U H _ I L) λu O ⟨x,N,M,J,G⟩=>?_;obtain⟨i,rfl,q⟩:=G;obtain⟨t,rfl⟩:=J;exact⟨some i,N,M,.int i t,q⟩
def SlR(X:Cx)(r:V->Option Int->Option Int->Hp->VK->Prop):Prop:=
 ∀(Z:kb)(s:Shared)(U:St)(H:Hp)(x:V)(v G J:Value)(lo hi:ky)(sl:Addr)(Q:VK),Inv X Z U H s->RelV x v->s.heap.IsSliceOf sl G J .none->IsPart G lo->IsPart J hi->r x lo hi H Q->
  ∃T L,typeLookup (.type T) "__getitem__"=pure (some (.builtin L))/\s.TypeIs v T/\wpAny (model X.prog X.w) X.A (getItem v (.ref sl)) (EP X Z U Q) X.xe s
def tSl(r:V->Option Int->Option Int->Hp->VK->Prop)(te:TE)(tl th:TO):TE:=λU H Q=>te U H λx G=>tl U G λl J=>th U J λu Z=>r x l u Z Q
theorem VM(P:SlR X r)(z:PE X e te)(j:PO X lo tl)(S:PO X hi th):PE X (.Subscript e (.Slice lo hi none p2) pos) (tSl r te tl th):=by
 intro Z s U H Q I h;refine Subscript_ (thn (z Z s U H _ I h) λv O ⟨x,d,p,R,E⟩=>?_);refine wpAny_Slice (thn (j Z O U d _ p E) λL N ⟨l,c,k,A,D⟩=>thn (S Z N U c _ k D) λG J ⟨u,M,g,F,B⟩=>?_);rw[evalPart_none];refine Zk ?_;have m:Inv X Z U M {J with heap:=J.heap.push {cls:=.type "slice",data:=.fields #[L,G,.none]}}:=g.kept (t':=J.toks) λb f q=>ZD _ q;obtain⟨T,w,t,C,y⟩:=P Z {J with heap:=J.heap.push {cls:=.type "slice",data:=.fields #[L,G,.none]}} U M x v L G l u J.heap.objs.size Q m R (Heap.IsSliceOf.new ..) A F B;show wpAny (model X.prog X.w) X.A (subscriptTail e (.Slice lo hi none p2) v (.ref J.heap.objs.size)) (EP X Z U Q) X.xe {J with heap:=J.heap.push {cls:=.type "slice",data:=.fields #[L,G,.none]}};exact tail_any (ops:=[.ref J.heap.objs.size,v]) C t y (by with_unfolding_all rfl)
def XN(xs:kF)(lo hi:ky):kF:=(xs.drop (HT.sIx xs.length 0 lo)).take (HT.sIx xs.length xs.length hi-HT.sIx xs.length 0 lo)
theorem Gd(Z:kF)(lo hi:ky):(XN Z lo hi).length<=Z.length:=by
 unfold XN;rw[ZL,zp];omega
def Co(K:W.Frag):V->Option Int->Option Int->Hp->VK->Prop:=λx lo hi H Q=>∃a Z,x=.ref a/\SqT K H a Z/\
 ¬(HT.sIx Z.length 0 lo=0/\HT.sIx Z.length Z.length hi=Z.length)/\∀p,H p=none->Q (.ref p) (upd H p (.tup (XN Z lo hi)))
theorem MT:SlR X (Co X.K):=by
 intro L s U H x v A F lo hi sl Q I O E T R h;obtain⟨a,J,rfl,B,D,q⟩:=h;cases O;obtain⟨G,r,N,M⟩:=I.tuple B;have Z:G.toArray.size=J.length:=by rw[ZM];exact r.length.symm
 refine⟨"tuple",_,PyProof.Rows.slot_tuple_getitem.lookup,N.typeIs,?_⟩;refine HT.getItem_tuple_cut N E T R (by rw[Z];exact D) ?_ (by rw[Z];exact M);rw[Z];refine⟨.ref s.heap.objs.size,_,I.laid (t':=s.toks) (o:=.tup (XN J lo hi)) (λb S q=>ZD _ q) (ZF _) ?_,rfl,q _ (I.hok.fresh (ZF _))⟩;exact⟨ZZ (Gd J lo hi) M,_,(r.drop (HT.sIx J.length 0 lo)).take (HT.sIx J.length J.length hi-HT.sIx J.length 0 lo),Gi.new _ _⟩
def GS(K:W.Frag):R2:=λx y H Q=>∃a b J Z,x=.ref a/\y=.ref b/\SqT K H a J/\SqT K H b Z/\J≠[]/\J.length+Z.length<=sizeLine/\
 (Z=[]->Q (.ref a) H)/\(Z≠[]->∀p,H p=none->Q (.ref p) (upd H p (.tup (J++ Z))))
theorem Vals.nil_iff(r:Vals Z J):J=[]↔Z=[]:=by
 cases r with
 |nil=>simp
 |cons _ _=>simp
theorem WS:OpR X (binaryOp .Add) (GS X.K):=by
 intro G s U H x y v u Q I T R h;obtain⟨a,b,O,N,rfl,rfl,P,C,S,M,D,B⟩:=h;cases T;cases R;obtain⟨A,J,F,_⟩:=I.tuple P;obtain⟨L,Z,E,_⟩:=I.tuple C;refine HT.cat_tup F E (λz=>S (J.nil_iff.mp z)) (λz=>⟨.ref a,H,I,rfl,D (Z.nil_iff.mp z)⟩) (λz=>?_) (by rw[<-J.length,<-Z.length];exact M);refine⟨.ref s.heap.objs.size,_,I.laid (t':=s.toks) (o:=.tup (O++ N)) (λb j q=>ZD _ q) (ZF _) ?_,rfl,B (λw=>z (Z.nil_iff.mpr w)) _ (I.hok.fresh (ZF _))⟩;exact⟨by rw[ZJ];exact M,_,J.append Z,Gi.new _ _⟩
end
def ixN(n:Nat)(i:Int):Option Nat:=if 0<=i then(if i<n then some i.toNat else none)else if -(n:Int)<=i then some (i+n).toNat else none
def atI{α:Type}(xs:List α)(i:Int):Option α:=(ixN xs.length i).bind λj=>xs[j]?
theorem EV(h:ixN n i=some j):seqIndex? i n=some j/\j<n/\ -(n:Int)<=i/\i<n:=by
 unfold ixN at h
 by_cases h0:0<=i
 .rw [Zn h0]at h
  by_cases h1:i<n
  .rw [Zn h1]at h
   have e:i.toNat=j:=ZP h;exact⟨by rw[seqIndex_of h0 h1,e],by omega,by omega,h1⟩
  .rw [Zo h1]at h;cases h
 .rw [Zo h0]at h
  by_cases h1: -(n:Int)<=i
  .rw [Zn h1]at h
   have e:(i+n).toNat=j:=ZP h;exact⟨by rw[seqIndex_neg (by omega) h1,e],by omega,h1,by omega⟩
  .rw [Zo h1]at h;cases h
theorem NC(h:atI Z i=some v):∃j,seqIndex? i Z.length=some j/\Z[j]?=some v/\j<Z.length/\ -(Z.length:Int)<=i/\i<Z.length:=by
 unfold atI at h
 cases e:ixN Z.length i with
 |none=>rw[e]at h;cases h
 |some j=>
  rw[e]at h;obtain⟨M,L,G,J⟩:=EV e;exact⟨j,M,h,L,G,J⟩
theorem Yq{Z:List α}{j:Nat}{v:α}(h:Z[j]?=some v):atI Z (j:Int)=some v:=by
 have J:j<Z.length:=(ZE.mp h).1
 have e:ixN Z.length (j:Int)=some j:=by
  unfold ixN;rw[Zn (by omega),Zn (by omega)];simp
 unfold atI;rw[e];exact h
theorem L5(Z:List α)(v:α):atI (Z++[v]) (-1)=some v:=by
 have J:(Z++[v]).length=Z.length+1:=by simp
 have e:ixN (Z++[v]).length (-1)=some Z.length:=by
  unfold ixN;rw[J,Zo (by decide),Zn (by omega)]
  congr 1
  omega
 unfold atI;rw[e];show(Z++[v])[Z.length]?=some v;simp
def P5(b:Expr):Prop:=∀o i,subscripted b false o i=operate [o,i] (getItem o i)
def IxR(X:Cx)(r:R2):Prop:=
 ∀(value slice:Expr)(Z:kb)(s:Shared)(U:St)(H:Hp)(x y:V)(v u:Value)(Q:VK),Inv X Z U H s->RelV x v->RelV y u->r x y H Q->
  subscripted slice false v u=operate [v,u] (getItem v u)->wpAny (model X.prog X.w) X.A (subscriptTail value slice v u) (EP X Z U Q) X.xe s
def MtR(X:Cx)(id:String)(r:V->List V->Hp->VK->Prop):Prop:=
 ∀(Z:kb)(s:Shared)(U:St)(H:Hp)(x:V)(J:kF)(v:Value)(G:kj)(Q:VK),Inv X Z U H s->RelV x v->Vals J G->r x J H Q->
  wpAny (model X.prog X.w) X.A (call (.builtin id) (v::G)) (EP X Z U Q) X.xe s
section
variable{a b:Expr}{ta tb:TE}
theorem Yi(N:IxR X r)(R:PE X a ta)(O:PE X b tb)(M:P5 b:=by exact λ_ _=>rfl):PE X (.Subscript a b pos) (tOp r ta tb):=by
 intro Z s U H Q I h;exact Subscript_ (AE R O I h λv u J x y B T L G q=>N a b Z J U B x y v u Q T L G q (M _ _))
def Kf(K:W.Frag):R2:=λx y H Q=>Jj x λp=>XF y λi=>∃Z v,SqL K H p Z/\atI Z i=some v/\Q v H
theorem Kf.old{K:W.Frag}(h:Kf K x y H Q):∃p Z i v,x=.ref p/\y=.int i/\SqL K H p Z/\atI Z i=some v/\Q v H:=by
 replace h:=Jj.old h;obtain⟨p,e,h⟩:=h;replace h:=XF.old h;obtain⟨i,J,Z,v,h⟩:=h;exact⟨p,Z,i,v,e,J,h⟩
def J9(K:W.Frag):R2:=λx y H Q=>Jj x λp=>XF y λi=>∃Z v,SqT K H p Z/\atI Z i=some v/\Q v H
theorem J9.old{K:W.Frag}(h:J9 K x y H Q):∃p Z i v,x=.ref p/\y=.int i/\SqT K H p Z/\atI Z i=some v/\Q v H:=by
 replace h:=Jj.old h;obtain⟨p,e,h⟩:=h;replace h:=XF.old h;obtain⟨i,J,Z,v,h⟩:=h;exact⟨p,Z,i,v,e,J,h⟩
def AX:R2:=λx y H Q=>∃z i c,x=.str z/\y=.int i/\z.length<=sizeLine/\atI z.cps.toList i=some c/\Q (.str ⟨#[c]⟩) H
theorem Y4:IxR X (Kf X.K):=by
 intro value slice Z s U H x y v u Q I D B h O;replace h:=Kf.old h;obtain⟨p,m,i,z,rfl,rfl,E,A,q⟩:=h;cases D;obtain⟨t,rfl⟩:=B;obtain⟨N,r,M,g⟩:=I.list E;obtain⟨j,G,P,c,C,S⟩:=NC A;obtain⟨w,R,L⟩:=r.get P;have F:=r.length;have k:=Wu;have J:EP X Z U Q w s:=⟨z,H,I,L,q⟩
 by_cases h0:0<=i
 .have hj:i.toNat=j:=by
   rw[seqIndex_of h0 S]at G;exact ZP G
  exact item_listR M.isList h0 (by omega) (by rw[hj];simpa using R) J O
 .have hj:(i+(N.toArray.size:Int)).toNat=j:=by
   rw[seqIndex_neg (by omega) C]at G;rw[ZM,<-F];exact ZP G
  exact subscriptTail_builtinR (x:=w) M.isList.typeIs slot_list_getitem.lookup
   (wpAny_getItem_list_neg (Q:=λr T=>r=w/\EP X Z U Q r T) M.isList (by omega) (by rw[ZM] <;> omega) (by omega) (by rw[hj];simpa using R) ⟨rfl,J⟩) O
theorem Yl:IxR X (J9 X.K):=by
 intro value slice Z s U H x y v u Q I O N h T;replace h:=J9.old h;obtain⟨p,C,i,z,rfl,rfl,B,E,q⟩:=h;cases O;obtain⟨t,rfl⟩:=N;obtain⟨R,r,L,P⟩:=I.tuple B;obtain⟨j,A,F,c,k,g⟩:=NC E;obtain⟨w,S,J⟩:=r.get F;have D:=r.length;have m:=Wu;have G:EP X Z U Q w s:=⟨z,H,I,J,q⟩;exact subscriptTail_builtinR (x:=w) L.typeIs slot_tuple_getitem.lookup
  (getItem_tuple (j:=j) (Q:=λr M=>r=w/\EP X Z U Q r M) L (by omega) (by omega) (by rw[ZM,<-D];exact A) (by simpa using S) ⟨rfl,G⟩) T
theorem LT:IxR X AX:=by
 intro value slice Z s U H x y v u Q I L G h M;obtain⟨z,i,c,rfl,rfl,A,O,q⟩:=h;obtain⟨t,rfl⟩:=L;obtain⟨F,rfl⟩:=G;obtain⟨j,J,B,C,T,R⟩:=NC O;have N:z.cps.toList.length=z.length:=by simp[Str.length]
 rw[N]at J T R;have S:=Wu
 exact tail_any (typeIs_str s z t) slot_str_getitem.lookup (getItem_str (c:=c) (by
  have E:decide (i < -(2 ^ 63:Int))=false:=Zw (by omega);have D:decide (i ≥ 2 ^ 63)=false:=Zw (by omega);rw[E,D,Bool.or_false]) (by rw[J];simpa using B) ⟨.str ⟨#[c]⟩,H,I.tok _,⟨_,rfl⟩,q⟩) M
theorem DQ(Z:kj)(n j:Nat)(u:Value):Obj.mapSeq (·.setIfInBounds j u) {cls:=.type "list",data:=.seq Z.toArray n}={cls:=.type "list",data:=.seq (Z.set j u).toArray n}:=by
 simp[Obj.mapSeq]
theorem Inv.lst(I:Inv X G U H s)(h:H p=some (.lst J)):
  ∃(Z:kj)(n:Nat),Vals J Z/\s.heap.get? p=some {cls:=.type "list",data:=.seq Z.toArray n}/\J.length<=sizeLine:=by
 obtain⟨z,Z,n,r,e⟩:=I.hok p _ h;exact⟨Z,n,r,e,z⟩
theorem Inv.lstUpd{G Z:kj}(I:Inv X J U H s)(h:H p=some (.lst T))(O:s.heap.get? p=some {cls:=.type "list",data:=.seq G.toArray n})(M:f {cls:=.type "list",data:=.seq G.toArray n}={cls:=.type "list",data:=.seq Z.toArray n'})(r:Vals L Z)(N:L.length<=sizeLine)(t:Nat):
  Inv X J U (upd H p (.lst L)) {s with heap:=s.heap.update p f,toks:=t}:=by
 have e:(s.heap.update p f).get? p=some {cls:=.type "list",data:=.seq Z.toArray n'}:=by
  rw[zP f O (by rw[M] <;> rfl),M]
 refine I.write (x:=p) (e:=p) (by rw[h];trivial) (.inl rfl) (λb u R q=>(zM _ _ (Zq R)).trans q) ⟨_,e⟩ ?_;exact⟨N,Z,n',r,e⟩
def AW:V->V->V->Hp->(Hp->Prop)->Prop:=λo i v H Q=>∃p Z k j,o=.ref p/\i=.int k/\H p=some (.lst Z)/\ixN Z.length k=some j/\Q (upd H p (.lst (Z.set j v)))
theorem set_list:CQ X AW:=by
 intro Z s U H o i v C P u Q I E F D h;obtain⟨p,B,k,j,rfl,rfl,N,S,q⟩:=h;cases E;obtain⟨t,rfl⟩:=F;obtain⟨J,n,r,L,A⟩:=I.lst N;obtain⟨G,z,R,O⟩:=EV S;have M:=r.length;have y:=Wu
 have T:Inv X Z U (upd H p (.lst (B.set j v))) {s with heap:=s.heap.update p (Obj.mapSeq (·.setIfInBounds j u))}:=
  I.lstUpd N L (DQ J n j u) (r.set D j) (by rw[vK];exact A) s.toks
 by_cases h0:0<=k
 .have hk:k.toNat=j:=by
   rw[seqIndex_of h0 O]at G;exact ZP G
  exact W.ki_setAt L h0 (by omega) (by rw[ZM,<-M];exact O) (by rw[hk];exact⟨_,T,q⟩)
 .have hk:(k+(J.toArray.size:Int)).toNat=j:=by
   rw[seqIndex_neg (by omega) R]at G;rw[ZM,<-M];exact ZP G
  exact W.ki_setBack L (by omega) (by rw[ZM,<-M];exact R) (by omega) (by rw[hk];exact⟨_,T,q⟩)
theorem MS(Z J:ky)(n:Nat):(sliceBounds Z J none n).1=((HT.sIx n 0 Z:Nat):Int)/\(sliceBounds Z J none n).2.1=((HT.sIx n n J:Nat):Int)/\(sliceBounds Z J none n).2.2=1:=by
 refine⟨?_,?_,rfl⟩
 .cases Z with
  |none=>simp[sliceBounds,HT.sIx]
  |some i=>
   simp only[sliceBounds,HT.sIx,Option.getD_none,show(1:Int) > 0 by decide,if_true]
   by_cases h:i<0
   .simp only[h,if_true] <;> omega
   .simp only[h,if_false] <;> omega
 .cases J with
  |none=>simp[sliceBounds,HT.sIx]
  |some i=>
   simp only[sliceBounds,HT.sIx,Option.getD_none,show(1:Int) > 0 by decide,if_true]
   by_cases h:i<0
   .simp only[h,if_true] <;> omega
   .simp only[h,if_false] <;> omega
theorem RU(Z:kj)(J G:ky):slicePick Z.toArray J G none=((Z.drop (HT.sIx Z.length 0 J)).take (HT.sIx Z.length Z.length G-HT.sIx Z.length 0 J)).toArray:=by
 obtain⟨N,M,L⟩:=MS J G Z.toArray.size;unfold slicePick;rw[N,M,L];simp only[sliceRange_one,pick_run,ZM] <;> rfl
def Cq(K:W.Frag):V->Option Int->Option Int->Hp->VK->Prop:=λx J G H Q=>∃a Z,x=.ref a/\SqL K H a Z/\∀p,H p=none->Q (.ref p) (upd H p (.lst (XN Z J G)))
theorem WJ:SlR X (Cq X.K):=by
 intro M s U H x v S A G L sl Q I O F T R h;obtain⟨a,Z,rfl,E,q⟩:=h;cases O;obtain⟨B,r,N,D⟩:=I.list E;have J:=r.length;refine⟨"list",_,slot_list_getitem.lookup,N.isList.typeIs,?_⟩;refine wpAny_getItem_list_slice N.isList F T R .none (by simp) ?_ (by rw[ZM] <;> omega);rw[RU,<-J];refine⟨.ref s.heap.objs.size,_,I.laid (t':=s.toks) (o:=.lst (XN Z G L)) (λb C q=>ZD _ q) (ZF _) ?_,rfl,q _ (I.hok.fresh (ZF _))⟩;exact⟨ZZ (Gd Z G L) D,_,0,(r.drop (HT.sIx Z.length 0 G)).take (HT.sIx Z.length Z.length L-HT.sIx Z.length 0 G),ZW _ rfl⟩
def WW:V->Bool
 |.non=>true
 |.bl _=>true
 |.int _=>true
 |.str _=>true
 |_=>false
def eqV:V->V->Bool
 |.non,.non=>true
 |.bl a,.bl b=>a==b
 |.bl a,.int b=>(if a then 1 else 0)==b
 |.int a,.bl b=>a==(if b then 1 else 0)
 |.int a,.int b=>a==b
 |.str a,.str b=>a==b
 |_,_=>false
theorem S9(G:RelV y u)(Z:RelV x v)(M:WW y=true)(L:WW x=true):SeqAt.EqAt A s u v (eqV y x):=by
 cases y with
 |non=>
  cases G
  cases x with
  |non=>cases Z;exact SeqAt.EqAt.same _
  |bl b=>cases Z;exact SeqAt.EqAt.none_bool b
  |int b=>obtain⟨t,rfl⟩:=Z;exact SeqAt.EqAt.none_int b t
  |str b=>obtain⟨t,rfl⟩:=Z;exact SeqAt.EqAt.none_str b t
  |_=>exact Zp (show false=true from L) Zg
 |bl a=>
  cases G
  cases x with
  |non=>cases Z;exact SeqAt.EqAt.bool_none a
  |bl b=>cases Z;exact SeqAt.EqAt.bool_bool a b
  |int b=>obtain⟨t,rfl⟩:=Z;exact SeqAt.EqAt.bool_int a b t
  |str b=>obtain⟨t,rfl⟩:=Z;exact SeqAt.EqAt.bool_str a b t
  |_=>exact Zp (show false=true from L) Zg
 |int a=>
  obtain⟨J,rfl⟩:=G
  cases x with
  |non=>cases Z;exact SeqAt.EqAt.int_none a J
  |bl b=>cases Z;exact SeqAt.EqAt.int_bool a J b
  |int b=>obtain⟨t,rfl⟩:=Z;exact SeqAt.EqAt.int_int a J b t
  |str b=>obtain⟨t,rfl⟩:=Z;exact SeqAt.EqAt.int_str a J b t
  |_=>exact Zp (show false=true from L) Zg
 |str a=>
  obtain⟨J,rfl⟩:=G
  cases x with
  |non=>cases Z;exact SeqAt.EqAt.str_none a J
  |bl b=>cases Z;exact SeqAt.EqAt.str_bool a J b
  |int b=>obtain⟨t,rfl⟩:=Z;exact SeqAt.EqAt.str_int a J b t
  |str b=>obtain⟨t,rfl⟩:=Z;exact SeqAt.EqAt.str_str a J b t
  |_=>exact Zp (show false=true from L) Zg
 |_=>exact Zp (show false=true from M) Zg
def eqU(x:V)(u:Value):Bool:=match u with
 |.none=>eqV .non x
 |.bool b=>eqV (.bl b) x
 |.int i _=>eqV (.int i) x
 |.str z _=>eqV (.str z) x
 |_=>false
theorem Ln(r:RelV y u)(f:WW y=true):eqU x u=eqV y x:=by
 cases y with
 |non=>cases r;rfl
 |bl b=>cases r;rfl
 |int i=>obtain⟨t,rfl⟩:=r;rfl
 |str z=>obtain⟨t,rfl⟩:=r;rfl
 |_=>exact Zp (show false=true from f) Zg
theorem Wa:∀{Z:kF}{J:kj},Vals Z J->Z.all WW=true->J.any (eqU x)=Z.any λy=>eqV y x
 |_,_,.nil,_=>rfl
 |y::Z,u::J,.cons r t,f=>by
  rw[vZ,ZX]at f;rw[vz,vz,Ln r f.1,Wa t f.2]
theorem Xb(L:RelV x v)(M:WW x=true):∀{J:kF}{G:kj},Vals J G->J.all WW=true->∀u∈G,SeqAt.EqAt A s u v (eqU x u)
 |_,_,.nil,_=>λu Z=>by cases Z
 |y::J,u::G,.cons r t,f=>λN Z=>by
  rw[vZ,ZX]at f;rcases Zb.mp Z with rfl|Z
  .rw [Ln r f.1];exact S9 r L f.1 M
  .exact Xb L M t f.2 N Z
def inV(x:V)(xs:kF):Bool:=xs.any λy=>eqV y x
def rIn(K:W.Frag)(neg:Bool):R2:=λx y H Q=>∃p Z,y=.ref p/\(SqL K H p Z\/SqT K H p Z)/\WW x=true/\Z.all WW=true/\Q (.bl (if neg then !inV x Z else inV x Z)) H
theorem Xm:OpR X (compareOp .In) (rIn X.K false):=by
 intro M s U H x y v u Q I L O h;obtain⟨p,R,rfl,Z,N,J,q⟩:=h;cases O;rcases Z with Z|Z
 .obtain ⟨its,r,pl,hz⟩:=I.list Z
  refine SeqAt.in_listAt (eqU x) pl.isList (λw G=>Xb L N r J w (by simpa using G)) ⟨.bl _,H,I,rfl,?_⟩;rw[show its.toArray.any (eqU x)=its.any (eqU x) by simp,Wa r J];exact q
 .obtain ⟨its,r,pl,hz⟩:=I.tuple Z
  refine SeqAt.in_tupleAt (eqU x) pl (λw G=>Xb L N r J w (by simpa using G)) ⟨.bl _,H,I,rfl,?_⟩;rw[show its.toArray.any (eqU x)=its.any (eqU x) by simp,Wa r J];exact q
theorem Jr:OpR X (compareOp .NotIn) (rIn X.K true):=by
 intro M s U H x y v u Q I L O h;obtain⟨p,R,rfl,Z,N,J,q⟩:=h;cases O;rcases Z with Z|Z
 .obtain ⟨its,r,pl,hz⟩:=I.list Z
  refine SeqAt.notIn_listAt (eqU x) pl.isList (λw G=>Xb L N r J w (by simpa using G)) ⟨.bl _,H,I,rfl,?_⟩;rw[show its.toArray.any (eqU x)=its.any (eqU x) by simp,Wa r J];exact q
 .obtain ⟨its,r,pl,hz⟩:=I.tuple Z
  refine SeqAt.notIn_tupleAt (eqU x) pl (λw G=>Xb L N r J w (by simpa using G)) ⟨.bl _,H,I,rfl,?_⟩;rw[show its.toArray.any (eqU x)=its.any (eqU x) by simp,Wa r J];exact q
theorem Yj:UG X (.builtin "len") (λL H Q=>∃p J,L=[.ref p]/\(SqL X.K H p J\/SqT X.K H p J)/\Q (.int J.length) H):=by
 intro M s U H L O Q I r h;obtain⟨p,J,rfl,G,q⟩:=h;obtain⟨u,rfl,N⟩:=vals1 r;cases N;have R:=Wu;rcases G with G|G
 .obtain ⟨its,r',pl,hz⟩:=I.list G
  have Z:=r'.length;exact Calls.call_len_list pl.isList (by simp only[ZM] <;> omega) ⟨.int J.length,H,I.tok _,⟨s.toks+1,by rw[ZM,Z]⟩,q⟩
 .obtain ⟨its,r',pl,hz⟩:=I.tuple G
  have Z:=r'.length;exact len_tuple pl (by simp only[ZM] <;> omega) ⟨.int J.length,H,I.tok _,⟨s.toks+1,by rw[ZM,Z]⟩,q⟩
theorem XH:UG X (.builtin "len") (λZ H Q=>∃z,Z=[.str z]/\z.length<=sizeLine/\Q (.int z.length) H):=by
 intro J s U H Z G Q I r h;obtain⟨z,rfl,L,q⟩:=h;obtain⟨u,rfl,t,rfl⟩:=vals1 r;have M:=Wu;exact len_str (by omega) ⟨.int z.length,H,I.tok _,⟨_,rfl⟩,q⟩
theorem V3:UG X (.type "list") (λS H Q=>∃p G,S=[.ref p]/\(SqL X.K H p G\/SqT X.K H p G)/\∀l,H l=none->Q (.ref l) (upd H l (.lst G))):=by
 intro N s U H S j Q I r h;obtain⟨p,G,rfl,T,q⟩:=h;obtain⟨u,rfl,P⟩:=vals1 r;cases P;have D:∀(Z:kj),Vals G Z->G.length<=sizeLine->∀(J:Heap)(M:Nat),(∀b C,s.heap.get? b=some C->J.get? b=some C)->
   J.get? s.heap.objs.size=some {cls:=.type "list",dict:=none,data:=.seq Z.toArray M,slots:= #[]}->EP X N U Q (.ref s.heap.objs.size) {s with heap:=J}:=λZ L R J M O e=>
  ⟨.ref s.heap.objs.size,_,I.laid (t':=s.toks) O (ZF _) (show VX X.prog X.w _ J _ (.lst G)from⟨R,Z,M,L,e⟩),rfl,q _ (I.hok.fresh (ZF _))⟩
 rcases T with T|T
 .obtain ⟨Z,L,pl,R⟩:=I.list T
  have B:=L.length;obtain⟨o,E,A,n,F⟩:=pl.isList;exact call_list_seq p (.inl rfl) E A F (λJ M O e=>D Z L R J M O e) (by simp only[ZM] <;> omega)
 .obtain ⟨Z,L,pl,R⟩:=I.tuple T
  have B:=L.length;obtain⟨o,E,A,n,F⟩:=pl;exact call_list_seq p (.inr rfl) E A F (λJ M O e=>D Z L R J M O e) (by simp only[ZM] <;> omega)
theorem VW:UG X (.type "tuple") (λM H Q=>∃p J,M=[.ref p]/\((SqL X.K H p J/\∀l,H l=none->Q (.ref l) (upd H l (.tup J)))\/(SqT X.K H p J/\Q (.ref p) H))):=by
 intro Z s U H M D Q I r h;obtain⟨p,J,rfl,h⟩:=h;obtain⟨u,rfl,R⟩:=vals1 r;cases R;rcases h with⟨L,q⟩|⟨L,q⟩
 .obtain ⟨its,r',pl,hz⟩:=I.list L
  have N:=r'.length;refine call_tuple_list pl.isList (λG T=>?_) (by simp only[ZM] <;> omega);have O:Inv X Z U H {s with heap:=G}:=I.kept (t':=s.toks) T
  have B:Inv X Z U (upd H G.objs.size (.tup J)) {s with heap:=G.push {cls:=.type "tuple",data:=.seq its.toArray}}:=
   O.laid (t':=s.toks) (λb o e=>ZD _ e) (ZF _) (show VX X.prog X.w _ _ _ (.tup J)from⟨hz,its,r',Gi.new _ _⟩)
  exact⟨.ref G.objs.size,_,B,rfl,q _ (O.hok.fresh (ZF _))⟩
 .obtain ⟨its,r',pl,hz⟩:=I.tuple L
  exact call_tuple_same pl ⟨.ref p,H,I,rfl,q⟩
def tyV(K:W.Frag)(T:String)(x:V)(H:Hp):Prop:=match x with
 |.str _=>T="str"
 |.int _=>T="int"
 |.ref p=>(T="list" /\∃xs,SqL K H p xs)\/(T="tuple" /\∃o,K.lookup p=some o/\o.cls=.type "tuple" /\o.dict=none) \/
   (T="dict" /\((∃kvs,H p=some (.dK kvs)) \/ ∃kvs,H p=some (.dT kvs)))\/(T="set" /\∃S n,H p=some (.set S n))
 |_=>False
theorem Qj(I:Inv X N U H s)(r:RelV x v)(ty:tyV X.K T x H):
  s.TypeIs v T/\∀a,v=.ref a->∃O,s.heap.get? a=some O/\O.dict=none:=by
 cases x with
 |str z=>
  obtain⟨t,rfl⟩:=r;cases(show T="str" from ty);exact⟨typeIs_str s z t,λ_ e=>nomatch e⟩
 |int i=>
  obtain⟨t,rfl⟩:=r;cases(show T="int" from ty);exact⟨typeIs_int s i t,λ_ e=>nomatch e⟩
 |ref p=>
  cases r;rcases ty with⟨rfl,D,R⟩|⟨rfl,o,Z,B,L⟩|⟨rfl,Z⟩|⟨rfl,S,n,Z⟩
  .obtain ⟨its,_,pl,_⟩:=I.list R
   refine⟨pl.isList.typeIs,λa e=>?_⟩;cases e;obtain⟨o,n,e,c,L,_⟩:=pl;exact⟨o,e,L⟩
  .refine ⟨⟨o,I.kIn p o Z,B⟩,λa e=>?_⟩
   cases e;exact⟨o,I.kIn _ o Z,L⟩
  .have z:∃o,s.heap.get? p=some o/\o.ExactDict:=by
    rcases Z with⟨G,Z⟩|⟨G,Z⟩
    .obtain ⟨_,_,_,_,o,_,_,e,J,_⟩:=I.hok p _ Z
     exact⟨o,e,J⟩
    .obtain ⟨_,_,_,_,o,_,_,e,J,_⟩:=I.hok p _ Z
     exact⟨o,e,J⟩
   obtain⟨o,e,J⟩:=z;refine⟨⟨o,e,J.1⟩,λa M=>?_⟩;cases M;exact⟨o,e,J.2.1⟩
  .obtain ⟨o,_,_,_,e,J,_⟩:=I.hok p _ Z
   refine⟨⟨o,e,J.1⟩,λa M=>?_⟩;cases M;exact⟨o,e,J.2.1⟩
 |_=>exact False.elim ty
def tBM(K:W.Frag)(T:String)(r:V->List V->Hp->VK->Prop)(to:TE)(t:TA):TE:=λU H Q=>to U H λx Z=>tyV K T x Z/\t U Z λJ G=>r x J G Q
variable{T id:String}
theorem Jk(j:PlainAttrs T)(slot:Slot T name id)(N:typeOf (.builtin id)=pure (.type "method_descriptor"))(q:MtR X id r)(z:PE X o to)(m:PA X (e::es) t)(L:attributeBase o name X.env (eval o X.env)=eval o X.env:=by rfl)(M:((backTo cpos (starEach (e::es) X.env)).all (λx=>!x.1) && (backToKw cpos (keywordEach [] X.env)).all (λx=>x.1.isSome)
   && decide ((e::es).length+([]:List Keyword).length+(if([]:List Keyword).isEmpty then 0 else 1)<30))=true:=by rfl)(G:(apos.endLine==cpos.line)=true:=by rfl)(y:starEach (e::es) X.env=(false,eval e X.env)::starEach es X.env:=by rfl)(J:(backTo cpos (starEach es X.env)).any (·.1)=false:=by rfl):
  PE X (.Call (.Attribute o name apos) (e::es) [] cpos) (tBM X.K T r to t):=by
 intro Z s U H Q I h;refine wpAny_Call_method_late L M G rfl (thn (z Z s U H _ I h) λv A ⟨x,d,B,O,ty,P⟩=>?_);obtain⟨k,g⟩:=Qj B O ty;refine⟨T,id,j,slot,N,k,g,?_⟩;have R:=m cpos Z A U d _ B P;rw[y]at R |-;refine Calls.callWith_builtin (by show(false || (backTo cpos (starEach es X.env)).any (·.1))=false;rw[J] <;> rfl) (Calls.evalArgs_plain ?_);exact thn R λE F ⟨D,c,p,S,C⟩=>q Z F U c x D v E Q p O S C
end
def MtM(X:Cx)(id:String)(r:V->List V->Hp->VK->Prop):Prop:=
 ∀(Z:kb)(s:Shared)(U:St)(H:Hp)(x:V)(J:kF)(v:Value)(G:kj)(Q:VK),Inv X Z U H s->RelV x v->Vals J G->r x J H Q->
  wpAny (model X.prog X.w) X.A (call (.builtin id) (v::G)) (EP X Z U Q) X.xe s
theorem Vals.one:∀{x:V}{Z:kj},Vals [x] Z->∃u,Z=[u]/\RelV x u
 |_,_,.cons r .nil=>⟨_,rfl,r⟩
section
theorem Inv.lset{J its':kj}(I:Inv X Z U H s)(T:H l=some (.lst B))(e:s.heap.get? l=some {cls:=.type "list",data:=.seq J.toArray n})(O:f J.toArray=its'.toArray)(M:Vals G its')(L:G.length<=sizeLine):
  Inv X Z U (upd H l (.lst G)) {s with heap:=s.heap.update l (Obj.mapSeq f),toks:=D}:=by
 have q:=PySem.IsL.update e f;rw[O]at q;refine I.write (x:=l) (e:=l) (by rw[T];exact trivial) (.inl rfl) (λE u R N=>(zM s.heap (Obj.mapSeq f) (Zq R)).trans N) ⟨_,q⟩ ?_;exact⟨L,its',_,M,q⟩
theorem Inv.lnew(I:Inv X Z U H s)(M:Vals G J)(L:G.length<=sizeLine):
  Inv X Z U (upd H s.heap.objs.size (.lst G)) {s with heap:=s.heap.push {cls:=.type "list",data:=.seq J.toArray},toks:=t'}:=
 I.laid (λ_ _ q=>ZD _ q) (ZF _) ⟨L,J,0,M,ZW _ rfl⟩
theorem Inv.fresh(I:Inv X Z U H s):H s.heap.objs.size=none:=I.hok.fresh (ZF _)
theorem Inv.lstM(I:Inv X G U H s)(L:H l=some (.lst J)):J.length<=sizeLine/\∃(Z:kj)(n:Nat),Vals J Z/\J.length=Z.length/\s.heap.get? l=some {cls:=.type "list",data:=.seq Z.toArray n}:=by
 obtain⟨z,Z,n,r,e⟩:=I.hok l _ L;exact⟨z,Z,n,r,r.length,e⟩
theorem Nh(h:n<=sizeLine):Builtin.List.listTooLong n=false:=by
 unfold Builtin.List.listTooLong;exact Zw (by omega)
end
section
def Oi:V->List V->Hp->VK->Prop:=λx J H Q=>∃l Z y,x=.ref l/\J=[y]/\H l=some (.lst Z)/\Z.length<sizeLine/\Q .non (upd H l (.lst (Z++[y])))
theorem Vj:MtM X "list.append" Oi:=by
 intro J s U H x R v T Q I L M h;obtain⟨l,O,y,rfl,rfl,G,B,q⟩:=h;cases L;obtain⟨u,rfl,N⟩:=M.one;obtain⟨z,Z,n,r,D,e⟩:=I.lstM G;refine call_meets F.slot_list_append ⟨_,e,rfl⟩ F.entry_list_append (F.args_list_append_2 _ _) (PySem.list_append l Z.toArray n u (by rw[ZM];omega)) ⟨e,?_⟩;refine⟨.non,_,I.lset (its':=Z++[u]) G e (by simp) (r.append (.cons N .nil)) ?_,rfl,q⟩;rw[ZJ,zg];omega
def Oh:V->List V->Hp->VK->Prop:=λx G H Q=>∃l b J Z,x=.ref l/\G=[.ref b]/\H l=some (.lst J)/\H b=some (.lst Z)/\J.length+Z.length<=sizeLine/\Q .non (upd H l (.lst (J++ Z)))
theorem Wt:MtM X "list.extend" Oh:=by
 intro M s U H x y v t Q I O R h;obtain⟨l,b,j,C,rfl,rfl,N,A,m,q⟩:=h;cases O;obtain⟨u,rfl,T⟩:=R.one;cases T;obtain⟨z,J,n,r,g,e⟩:=I.lstM N;obtain⟨P,Z,D,B,E,S⟩:=I.lstM A;have L:J.toArray.size+Z.toArray.size<=sizeLine:=by rw[ZM,ZM];omega
 have G:¬(!J.toArray.isEmpty && Builtin.List.listTooLong (J.toArray.size+Z.toArray.size))=true:=by
  rw[Nh L,vi];exact Zg
 refine call_meets F.slot_list_extend ⟨_,e,rfl⟩ F.entry_list_extend (F.args_list_extend_2 _ _)
  (AutoSeq1.list_extend_list_list_0 l J.toArray n b Z.toArray D G (by rw[ZM];omega) (by omega)) ⟨e,S,?_⟩
 refine⟨.non,_,I.lset (its':=J++ Z) N e (by simp) (r.append B) ?_,rfl,q⟩;rw[ZJ];omega
def Cu:R2:=λx y H Q=>∃l b J Z,x=.ref l/\y=.ref b/\H l=some (.lst J)/\H b=some (.lst Z)/\J.length+Z.length<=sizeLine/\∀p,H p=none->Q (.ref p) (upd H p (.lst (J++ Z)))
theorem Mv:OpR X (binaryOp .Add) Cu:=by
 intro G s U H x y v u Q I M L h;obtain⟨l,b,A,E,rfl,rfl,R,T,C,q⟩:=h;cases M;cases L;obtain⟨z,J,n,r,P,e⟩:=I.lstM R;obtain⟨F,Z,S,N,O,D⟩:=I.lstM T;refine PySem.P.add_list e D ?_ (by rw[ZM,ZM];omega);have B:J.toArray++ Z.toArray=(J++ Z).toArray:=by simp
 rw[B];exact⟨.ref _,_,I.lnew (t':=s.toks) (r.append N) (by rw[ZJ];omega),rfl,q _ I.fresh⟩
end
section
set_option maxRecDepth 100000 in
end
section
variable{κ:Type}[DecidableEq κ]
def VH(kvs:List (κ×V))(k:κ):kJ:=(kvs.find? λZ=>decide (Z.1=k)).map (·.2)
def putK(kvs:List (κ×V))(k:κ)(v:V):List (κ×V):=
 if(kvs.any λZ=>decide (Z.1=k))=true then kvs.map (λZ=>if Z.1=k then(Z.1,v)else Z)else kvs++[(k,v)]
theorem JN{p:κ×V}(e:p.1=k):VH (p::r) k=some p.2:=by simp[VH,zK,e]
theorem JO{p:κ×V}(e:¬p.1=k):VH (p::r) k=VH r k:=by simp[VH,zK,e]
theorem XO(k:κ):∀Z:List (κ×V),(Z.any λJ=>decide (J.1=k))=(VH Z k).isSome
 |[]=>rfl
 |p::r=>by
  rw[vz]
  by_cases e:p.1=k
  .simp only[JN e,decide_eq_true e,Bool.true_or,Option.isSome_some]
  .rw [JO e,Zw e,Bool.false_or];exact XO k r
theorem NH(k j:κ)(y:V):∀Z:List (κ×V),VH (Z.map λJ=>if J.1=k then(J.1,y)else J) j=(VH Z j).map λx=>if j=k then y else x
 |[]=>rfl
 |p::r=>by
  have ih:=NH k j y r;rw[ZT]
  by_cases h:p.1=k
  .rw [Zn h]
   by_cases e:p.1=j
   .rw [JN (p:=(p.1,y)) e,JN e,vL,Zn (e.symm.trans h)]
   .rw [JO (p:=(p.1,y)) e,JO e,ih]
  .rw [Zo h]
   by_cases e:p.1=j
   .rw [JN (p:=p) e,JN e,vL,Zo (λz=>h (e.trans z))]
   .rw [JO (p:=p) e,JO e,ih]
theorem Rf(k j:κ)(y:V):∀Z:List (κ×V),VH Z k=none->VH (Z++[(k,y)]) j=if j=k then some y else VH Z j
 |[],_=>by
  by_cases e:k=j
  .rw [Zn e.symm];exact JN (p:=(k,y)) e
  .rw [Zo (λz=>e z.symm)];exact JO (p:=(k,y)) e
 |p::r,hn=>by
  rw[yT];have J:¬p.1=k:=λz=>by rw[JN z]at hn;cases hn
  rw[JO J]at hn;have ih:=Rf k j y r hn
  by_cases e:p.1=j
  .rw [JN e,JN e,Zo (λz=>J (e.trans z))]
  .rw [JO e,JO e,ih]
theorem UJ(Z:List (κ×V))(k j:κ)(y:V):VH (putK Z k y) j=if j=k then some y else VH Z j:=by
 unfold putK
 by_cases a:(Z.any λJ=>decide (J.1=k))=true
 .rw [Zn a,NH]
  rw[XO]at a
  by_cases e:j=k
  .obtain ⟨x,hx⟩:=vw.mp a
   rw[Zn e,e,hx,vL,Zn rfl]
  .rw [Zo e]
   cases VH Z j with
   |none=>rfl
   |some x=>rw[vL,Zo e]
 .rw [Zo a]
  refine Rf k j y Z ?_;rw[XO]at a
  cases q:VH Z k with
  |none=>rfl
  |some x=>rw[q]at a;exact(a rfl).elim
theorem JA(Z:List (κ×V))(k:κ)(v:V):(putK Z k v).length<=Z.length+1:=by
 unfold putK
 split
 .rw [ZA];omega
 .rw [ZJ,Zd,List.length_nil];omega
theorem Um{Z:List (κ×V)}(v:V)(h:VH Z k=none):putK Z k v=Z++[(k,v)]:=by
 unfold putK;rw[XO,h];exact Zo (by decide)
theorem UX.isSome_eq(r:UX o u):o.isSome=u.isSome:=by
 cases o with
 |none=>cases u with
  |none=>rfl
  |some _=>exact(show False from r).elim
 |some _=>cases u with
  |none=>exact(show False from r).elim
  |some _=>rfl
theorem UX.getD(r:UX o u)(Z:RelV d d'):RelV (o.getD d) (u.getD d'):=by
 cases o with
 |none=>cases u with
  |none=>exact Z
  |some _=>exact(show False from r).elim
 |some _=>cases u with
  |none=>exact(show False from r).elim
  |some _=>exact r
theorem KV.val(r:KV J L)(k:κ):UX (VH J k) (valueAt L k):=by
 unfold KV at r
 induction r with
 |nil=>exact True.intro
 | @cons p q N Z h t ih=>
  obtain⟨G,M⟩:=h
  by_cases e:p.1=k
  .have e':q.1=k:=G.symm.trans e
   have b:valueAt (q::Z) k=some q.2:=by simp[valueAt,zK,e']
   rw[JN e,b];exact M
  .have e':¬q.1=k:=λz=>e (G.trans z)
   have b:valueAt (q::Z) k=valueAt Z k:=by simp[valueAt,zK,e']
   rw[JO e,b];exact ih
theorem KV.any(r:KV Z G)(k:κ):(Z.any λJ=>decide (J.1=k))=G.any λJ=>decide (J.1=k):=by
 unfold KV at r
 induction r with
 |nil=>rfl
 |cons h t ih=>rw[vz,vz,ih,h.1]
theorem KV.repl(r:KV G L)(k:κ)(M:RelV y u):
  KV (G.map λZ=>if Z.1=k then(Z.1,y)else Z) (L.map λZ=>if Z.1=k then(Z.1,u)else Z):=by
 unfold KV at r |-
 induction r with
 |nil=>exact .nil
 | @cons p q R O h t ih=>
  rw[ZT,ZT];refine .cons ?_ ih;obtain⟨J,N⟩:=h
  by_cases e:p.1=k
  .rw [Zn e,Zn (J.symm.trans e)];exact⟨J,M⟩
  .rw [Zo e,Zo (λz=>e (J.trans z))];exact⟨J,N⟩
theorem KV.put(r:KV Z J)(k:κ)(G:RelV y u):KV (putK Z k y) (stored J k u):=by
 unfold putK stored;rw[r.any k]
 by_cases e:(J.any λL=>decide (L.1=k))=true
 .rw [Zn e,Zn e];exact r.repl k G
 .rw [Zo e,Zo e];exact Paired.snoc r ⟨rfl,G⟩
theorem KV.keys{Z:List (κ×V)}(r:KV Z J):Z.map (·.1)=J.map (·.1):=by
 unfold KV at r
 induction r with
 |nil=>rfl
 |cons h t ih=>rw[ZT,ZT,ih,h.1]
theorem KV.length(r:KV Z J):Z.length=J.length:=Paired.length r
end
theorem Gb(r:RelV (kV k) u):(VP P w).is k u=true:=by
 cases k with
 |inl i=>obtain⟨t,e⟩:=(show ∃t,u=Value.int i t from r);subst e;exact Nk P w i t
 |inr x=>obtain⟨t,e⟩:=(show ∃t,u=Value.str x t from r);subst e;exact Nj P w x t
theorem Rn:∀{Z:List Key}{J:kj},Vals (Z.map kV) J->ItemsAre (VP P w) Z J
 |[],_,r=>by rw[yH]at r;cases r;exact .nil
 |k::Z,_,r=>by
  rw[ZT]at r
  cases r with
  |cons h t=>exact .cons (Gb h) (Rn t)
abbrev KT(H:Hp):List (List Key×V)->List (List Key×Addr×Value)->Prop:=Paired λp q=>p.1=q.1/\H q.2.1=some (.tup (p.1.map kV))/\RelV p.2 q.2.2
theorem KT.val(r:KT H J L)(k:List Key):UX (VH J k) ((atKey L k).map (·.2)):=by
 induction r with
 |nil=>exact True.intro
 | @cons p q N Z h t ih=>
  obtain⟨G,_,M⟩:=h
  by_cases e:p.1=k
  .have e':q.1=k:=G.symm.trans e
   have b:atKey (q::Z) k=some q.2:=by simp[atKey,zK,e']
   rw[JN e,b];exact M
  .have e':¬q.1=k:=λz=>e (G.trans z)
   have b:atKey (q::Z) k=atKey Z k:=by simp[atKey,zK,e']
   rw[JO e,b];exact ih
theorem KT.repl(r:KT H J M)(k:List Key)(N:RelV y u):
  KT H (J.map λG=>if G.1=k then(G.1,y)else G) (M.map (putAt k u)):=by
 induction r with
 |nil=>exact .nil
 | @cons p q T R h t ih=>
  rw[ZT,ZT];refine .cons ?_ ih;obtain⟨Z,L,O⟩:=h;unfold putAt
  by_cases e:p.1=k
  .rw [Zn e,Zn (Z.symm.trans e)];exact⟨Z,L,N⟩
  .rw [Zo e,Zo (λz=>e (Z.trans z))];exact⟨Z,L,O⟩
theorem KT.put(r:KT H Z J)(k:List Key)(M:H b=some (.tup (k.map kV)))(G:RelV y u):
  KT H (putK Z k y) (storedH J k b u):=by
 have e:(Z.any λL=>decide (L.1=k))=(atKey J k).isSome:=by
  rw[XO,(r.val k).isSome_eq,jb]
 unfold putK storedH;rw[e]
 by_cases q:(atKey J k).isSome=true
 .rw [Zn q,Zn q];exact r.repl k G
 .rw [Zo q,Zo q];exact Paired.snoc r ⟨rfl,M,G⟩
theorem KT.keeps(r:KT H Z G)(L:∀b J,H b=some (.tup J)->M b=some (.tup J)):KT M Z G:=
 Paired.mapP r λ_ _ z=>⟨z.1,L _ _ z.2.1,z.2.2⟩
section
theorem QG(Z:HOk P w H h)(e:Rd H a u):VX P w H h a u:=e.ok Z
theorem Gc(G:HOk P w H h)(e:Rd H a (.dK Z)):Z.length<=sizeLine/\(a==sysModules)=false/\∃J,KV Z J/\h.DictOf (VP P w) a J:=
 show VX P w H h a (.dK Z)from QG G e
theorem QX(G:HOk P w H h)(e:H a=some (.dK Z)):Z.length<=sizeLine/\(a==sysModules)=false/\∃J,KV Z J/\h.DictOf (VP P w) a J:=Gc G (.inl e)
theorem W0(G:HOk P w H h)(e:H a=some (.tup (J.map kV))):(tupleKind (VP P w)).is h J a:=by
 obtain⟨_,Z,r,o,N,_,M,n,L⟩:=(show VX P w H h a (.tup (J.map kV))from G a _ e);exact⟨o,Z.toArray,n,N,M,L,by simpa using Rn r⟩
theorem RJ(M:HOk P w H h)(e:Rd H a (.dT Z)):Z.length<=sizeLine/\(a==sysModules)=false/\
  ∃G,KT H Z G/\h.DictOfH (tupleKind (VP P w)) a G:=by
 obtain⟨z,y,G,r,o,E,F,D,B,T,R,O⟩:=(show VX P w H h a (.dT Z)from QG M e);refine⟨z,y,G,r,o,E,F,D,B,T,R,λx J=>?_,O⟩
 have L:∀{l:List (List Key×V)}{m:List (List Key×Addr×Value)},KT H l m->∀x∈m,(tupleKind (VP P w)).is h x.1 x.2.1:=by
  intro l m q
  induction q with
  |nil=>intro x J;exact nomatch J
  | @cons p q I A N t ih=>
   intro x J;rcases Zb.mp J with e|J
   .subst e
    exact W0 M (by rw[<-N.1];exact N.2.1)
   .exact ih x J
 exact L r x J
theorem CL(G:HOk P w H h)(e:H a=some (.dT Z)):Z.length<=sizeLine/\(a==sysModules)=false/\
  ∃J,KT H Z J/\h.DictOfH (tupleKind (VP P w)) a J:=RJ G (.inl e)
end
def Vx(H:Hp)(a:Addr)(y:V)(r:kJ):Prop:=
 (∃Z k,Rd H a (.dK Z)/\y=kV k/\r=VH Z k) \/ ∃Z k b,Rd H a (.dT Z)/\y=.ref b/\H b=some (.tup (k.map kV))/\r=VH Z k
def Uk(H:Hp)(a:Addr)(y v:V)(H':Hp):Prop:=
 (∃Z k,H a=some (.dK Z)/\y=kV k/\Z.length<sizeLine/\H'=upd H a (.dK (putK Z k v))) \/
 ∃Z k b,H a=some (.dT Z)/\y=.ref b/\H b=some (.tup (k.map kV))/\Z.length<sizeLine/\H'=upd H a (.dT (putK Z k v))
theorem Vx.k{k:Key}(e:H a=some (.dK Z)):Vx H a (kV k) (VH Z k):=.inl ⟨Z,k,.inl e,rfl,rfl⟩
theorem Vx.t{k:List Key}(e:H a=some (.dT Z))(J:H b=some (.tup (k.map kV))):Vx H a (.ref b) (VH Z k):=.inr ⟨Z,k,b,.inl e,rfl,J,rfl⟩
theorem Uk.k{k:Key}(e:H a=some (.dK Z))(J:Z.length<sizeLine):Uk H a (kV k) v (upd H a (.dK (putK Z k v))):=.inl ⟨Z,k,e,rfl,J,rfl⟩
theorem Uk.t{k:List Key}(e:H a=some (.dT Z))(G:H b=some (.tup (k.map kV)))(J:Z.length<sizeLine):
  Uk H a (.ref b) v (upd H a (.dT (putK Z k v))):=.inr ⟨Z,k,b,e,rfl,G,J,rfl⟩
section
theorem Inv.big(I:Inv X Z U H s):sysModules<s.heap.objs.size:=by
 have h:mainGlobals<s.heap.objs.size:=(I.mod.glob.keeps I.bk).lt;exact Nat.lt_trans (by decide) h
theorem Fu(C:A.units+1<cLine)(I:Inv X L U H s)(g:Vx H a y (some v))(D:RelV y u)(h:∀G B,Inv X L U H B->RelV v G->Q G B):
  wpAny (model X.prog X.w) A (getItem (.ref a) u) Q E s:=by
 rcases g with⟨M,k,e,R,l⟩|⟨M,k,b,e,R,q,l⟩
 .subst R
  obtain⟨z,j,S,J,T⟩:=Gc I.hok e;obtain⟨G,N,Z⟩:=UX.some_of (v:=v) (o:=valueAt S k) (by rw[l];exact J.val k);exact wpAny_getItem_of (Gb D) T.mapOf N (h G _ (I.tok _) Z)
 .subst R
  cases(show u=Value.ref b from D);obtain⟨z,j,F,J,T⟩:=RJ I.hok e;obtain⟨G,N,Z⟩:=UX.some_of (v:=v) (o:=(atKey F k).map (·.2)) (by rw[l];exact J.val k);obtain⟨p,P,O⟩:=Zh.mp N;refine wpAny_getItem_heap (yS C) (W0 I.hok q) T P ?_;rw[O];exact h G _ (I.tok _) Z
theorem zC(T:A.units+1<cLine)(I:Inv X J U H s)(g:Vx H a y o)(R:RelV y u)(h:∀O,Inv X J U H O->Q (.bool o.isSome) O):
  wpAny (model X.prog X.w) A (compareOp .In u (.ref a)) Q E s:=by
 rcases g with⟨G,k,e,M,l⟩|⟨G,k,b,e,M,B,l⟩
 .subst M
  obtain⟨z,L,F,Z,N⟩:=Gc I.hok e;refine wpAny_in_of (Gb R) L N.mapOf ?_;rw[<-(Z.val k).isSome_eq,<-l];exact h _ (I.tok _)
 .subst M
  cases(show u=Value.ref b from R);obtain⟨z,L,D,Z,N⟩:=RJ I.hok e;refine wpAny_in_heap (yS T) (W0 I.hok B) L N ?_;have q:=(Z.val k).isSome_eq;rw[jb]at q;rw[<-q,<-l];exact h _ (I.tok _)
theorem Pu(T:A.units+1<cLine)(I:Inv X J U H s)(g:Vx H a y o)(R:RelV y u)(h:∀O,Inv X J U H O->Q (.bool (!o.isSome)) O):
  wpAny (model X.prog X.w) A (compareOp .NotIn u (.ref a)) Q E s:=by
 rcases g with⟨G,k,e,M,l⟩|⟨G,k,b,e,M,B,l⟩
 .subst M
  obtain⟨z,L,F,Z,N⟩:=Gc I.hok e;refine wpAny_notIn_of (Gb R) L N.mapOf ?_;rw[<-(Z.val k).isSome_eq,<-l];exact h _ (I.tok _)
 .subst M
  cases(show u=Value.ref b from R);obtain⟨z,L,D,Z,N⟩:=RJ I.hok e;refine wpAny_notIn_heap (yS T) (W0 I.hok B) L N ?_;have q:=(Z.val k).isSome_eq;rw[jb]at q;rw[<-q,<-l];exact h _ (I.tok _)
theorem Em(I:Inv X Z U H s)(L:Mut (H a))(M:Heap.SameBut a s.heap G)(N:∃q,G.get? a=some q)(J:VX X.prog X.w (upd H a ob) G a ob):
  Inv X Z U (upd H a ob) {s with heap:=G,toks:=R}:=
 I.write (x:=a) (e:=a) L (.inl rfl) (λb q O z=>(M.2 b O).trans z) N J
theorem Dn(z:Z.length<=sizeLine)(L:(a==sysModules)=false)(J:KV Z G)(N:M.DictOf (VP P w) a G):
  VX P w O M a (.dK Z):=⟨z,L,G,J,N⟩
theorem Ft(f:A.units+1<cLine)(I:Inv X L U H s)(g:Uk H a y v H')(C:RelV y u)(P:RelV v r)(h:∀S,Inv X L U H' S->Q () S):
  wpAny (model X.prog X.w) A (setItem (.ref a) u r) Q E s:=by
 rcases g with⟨J,k,e,B,l,D⟩|⟨J,k,b,e,B,m,l,D⟩
 .subst B D
  obtain⟨z,T,d,Z,F⟩:=QX I.hok e;have N:d.length<=sizeLine:=by rw[<-Z.length];exact z
  have R:(putK J k v).length<=sizeLine:=by have:=JA J k v;omega
  refine wpAny_setItem_pairs (hsz:=N) (Gb C) F λj G O=>h _ ?_;have w:∃q,j.get? a=some q:=let⟨q,_,_,M,_⟩:=G;⟨q,M⟩
  exact Em I (by rw[e];exact True.intro) O w (Dn R T (Z.put k P) G)
 .subst B D
  cases(show u=Value.ref b from C);obtain⟨z,T,p,Z,F⟩:=CL I.hok e;have N:p.length<=sizeLine:=by rw[<-Paired.length Z];exact z
  have R:(putK J k v).length<=sizeLine:=by have:=JA J k v;omega
  refine wpAny_setItem_heap (hsz:=N) (yS f) (W0 I.hok m) F λj G O=>h _ ?_;obtain⟨q,es,ep,M,x,n,i,_,o⟩:=G;refine Em I (by rw[e];exact True.intro) O ⟨q,M⟩ ⟨R,T,_,(Z.put k m P).keeps λc ys t=>?_,q,es,ep,M,x,n,i,o⟩;rw[Yd (JR t e (λz=>nomatch z))];exact t
end
def AH(i:Expr):Prop:=∀Z J,subscripted i false Z J=operate [Z,J] (getItem Z J)
theorem D6{T B:String}(F:typeLookup (.type T) "__getitem__"=pure (some (.builtin B)))(D:AH slice)(h:wpAny (model prog w) A (eval value env) (λo L=>wpAny (model prog w) A (eval slice env) (λi Z=>Z.TypeIs o T/\wpAny (model prog w) A (getItem o i) Q E Z) E L) E s):
  wpAny (model prog w) A (eval (.Subscript value slice pos) env) Q E s:=by
 refine Subscript_ (Zl h (λo L O=>Zl O (λi Z J=>?_) λ_ _ x=>x) λ_ _ x=>x);obtain⟨R,J⟩:=J;unfold subscriptTail;refine Zj ?_;rw[getitemInPython_of_ne R.not_modules];refine Zj (wpAny_specialOf R F ?_)
 have M:wpAny (model prog w) A (subscripted slice false o i) (λr G=>wpAny (model prog w) A (letTemporaryGo value o r >>=λ_=>pure r) Q E G) E Z:=by
  rw[D o i];exact wpAny_operating (Zl J (λr G N=>Zj (wpAny_letTemporaryGo (Zk N))) λ_ _ x=>x)
 first
  |exact Zk (Zj M)
  |exact Zj (Zk (Zj M))
  |exact Zj M
theorem N4(I:Inv X J U H s)(g:Vx H a y o):s.TypeIs (.ref a) "dict":=by
 rcases g with⟨Z,k,e,_,_⟩|⟨Z,k,b,e,_,_,_⟩
 .obtain ⟨_,_,vs,_,dd⟩:=Gc I.hok e
  exact dd.typeIs
 .obtain ⟨_,_,xs,_,dd⟩:=RJ I.hok e
  exact dd.typeIs
def QC(td ty:TE):TE:=λU H Q=>td U H λx J=>ty U J λy Z=>Jj x λa=>∃v,Vx Z a y (some v)/\Q v Z
def Cb(ty td:TE):TE:=λU H Q=>ty U H λy J=>td U J λx Z=>Jj x λa=>∃o,Vx Z a y o/\Q (.bl o.isSome) Z
def OL(ty td:TE):TE:=λU H Q=>ty U H λy J=>td U J λx Z=>Jj x λa=>∃o,Vx Z a y o/\Q (.bl (!o.isSome)) Z
def AU(td ty tv:TE):TS:=λD U H=>tv U H λv L=>td U L λx G=>ty U G λy J=>Jj x λa=>∃Z,Uk J a y v Z/\D.nx U Z
section
theorem JM(T:X.A.units+1<cLine)(D:PE X o td)(E:PE X i ty)(B:AH i):PE X (.Subscript o i pos) (QC td ty):=by
 intro Z s U H Q I h;refine D6 PySem.F.slot_dict_getitem.lookup B (thn (D Z s U H _ I h) λu M ⟨x,P,S,O,R⟩=>thn (E Z M U P _ S R) λt q ⟨y,C,L,N,J⟩=>?_);replace J:=Jj.old J;obtain⟨a,F,v,g,J⟩:=J;subst F;obtain rfl:u=Value.ref a:=O;exact⟨N4 L g,Fu T L g N λj z A G=>⟨v,C,A,G,J⟩⟩
theorem X4(R:X.A.units+1<cLine)(B:PE X i ty)(T:PE X o td):PC X .In i o (Cb ty td):=by
 intro Z s U H Q I h;refine thn (B Z s U H _ I h) λz G ⟨y,C,A,L,N⟩=>thn (T Z G U C _ A N) λu j ⟨x,S,F,M,J⟩=>?_;replace J:=Jj.old J;obtain⟨a,D,O,g,J⟩:=J;subst D;obtain rfl:u=Value.ref a:=M;exact zC R F g L λP E=>⟨.bl O.isSome,S,E,rfl,J⟩
theorem Up(R:X.A.units+1<cLine)(B:PE X i ty)(T:PE X o td):PC X .NotIn i o (OL ty td):=by
 intro Z s U H Q I h;refine thn (B Z s U H _ I h) λz G ⟨y,C,A,L,N⟩=>thn (T Z G U C _ A N) λu j ⟨x,S,F,M,J⟩=>?_;replace J:=Jj.old J;obtain⟨a,D,O,g,J⟩:=J;subst D;obtain rfl:u=Value.ref a:=M;exact Pu R F g L λP E=>⟨.bl (!O.isSome),S,E,rfl,J⟩
theorem JK(E:X.A.units+1<cLine)(A:PE X o td)(S:PE X i ty)(B:PE X value tv)(F:swapsWith value (some (.Subscript o i pos')) pos.line X.env=pure false):
  PS X (.Assign [.Subscript o i pos'] value pos) (AU td ty tv):=by
 intro Z s U H D I h;refine wpAny_Assign_Subscript (thn (B Z s U H _ I h) λr L ⟨v,m,z,O,T⟩=>thn (A Z L U m _ z T) λu G ⟨x,t,j,N,R⟩=>thn (S Z G U t _ j R) λc p ⟨y,d,Q,M,J⟩=>?_) F;replace J:=Jj.old J;obtain⟨a,C,q,g,J⟩:=J;subst C;obtain rfl:u=Value.ref a:=N;exact Ft E Q g M O λk P=>⟨U,q,P,J⟩
end
theorem Ls(h:Heap)(Z:sysModules<h.objs.size):VX P w H (h.push {cls:=.type "dict",data:=.dict #[]}) h.objs.size (.dK []):=
 ⟨Za _,beq_eq_false_iff_ne.mpr (Zq (Zc Z)),[],.nil,Heap.DictOf.new h⟩
theorem Lp(h:Heap)(Z:sysModules<h.objs.size):VX P w H (h.push {cls:=.type "dict",data:=.dict #[]}) h.objs.size (.dT []):=
 ⟨Za _,beq_eq_false_iff_ne.mpr (Zq (Zc Z)),[],.nil,_,#[],0,ZW _ rfl,⟨rfl,rfl,rfl⟩,rfl,rfl,List.nodup_nil⟩
def Qo:TE:=λ_ H Q=>∀p,H p=none->Q (.ref p) (upd H p (.dK []))
def Qn:TE:=λ_ H Q=>∀p,H p=none->Q (.ref p) (upd H p (.dT []))
section
theorem JQ:PE X (.Dict [] [] pos) Qo:=λZ s U H Q I h=>
 wpAny_Dict_empty ⟨.ref s.heap.objs.size,_,I.laid (a:=s.heap.objs.size) (o:=.dK []) (t':=s.toks) (λ_ _ q=>ZD _ q) (ZF _) (Ls s.heap I.big),rfl,h _ (I.hok.fresh (ZF _))⟩
theorem Km:PE X (.Dict [] [] pos) Qn:=λZ s U H Q I h=>
 wpAny_Dict_empty ⟨.ref s.heap.objs.size,_,I.laid (a:=s.heap.objs.size) (o:=.dT []) (t':=s.toks) (λ_ _ q=>ZD _ q) (ZF _) (Lp s.heap I.big),rfl,h _ (I.hok.fresh (ZF _))⟩
end
structure M1(X:Cx)(o:Expr)(m:Str)(apos:Pos)(e:Expr)(cpos:Pos):Prop where
 base:attributeBase o m X.env (eval o X.env)=eval o X.env
 few:((backTo cpos (starEach [e] X.env)).all (λx=>!x.1) && (backToKw cpos (keywordEach [] X.env)).all (λx=>x.1.isSome)
  && decide (([e]:List Expr).length+([]:List Keyword).length+(if([]:List Keyword).isEmpty then 0 else 1)<30))=true
 line:(apos.endLine==cpos.line)=true
 trees:backTo cpos (starEach [e] X.env)=[(false,eval e X.env)]
def IsD(H:Hp)(a:Addr):Prop:=(∃Z,Rd H a (.dK Z)) \/ ∃Z,Rd H a (.dT Z)
theorem Sv(I:Inv X M U H s)(d:IsD H a):
  s.TypeIs (.ref a) "dict" /\(∀b,Value.ref a=.ref b->∃Z,s.heap.get? b=some Z/\Z.dict=none)/\(a==sysModules)=false:=by
 rcases d with⟨J,e⟩|⟨J,e⟩
 .obtain ⟨_,hd,vs,_,dd⟩:=Gc I.hok e
  refine⟨dd.typeIs,λb q=>?_,hd⟩;cases q;obtain⟨Z,_,_,L,G,_⟩:=dd;exact⟨Z,L,G.2.1⟩
 .obtain ⟨_,hd,xs,_,dd⟩:=RJ I.hok e
  refine⟨dd.typeIs,λb q=>?_,hd⟩;cases q;obtain⟨Z,_,_,L,G,_⟩:=dd;exact⟨Z,L,G.2.1⟩
section
theorem AC(D:A.units+1<cLine)(I:Inv X J U H s)(g:Vx H a y o)(T:RelV y u)(h:∀O R,Inv X J U H R->RelV (o.getD .non) O->Q O R):
  wpAny (model X.prog X.w) A (call (.builtin "dict.get") [.ref a,u]) Q E s:=by
 rcases g with⟨L,k,e,N,l⟩|⟨L,k,b,e,N,F,l⟩
 .subst N
  obtain⟨z,M,S,Z,G⟩:=Gc I.hok e;refine call_meetsIn vO G.typeIs PySem.F.entry_dict_get (PySem.F.args_dict_get_2 _ _) (meets_dict_get (VP X.prog X.w) a (Gb T) M) ⟨_,G.mapOf,h _ _ (I.tok _) ?_⟩;rw[l];exact(Z.val k).getD rfl
 .subst N
  cases(show u=Value.ref b from T);obtain⟨z,M,B,Z,G⟩:=RJ I.hok e;refine call_meetsIn vO G.typeIs PySem.F.entry_dict_get (PySem.F.args_dict_get_2 _ _) (meetsH_dict_get (tupleKind (VP X.prog X.w)) a b M) ⟨yS D,k,B,W0 I.hok F,G,h _ _ (I.tok _) ?_⟩;rw[l];exact(Z.val k).getD rfl
end
def Qp(td ty:TE):TE:=λU H Q=>td U H λx J=>Jj x λa=>IsD J a/\ty U J λy Z=>∃o,Vx Z a y o/\Q (o.getD .non) Z
section
theorem Tp(D:X.A.units+1<cLine)(E:PE X o td)(F:PE X e ty)(m:M1 X o "get" apos e cpos):PE X (.Call (.Attribute o "get" apos) [e] [] cpos) (Qp td ty):=by
 intro Z s U H Q I h;refine wpAny_Call_method m.base m.few m.line PySem.F.plainAttrs_dict vO PySem.F.type_dict_get (thn (E Z s U H _ I h) λu O ⟨x,j,L,T,J⟩=>?_);replace J:=Jj.old J;obtain⟨a,A,d,J⟩:=J;subst A;obtain rfl:u=Value.ref a:=T;obtain⟨N,M,_⟩:=Sv L d;refine⟨N,M,?_⟩;rw[m.trees];refine Calls.callWith_builtin rfl (Calls.evalArgs_plain (Calls.spliced_cons (thn (F Z O U j _ L J) λp t ⟨y,P,C,R,k,g,B⟩=>Calls.spliced_nil ?_)));exact AC D C g R λz q S G=>⟨_,P,S,G,B⟩
end
end L2
namespace Att
open PySem PySem.W PySem.Calls PyProof.Rows
theorem Gg:∀(Z:List Int)(J:List Value),WellAll P h J (Z.map WData.int)->IntsAre J Z:=by
 intro Z
 induction Z with
 |nil=>
  intro J w;rw[yH]at w;cases w;exact .nil
 |cons n Z ih=>
  intro J w;rw[ZT]at w
  cases w with
  |cons a b=>
   cases a;exact .cons _ _ (ih _ b)
theorem FD{l:OpenLaw}(I:l.most=some n)(J:l.row.toRowW.claim.pre args=true)(O:WellAll P h vals args):
  ∃a T Z,vals=[Value.ref a]/\args=[WData.list (Z.map WData.int)]/\h.get? a=some {cls:=.type "list",data:=.seq T.toArray}/\IntsAre T Z/\Z.length<=n:=by
 have R:WShape.hasAll [] args [.list .int]=true:=(pre_splitW J).1;have B:l.pre.holds [] {args:=args}=true:=(pre_splitW J).2;obtain⟨d,r,rfl,C,U⟩:=hasAllW_cons R;obtain rfl:=hasAllW_nil U;obtain⟨X,rfl,S⟩:=hasW_list C;obtain⟨Z,rfl⟩:=items_int S
 have G:Z.length<=n:=by
  unfold OpenLaw.pre at B
  have N:(WTm.not (.lt (.lit (.int (n:Int))) (.len (.arg 0)))).holds [] {args:=[.list (Z.map .int)]}=true:=by
   have N:=(holds_andW B).1;rw[I]at N;exact N
  have M:=condW_of N (w_not (w_lt w_lit (w_len_list (w_arg rfl))));rw[ZA]at M;refine yU λq=>?_;have F:(n:Int)<((Z.length:Nat):Int):=by omega
  first
   |(rw[decide_eq_true F]at M;exact Zp M (by decide))
   |(simp at M;omega)
 cases O with
 |cons E D=>
  cases D
  cases E with
  |list A L=>exact⟨_,_,Z,rfl,rfl,A,Gg Z _ L,G⟩
theorem FL(l:OpenLaw)(args:List WData):l.row.toRowW.claim.post args (.bool true) args=true:=
 postW_of (r:=l.row.toRowW) (X:=(true==true))
  (show WShape.has [] (.bool true) .bool=true by first|rfl|decide|simp[WShape.has,WShape.arms,WShape.armsAll])
  (show(WTm.eq .res (.lit (.bool true))).value [] {args:=args,res:=some (.bool true),after:=args}=some (.bool (true==true))from w_eq_bool (w_res rfl) w_lit) rfl
theorem attach_call{l:OpenLaw}(g:l.most=some n)(X:d.params.defaults=[])(call:∀(w:World)(J Z:Shared)(F S:Str->Option Value)(B:Addr)(o:Obj)(I A M:Value)(a:Addr)(N:List Value)(E:List Int),
   Ground q loose [] XP w J F S Z.heap->YP w Z.heap->
   Z.heap.get? B=some o->o.data=.func (docDef d.name d.params d.body d.scope I A M)->Z.heap.CodeRec A d.name->F d.name=some (.ref B)->
   Z.heap.get? a=some {cls:=.type "list",data:=.seq N.toArray}->IntsAre N E->E.length<=n->Z.gens= #[]->
   codeAny (model l.prog w) callerA (.call (.ref B) ⟨[.ref a],[]⟩) (λr D=>r=.ok (.ret (.bool true))/\OldK Z.heap D.heap/\D.os=Z.os/\AllBare D.gens) Z):
  WalkO q loose XP YP l.row.toRowW d [] (λf N=>PySem.call f N):=by
 intro w J Z F S G Y B o I A M i kV m u P y C c args Q s O j z U p;obtain rfl:i=.none:=Dflts.none y X;obtain rfl:kV=.none:=Dflts.noKw y;obtain⟨a,N,E,rfl,rfl,R,L,T⟩:=FD g O U;refine enter_call (yX (call w J Z F S B o I A M a N E G Y m (fd_plain u) P C R L T c) λr D t=>?_);obtain⟨rfl,e,b,v⟩:=t;exact⟨.inl ⟨.bool true,.bool true,[],rfl,λ_=>rfl,.bool true,FL l _,λ_=>⟨List.Pairwise.nil,λ_ k=>(nomatch k)⟩⟩,e,b,v⟩
end Att
namespace L2
open PySem PySem.Spec PyProof.Rows
theorem Re:∀{Z:kj}{J:kz},IntsAre Z J->Vals (J.map V.int) Z
 |_,_,.nil=>.nil
 |_,_,.cons n t h=>.cons ⟨t,rfl⟩ (Re h)
def AG(H:Hp):Prop:=∀b,H b=none \/ ∃o Z,H b=some (.frz o (.lst Z))
theorem LI{K:W.Frag}(KX:K.In s₁.heap)(D:s₁.heap.Ns mainGlobals C)(J:s₁.heap.Ns builtinsNs mb)(y:∀x:Str,x≠"__name__" ->mb x=bootBuiltins x)(E:s₁.heap.NoLimit)(hg:s₁.gens= #[])(X:s₁.heap.get? a=some {cls:=.type "list",data:=.seq N.toArray})(l:IntsAre N U)(f:U.length<=sizeLine)(hr:Vk k callerA)(F:∀base:Heap,K.In base->base.Ns mainGlobals C->Yk P w K C base CX k fa fd [x] sp)(M:∀(s:Shared)(u:Value),BindsTo s fd ⟨[u],[]⟩ [(x,u)])(j:∀H:Hp,AG H->SqL K H a (U.map V.int)->sp [.ref a] H (λv _=>v=.bl true) λ_ _ _=>False)(t:∀H e G,CX [] H s₁ (λ_ _ _=>False) e G->False):
  codeAny (model P w) callerA (.call (.ref fa) ⟨[.ref a],[]⟩) (λr G=>r=.ok (.ret (.bool true))/\OldK s₁.heap G.heap/\G.os=s₁.os/\AllBare G.gens) s₁:=by
 have c:=Re l;have R:=l.length;have core:∀H:Hp,AG H->SqL K H a (U.map V.int)->HOk P w H s₁.heap->(∀b,H b≠none->b=a)->(H a≠none->K.lookup a=none)->
   codeAny (model P w) callerA (.call (.ref fa) ⟨[.ref a],[]⟩) (λr G=>r=.ok (.ret (.bool true))/\OldK s₁.heap G.heap/\G.os=s₁.os/\AllBare G.gens) s₁:=by
  intro H i hS B hA hK;have Z:∀{b:Addr}{o:Obj},s₁.heap.get? b=some o->H b=none->(M4 s₁.heap H).get? b=some o:=λe n=>LX e n
  have Q:∀{b:Addr}{o:Obj}{I:Array DictEntry}{S:Nat},s₁.heap.get? b=some o->o.data=.dict I S->H b=none:=λ{b o I S} e d=>by
   cases q:H b with
   |none=>rfl
   |some u=>
    have g:b=a:=hA b (by rw[q];simp);subst g;rw[X]at e;cases e;have d':Data.seq N.toArray _=Data.dict I S:=d;cases d'
  have L:∀{b:Addr}{m:Str->Option Value},s₁.heap.Ns b m->(M4 s₁.heap H).Ns b m:=λ{b m} ⟨o,I,S,e,d,r⟩=>⟨o,I,S,Z e (Q e d),d,r⟩
  have A:K.In (M4 s₁.heap H):=λb o e=>Z (KX b o e) (by
   cases q:H b with
   |none=>rfl
   |some u=>
    have g:b=a:=hA b (by rw[q];simp);subst g;rw[hK (by rw[q];simp)]at e;cases e)
  have hM:Mod K C (M4 s₁.heap H):=⟨A,L D,⟨mb,L J,y⟩,let⟨mc,h1,h2⟩:=E;⟨mc,L h1,h2⟩⟩;have e0:Dw P w K C (M4 s₁.heap H) callerA [] s₁ H:=⟨rfl,hM,λb o e=>PM e,yq (Fg _ _),trivial,λb J=>Zp (show b∈([]:kA)from J) (by simp),B,.of_eq hg⟩;refine yX ((F _ A (L D)).run callerA [] s₁ H ⟨[.ref a],[]⟩ [.ref a] [.ref a] _ _ hr e0 (M s₁ (.ref a)) (.cons rfl .nil) (j H i hS)) λr G h=>?_
  cases r with
  |error e=>exact(t H e G h).elim
  |ok fl=>
   cases fl with
   |next=>exact False.elim h
   |brk=>exact False.elim h
   |cont=>exact False.elim h
   |ret u=>
    obtain⟨v,H',os,bare,p,T,r',q⟩:=h;have q':v=.bl true:=q;subst q';obtain rfl:u=Value.bool true:=r';refine⟨rfl,OldK.of_keep λb o e=>?_,os,bare⟩
    cases q:H b with
    |none=>exact p.keep b o e q (by intro z;exact Zp (show b∈([]:kA)from z) (by simp)) (by simp)
    |some u=>
     rcases i b with z|⟨ob,xs,z⟩
     .rw [q]at z;cases z
     .have z2:=p.frzs b ob _ z
      obtain⟨e1,_⟩:=B b _ z;obtain⟨e2,_⟩:=T b _ z2;rw[e]at e1;cases e1;exact e2
 cases hk:K.lookup a with
 |some o=>
  have e:=KX a o hk;rw[X]at e;cases e;refine core (λ_=>none) (λ_=>.inl rfl) (.inr ⟨_,N.toArray,_,hk,rfl,rfl,rfl,by rw[ZM,R];exact f,by simpa using c⟩) (λb u z=>by have O:(none:Option HO)=some u:=z;cases O) (λb z=>Zp rfl z) λz=>Zp rfl z
 |none=>
  refine core (λb=>if b=a then some (.frz {cls:=.type "list",data:=.seq N.toArray} (.lst (U.map V.int)))else none) (λb=>?_) (.inl (.inr ⟨{cls:=.type "list",data:=.seq N.toArray},Zn rfl⟩)) (λb u z=>?_) (λb z=>?_) λ_=>hk
  .by_cases J:b=a
   .exact .inr ⟨_,_,Zn J⟩
   .exact .inl (Zo J)
  .by_cases J:b=a
   .have O:=(Zn J).symm.trans z
    cases O;subst J;exact⟨X,by rw[ZA];exact f,N,_,c,X⟩
   .have O:=(Zo J).symm.trans z
    cases O
  .by_cases J:b=a
   .exact J
   .exact Zp (Zo J) z
theorem walk_of{l:W.OpenLaw}{K:Params->W.Frag}{CX:World->CXT}{sp:World->Sp}(Q:l.most=some n)(D:n<=sizeLine)(A:d.params.defaults=[])(P:Vk k callerA)(t:∀(w:World)(h:Heap),YP w h->(K w.params).In h)(F:∀(w:World)(L:Str->Option Value)(R:Addr)(h:Heap),(K w.params).In h->h.Ns mainGlobals L->L d.name=some (.ref R)->
   ∃S:FuncData,(∀(s:Shared)(u:Value),BindsTo s S ⟨[u],[]⟩ [(x,u)])/\
    ∀base:Heap,(K w.params).In base->base.Ns mainGlobals L->Yk l.prog w (K w.params) L base (CX w) k R S [x] (sp w))(B:∀(w:World)(H:Hp)(a:Addr)(O:kz),O.length<=n->AG H->SqL (K w.params) H a (O.map V.int)->sp w [.ref a] H (λv _=>v=.bl true) λ_ _ _=>False)(I:∀(w:World)(H:Hp)(s:Shared)(e:Value)(T:Shared),CX w [] H s (λ_ _ _=>False) e T->False):
  W.WalkO q loose XP YP l.row.toRowW d [] (λf U=>PySem.call f U):=by
 refine Att.attach_call Q A λw C M L b R o r cd c a U O G Y i hd y E N J Z j=>?_;have X:=t w _ Y;obtain⟨S,z,p⟩:=F w L R _ X G.T.g E;exact LI X G.T.g G.T.b G.T.builtins G.T.nolimit j N J (ZZ Z D) P p z (λH g m=>B w H a O Z g m) λH e T=>I w H M e T
def inClass(s:Stmt)(j:Nat):Stmt:=match s with
 |.ClassDef _ _ _ body _ _ _ _ _ _ _=>body.getD j (.Pass ⟨0,0,0,0⟩)
 |_=>.Pass ⟨0,0,0,0⟩
def Ud(s:Stmt):Arguments:=match s with
 |.FunctionDef _ a _ _ _ _ _ _ _ _=>a
 |_=>{posonlyargs:=[],args:=[],vararg:=none,kwonlyargs:=[],kw_defaults:=[],kwarg:=none,defaults:=[]}
def JW(s:Stmt):List Stmt:=match s with
 |.FunctionDef _ _ b _ _ _ _ _ _ _=>b
 |_=>[]
def Yc(s:Stmt):Scope:=match s with
 |.FunctionDef _ _ _ _ _ _ sc _ _ _=>sc
 |_=>{kind:=.function,names:=[],isGenerator:=false,isCoroutine:=false}
abbrev CX0:CXT:=λ_ _ _ _ _ _=>False
abbrev E0:XK:=λ_ _ _=>False
theorem VI:UV CX0 X E0:=λ_ _ _ _ _ _ _ h=>h.elim
structure Fun(K:W.Frag)(x qual:Str)(st:Stmt)(f:Addr)(fd:FuncData):Prop where
 ex:∃(oc:Value)(od:Option Addr)(kV doc pm:Value)(an:Option Addr)(cdv ct:Value)(osl:Array (Option Value)),
  fd=W.fnOf x qual (Ud st) (JW st) (Yc st) .none kV doc pm an cdv ct/\K.lookup f=some ⟨oc,od,.func fd,osl⟩/\W.codeIn K cdv qual=true
 kp:W.keepIn K (.ref f)=true
section
variable{K:W.Frag}
theorem Fun.ok{M:Stmt}(F:Fun K x qual M f j)(S:Yo N D (Yc M))(O:∀G H Q E,B G H Q E->G.length=D.length)(L:∀(J:Value)(A:Around)(Z:List Env)(s:Shared)(H:Hp)(G:kF)(Q:VK)(E:XK),Vk k (A.deeper (envOfC qual (Yc M) s.heap.objs.size f J))->B G H Q E->
   ∃t,PSs (Vl CX0 P w K U base N qual (Yc M) f J A Z s H E).nox (JW M) t/\t {nx:=λ_ z=>Q .non z,rt:=Q} (start N G) H):Yk P w K U base CX0 (k+1) f j D B:=by
 obtain⟨p,g,kV,y,m,d,J,c,I,rfl,C,T⟩:=F.ex;refine QW C T S O λA Z s H G Q E X R=>?_;obtain⟨t,h,q⟩:=L J A Z s H G Q E X R;exact⟨t,h.nox,q⟩
theorem Fun.oq{L:Stmt}(F:Fun K x qual L f D)(S:Yo N T (Yc L))(J:∀(M:Value)(A:Around)(Z:List Env)(s:Shared)(H:Hp)(G:kF)(Q:VK)(E:XK),Vk k (A.deeper (envOfC qual (Yc L) s.heap.objs.size f M))->R G H Q E->
   ∃t,PSs (Vl CX0 P w K B base N qual (Yc L) f M A Z s H E).nox (JW L) t/\t {nx:=λ_ I=>Q .non I,rt:=Q} (start N G) H)(O:∀G H Q E,R G H Q E->G.length=T.length:=by intro G H Q E h;repeat (obtain⟨e,h⟩:=h;first|(subst e;exact rfl)|skip)):Yk P w K B base CX0 (k+1) f D T R:=F.ok S O J
theorem Fun.binds{G:Stmt}(F:Fun K x qual G f D)(h:∀(kV Z M:Value)(O:kB)(J N:Value)(L:kj),L.length=R.length->bindArgs (W.fnOf x qual (Ud G) (JW G) (Yc G) .none kV Z M O J N) ⟨L,[]⟩=pure (R.zip L)):Binds K D R []:=by
 obtain⟨A,E,kV,Z,M,O,J,N,T,rfl,I,B⟩:=F.ex;exact .all (h kV Z M O J N)
theorem Lj{st:Stmt}{kV J G Z L:Value}(l:K.lookup f=some ⟨oc,od,.func (W.fnOf x qual (Ud st) (JW st) (Yc st) .none kV J G an Z L),osl⟩)(c:W.codeIn K Z qual=true)(k:W.keepIn K (.ref f)=true):Fun K x qual st f (W.fnOf x qual (Ud st) (JW st) (Yc st) .none kV J G an Z L):=⟨⟨oc,od,kV,J,G,an,Z,L,osl,rfl,l,c⟩,k⟩
end
theorem Jl(Z:Vk k A):A.units+1<cLine:=v7 (Nat.add_le_add_left (by decide:1<=64) _) Z.units
theorem Yp(h:n<=1000):n<sizeLine:=v7 h (by decide)
section
theorem pv(i:Nat)(L:X.N[i]?=some x:=by rfl)(J:Vis X.env.scope x:=by first|exact Or.inl rfl|exact Or.inr (Or.inl rfl)|exact Or.inr (Or.inr rfl))(G:(x==("__debug__":Str))=false:=by decide)(Z:(x==("__classdict__":Str))=false:=by decide):PE X (.Name x pos) (MH i):=SH L J G Z
end
theorem Jn{c A B:Prop}[Decidable c](J:c->A)(Z:¬c->B):if c then A else B:=by
 by_cases h:c
 .rw [Zn h]
  exact J h
 .rw [Zo h]
  exact Z h
def Same(H H':Hp):Prop:=∀b o,H b=some o->H' b=some o
theorem Same.refl(H:Hp):Same H H:=λ_ _ h=>h
abbrev Z6:=@Same.refl
theorem Same.trans(a:Same H J)(b:Same J Z):Same H Z:=λc o h=>b c o (a c o h)
theorem Same.free(e:Same H Z)(h:Z l=Option.none):H l=Option.none:=by
 cases q:H l with
 |none=>rfl
 |some o=>
  rw[e l o q]at h;cases h
theorem Same.seq{K:W.Frag}(e:Same H J)(h:SqL K H a Z):SqL K J a Z:=by
 rcases h with(h|⟨o,h⟩)|h
 .exact .inl (.inl (e _ _ h))
 .exact .inl (.inr ⟨o,e _ _ h⟩)
 .exact .inr h
section
variable[DecidableEq κ]
theorem EN:∀{l:List κ}{k:κ},l.Nodup->¬k∈l->(l++[k]).Nodup
 |[],k,_,_=>by simp
 |a::r,k,h,hk=>by
  obtain⟨J,Z⟩:=zO.mp h;show(a::(r++[k])).Nodup;refine zO.mpr ⟨λm=>?_,EN Z λm=>hk (Zb.mpr (Or.inr m))⟩;rcases ZV.mp m with q|q
  .exact J q
  .exact hk (Zb.mpr (Or.inl (ZO.mp q).symm))
end
end L2
namespace PySem.W
open PySem PyProof.Rows
section
variable{K:Frag}{x D:Addr}
theorem N0(G:(clsIn K D).isSome=true)(L:findIn K (.ref D) name=some (some a))(J:specialIn K a "__get__"=some (some g))(Z:takesIn K a=some true):findObj K D odo name=some (.bind g a):=by
 obtain⟨M,e⟩:=vw.mp G;simp only[findObj,e,L,Option.bind_some,J,Z]
structure ExcC(K:Frag)(D:Addr):Prop where
 cls:(clsIn K D).isSome=true
 ga:findIn K (.ref D) "__getattribute__"=some (some (.builtin "BaseException.__getattribute__"))
 gn:findIn K (.ref D) "__getattr__"=some none
 base:mroIn K D (.type "BaseException")=some true
 obj:mroIn K D (.type "object")=some true
 ha:findIn K (.ref D) "__class__"=some (some (.builtin "object.__class__"))
 hn:specialIn K (.builtin "object.__class__") "__get__"=some (some (.builtin "getset_descriptor.__get__"))
 htk:takesIn K (.builtin "object.__class__")=some true
set_option tactic.hygienic true in
theorem Lx(X:K.In h)(Z:(clsIn K D).isSome=true):∃c d J sl,h.get? D=some ⟨c,d,.cls J,sl⟩:=by
 unfold clsIn at Z
 split at Z
 case h_1 c d J sl ho=>exact⟨c,d,J,sl,X D _ ho⟩
 case h_2=>cases Z
theorem Rt(X:K.In h)(J:(clsIn K D).isSome=true):Looks M h (isType (.ref D)) true:=by
 obtain⟨c,d,L,sl,Z⟩:=Lx X J;intro R N O G k q;simp only[isType,loadHead];exact Zj (wpAny_loadPart (k D _ Z) (Zk q))
theorem Pl:builtinKind "BaseException.__getattribute__"=some .slot:=by decide +kernel
theorem Lg:splitId "BaseException.__getattribute__"=some ("BaseException","__getattribute__"):=by decide +kernel
theorem Lh:(Value.builtin "BaseException.__getattribute__"==.builtin "object.__getattribute__")=false:=by decide +kernel
theorem Rr(C:ExcC K D)(X:K.In s.heap)(I:InstAt s.heap x ox D odo)(G:Q () s):
  wpAny M A (checkBuiltinCall "BaseException.__getattribute__" ⟨[.ref x,nameV],[]⟩) Q E s:=by
 have J:=looks_mroIn (M:=M) X C.base;have L:=F.args_bexc_ga (.ref x) nameV;have Z:=I.type (M:=M);unfold checkBuiltinCall;simp only[Pl,Lg,isInstance];obtain⟨h,g,d,t,N⟩:=s;refine Zj (Zj (Z.at (J.at ?_)))
 repeat any_goals first|exact L|exact G|wp_step
theorem Fo(C:ExcC K D)(X:K.In s.heap)(I:InstAt s.heap x ox D odo)(h:Q (some (.ref D)) {s with toks:=s.toks+1}):
  wpAny (model prog w) A (getAttr? (.ref x) "__class__") Q E s:=by
 obtain⟨N,g,d,t,Z⟩:=s;have L:=I.type (M:=model prog w);have G:=v8 (M:=model prog w) X C.ga;have J:=v8 (M:=model prog w) X C.gn;have R:=looks_find (M:=model prog w) X I (N0 C.cls C.ha C.hn C.htk);have sl:=F.attr_ValueError.ga;have O:=sl.bind (.ref x);simp only[getAttr?,getAttrBy?,getAttrBy];refine Zj (wpAny_mkText (Zj (yO (wpAny_holding (Zj (L.at ?_))))));refine Zj (G.at ?_);simp only[Lh,vi,yK,if_false,getAttrByItsOwn,hookBefore];refine Zj (J.at (Zj (yO (wpAny_holding ?_))));simp only[callGetattribute,boundAndCalled,Bool.false_and,yK,if_false];rw[O];refine Zj (Zk (wpAny_call (jc sl.plain F.entry_bexc_ga (Rr C X I ?_))));simp only[Builtin.«object.__getattribute__»]
 repeat (first|(with_reducible refine wpAny_call (class_get (s:=⟨N,g,d,t+1,Z⟩) X I C.obj ?_))|lk)
 exact h
theorem NB{Z:List Value}(X:K.In h)(N:(clsIn K D).isSome=true)(J:h.get? G=some ⟨.type "tuple",O,.seq Z.toArray n,sl⟩):(Value.ref D==.ref G)=false:=by
 obtain⟨c,d,R,L,M⟩:=Lx X N
 cases hb:(Value.ref D==Value.ref G)with
 |false=>rfl
 |true=>cases beq_iff_eq.mp hb;cases M.symm.trans J
theorem kitx_exc(C:ExcC K D):KitX K (.ref x) (.ref D) (λh=>∃J Z,InstAt h x J D Z):=
 ⟨λ_ _ _ ⟨_,_,I⟩=>I.type,λ_ _ X _=>Rt X C.cls,λ_ _ _ _ _ _ X G=>NB X C.cls G,λX ⟨_,_,I⟩ k=>Fo C X I k⟩
theorem exc_matches(X:K.In s.heap)(I:InstAt s.heap x ox D odo)(G:(clsIn K N).isSome=true)(Z:typeIn K (.ref N)=some (.type "type"))(L:mroIn K N (.type "BaseException")=some true)(J:subIn K (.ref D) (.ref N)=some b)(C:Q b s):
  wpAny M A (excMatches (.ref x) (.ref N)) Q E s:=by
 have U:=I.type (M:=M);have S:=looks_typeIn (M:=M) X Z;have F:=looks_mroIn (M:=M) X L;have B:=looks_subIn (M:=M) X J;have T:=Rt (M:=M) X G;have R:=tc_notTuple;obtain⟨h,g,d,t,O⟩:=s;simp only[excMatches,isInstance,isExcClass]
 repeat any_goals first|assumption|lk
 cases b <;> (repeat any_goals first|assumption|lk)
end
end PySem.W
namespace L2
open PySem PySem.Spec PyProof.Rows
def Trc(old:Heap)(H:Hp)(h:Heap)(ea:Addr)(vs:kC):Prop:=
 vs[1]?=some .none \/ ∃T J Z,vs[1]?=some (.ref T)/\T≠ea/\old.get? T=none/\H T=none/\h.get? T=some J/\J.data=.fields Z/\Z[3]?=some .none
structure Fly(old:Heap)(H:Hp)(h:Heap)(ea C:Addr)(dx:Option Addr):Prop where
 new:old.get? ea=none
 free:H ea=none
 obj:∃oe vs,h.get? ea=some oe/\oe.cls=.ref C/\oe.dict=dx/\oe.data=.fields vs/\1<vs.size/\Trc old H h ea vs
section
def tbO(head:Value)(L:Addr)(pl:kj):Obj:={cls:=.type "traceback",dict:=none,data:=.fields ([head,.ref L,.none,rawInt L,.none]++ (if pl.isEmpty then List.replicate 6 Value.none else pl)).toArray}
def tbH(g:Heap)(head:Value)(L ea:Addr)(pl:kj):Heap:=
 ((g.push (tbO head L pl)).update ea (Obj.mapFields (·.setIfInBounds 1 (.ref g.objs.size)))).update g.objs.size (Obj.mapFields (·.setIfInBounds 3 ((none:kB).elim Value.none λf=>rawInt f)))
section
variable{g:Heap}
theorem NN(Z:b≠ea)(q:g.get? b=some o):(tbH g head L ea pl).get? b=some o:=
 (zM _ _ (yf (ZN q))).trans ((zM _ _ (Zq Z)).trans (ZD _ q))
theorem D2(q:g.get? ea=some oe)(Z:oe.data=.fields J):((g.push (tbO head L pl)).update ea (Obj.mapFields (·.setIfInBounds 1 (.ref g.objs.size)))).get? ea=some (oe.mapFields (·.setIfInBounds 1 (.ref g.objs.size))):=
 zP _ (ZD _ q) (Obj.isFreed_of_fields (Obj.data_mapFields Z _))
theorem Ql(q:g.get? ea=some oe)(Z:oe.data=.fields J):(tbH g head L ea pl).get? ea=some (oe.mapFields (·.setIfInBounds 1 (.ref g.objs.size))):=
 (zM _ _ (yf (ZN q))).trans (D2 q Z)
theorem NM(q:g.get? ea=some oe):((g.push (tbO head L pl)).update ea (Obj.mapFields (·.setIfInBounds 1 (.ref g.objs.size)))).get? g.objs.size=some (tbO head L pl):=
 (zM _ _ (Zc (ZN q))).trans (ZW g rfl)
theorem OK(q:g.get? ea=some oe):∃o Z,(tbH g head L ea pl).get? g.objs.size=some o/\o.data=.fields Z/\Z[3]?=some Value.none:=
 ⟨_,_,zP _ (NM q) (Obj.isFreed_of_fields (Obj.data_mapFields rfl _)),Obj.data_mapFields rfl _,by
  rw[Array.getElem?_setIfInBounds_self_of_lt (by simp)];rfl⟩
end
theorem Ed(p:A.frames=some (J::outer))(C:s.heap.FunFrames base (J::outer))(c:J.frame=some L)(U:s.heap.get? ea=some oe)(N:oe.data=.fields S)(G:1<S.size)(h:∀O T B R,s.heap.get? T=none->(∀b o,b≠ea->b∉frs (J::outer)->s.heap.get? b=some o->O.get? b=some o)->(∀b o,b≠ea->s.heap.get? b=some o->∃sl,O.get? b=some {o with slots:=sl})->
   O.get? ea=some (oe.mapFields (·.setIfInBounds 1 (.ref T)))->O.get? T=some B->B.data=.fields R->R[3]?=some .none->Q () {s with heap:=O}):
  wpAny M A (do let a <-frameOf J;let pl <-entryPlaceOf L hadNext;let b <-EntryCells.newEntry head a .none (rawInt L) .none pl;setField (.ref ea) 1 b) (λ_ X=>wpAny M A (setFlight (.ref ea) none) Q E X) E s:=by
 have apart:ea∉frs (J::outer):=λz=>(C.mem z).2.elim λo q=>q.2 S (by have e:=U.symm.trans q.1;cases e;exact N);refine Zj (wpAny_frameOf_fun p C c λg D=>Zj (wpAny_entryPlaceOf λpl k=>?_));have Z:g.get? ea=some oe:=(D.2.1 ea apart).trans U;obtain⟨B,R,y,j,P⟩:=OK (head:=head) (L:=L) (pl:=pl) Z;simp only[EntryCells.newEntry,newFields];refine Zj (zW (y6 (ZD _ Z) N G ?_) (k.sizeOk5 _ _ _ _ _));simp only[setFlight];refine Zj (Zm (D2 (head:=head) (L:=L) (pl:=pl) Z N) (Obj.data_mapFields N _) (x:=.ref g.objs.size) (by simp[G]) ?_);rw[Zn (by simp)];refine y6 (NM Z) rfl (by simp) ?_;refine h (tbH g head L ea pl) g.objs.size B R (vh (yq D.1.symm)) (λb o I m q=>NN I ((D.2.1 b m).trans q)) (λb o I q=>?_) (Ql Z N) y j P;obtain⟨sl,t⟩:=D.2.2 b o q;exact⟨sl,NN I t⟩
theorem K9(f:A.frames=some (B::outer))(hl:s.heap.FunFrames base (B::outer))(hf:B.frame=some L)(F:Fly old H s.heap ea C dx)(hT:∀b o,old.get? b=some o->∃u,s.heap.get? b=some u)(hH:∀b o,H b=some o->∃u,s.heap.get? b=some u)(h:∀N,(∀b o,(H b≠none \/ ∃u,old.get? b=some u)->b∉frs (B::outer)->s.heap.get? b=some o->N.get? b=some o)->
   (∀b o,(∀r,o.data≠.fields r)->s.heap.get? b=some o->∃sl,N.get? b=some {o with slots:=sl})->Fly old H N ea C dx->Q () {s with heap:=N}):
  wpAny M A (noteFrame (.ref ea) B) (λ_ g=>wpAny M A (setFlight (.ref ea) none) Q E g) E s:=by
 obtain⟨X,O,oe,r,y,hc,Z9,t,D,ht⟩:=F;unfold noteFrame;simp only[hf];have done:∀R:Heap,(∀b o,b≠ea->(H b≠none\/(∃u,old.get? b=some u) \/ ∀r,o.data≠.fields r)->s.heap.get? b=some o->R.get? b=some o)->(∀b,(∃u,s.heap.get? b=some u)->∃u,R.get? b=some u)->
   ∀N T k m,R.get? T=none->(∀b o,b≠ea->b∉frs (B::outer)->R.get? b=some o->N.get? b=some o)->(∀b o,b≠ea->R.get? b=some o->∃sl,N.get? b=some {o with slots:=sl})->
   N.get? ea=some (oe.mapFields (·.setIfInBounds 1 (.ref T)))->N.get? T=some k->k.data=.fields m->m[3]?=some .none->Q () {s with heap:=N}:=by
  intro R k1 k2 N T k m J1 hk i Z8 Z J4 J5
  have w:∀b,R.get? b=none->s.heap.get? b=none:=λb G=>by
   cases q:s.heap.get? b with
   |none=>rfl
   |some u=>obtain⟨v,U⟩:=k2 b ⟨u,q⟩;rw[G]at U;cases U
  have S:=w T J1;refine h N (λb o G j I=>?_) (λb o p I=>?_) ⟨X,O,_,_,Z8,?_,?_,Obj.data_mapFields t _,by simpa using D,.inr ⟨T,k,m,by simp[D],?_,?_,?_,Z,J4,J5⟩⟩
  .have J:b≠ea:=by
    rintro rfl;rcases G with z|⟨u,z⟩
    .exact z O
    .rw [X]at z;cases z
   exact hk b o J j (k1 b o J (by rcases G with z|z;exact .inl z;exact .inr (.inl z)) I)
  .have J:b≠ea:=by
    rintro rfl;rw[y]at I;cases I;exact p _ t
   exact i b o J (k1 b o J (.inr (.inr p)) I)
  .rw [Obj.cls_mapFields];exact hc
  .rw [<-Z9];obtain⟨c,d,dt,sl⟩:=oe;cases dt <;> rfl
  .rintro rfl;rw[y]at S;cases S
  .cases q:old.get? T with
   |none=>rfl
   |some u=>obtain⟨v,U⟩:=hT T u q;rw[S]at U;cases U
  .cases q:H T with
   |none=>rfl
   |some u=>obtain⟨v,U⟩:=hH T u q;rw[S]at U;cases U
 rcases ht with R|⟨T,k,m,R,J2,n,x,Z,hdT,h3⟩
 .refine Zj (Zm y t R ?_)
  rw[Zo (by decide)];exact Ed f hl hf y t D (done s.heap (λb o _ _ q=>q) (λb q=>q))
 .refine Zj (Zm y t R ?_)
  rw[Zn (by simp)];refine Zj (Zm Z hdT h3 ?_);rw[Zo (by simp[rawInt])];have l:=(vj.mp h3).1;have other:∀b,b≠T->(s.heap.update T (Obj.mapFields λa=>a.setIfInBounds 3 .none)).get? b=s.heap.get? b:=λb z=>zM _ _ z.symm;refine Zj (y6 Z hdT l ?_);refine Ed f (hl.of_keeps λb o G j=>⟨o,(other b λq=>by rw[q,Z]at G;cases G;exact j _ hdT).trans G,rfl⟩) hf ((other ea (Zq J2)).trans y) t D
   (done _ (λb o J G I=>?_) (λb G=>?_))
  .refine (other b ?_).trans I
   rintro rfl;rcases G with z|⟨u,z⟩|z
   .exact z x
   .rw [n]at z;cases z
   .rw [Z]at I;cases I;exact z _ hdT
  .by_cases e:b=T
   .subst e
    exact⟨_,zP _ Z (Obj.isFreed_of_fields (Obj.data_mapFields hdT _))⟩
   .obtain ⟨u,hu⟩:=G
    exact⟨u,(other b e).trans hu⟩
end
section
theorem VX.ex(x:VX P w H h a o):∃u,h.get? a=some u:=by
 cases o with
 |lst J=>obtain⟨_,_,_,_,e⟩:=x;exact⟨_,e⟩
 |tup J=>obtain⟨_,_,_,o,e,_⟩:=x;exact⟨_,e⟩
 |dK Z=>obtain⟨_,_,_,_,o,_,_,e,_⟩:=x;exact⟨_,e⟩
 |dT Z=>obtain⟨_,_,_,_,o,_,_,e,_⟩:=x;exact⟨_,e⟩
 |set S n=>obtain⟨o,_,_,_,e,_⟩:=x;exact⟨_,e⟩
 |ins C R G=>obtain⟨_,_,_,e,_⟩:=x;exact⟨_,e⟩
 |own y=>exact x
 |xd G=>obtain⟨_,⟨_,_,_,e,_⟩,_⟩:=x;exact⟨_,e⟩
 |rng N O=>obtain⟨_,_,_,e⟩:=x;exact⟨_,e⟩
 |frz M u=>obtain⟨e,_⟩:=x;exact⟨_,e⟩
 |tbl L=>exact⟨_,x⟩
 |met f y=>exact⟨_,x⟩
 |ext φ=>obtain⟨_,e,_⟩:=x;exact e
end
def CX1(P:Program)(w:World):CXT:=λZ H s E e J=>∃L C M G,e=.ref L/\J.os=s.os/\AllBare J.gens/\Un (frs Z) [] H G s.heap J.heap/\HOk P w G J.heap/\Fly s.heap G J.heap L C M/\E (.ref C) M G
def P6(X:Cx)(E:XK):Prop:=∀(Z:kb)(U:St)(H:Hp)(s:Shared)(J C:Addr)(G:kB),Inv X Z U H s->Fly X.s₀.heap H s.heap J C G->E (.ref C) G H->X.xe (.ref J) s
theorem Fly.older(F:Fly old H h ea C j)(k:∀b u,old'.get? b=some u->∃v,old.get? b=some v):Fly old' H h ea C j:=by
 have Z:∀b,old.get? b=none->old'.get? b=none:=λb Q=>by
  cases q:old'.get? b with
  |none=>rfl
  |some u=>obtain⟨v,B⟩:=k b u q;rw[Q]at B;cases B
 obtain⟨G,J,A,D,U,P,N,X,L,S⟩:=F;refine⟨Z _ G,J,A,D,U,P,N,X,L,?_⟩;rcases S with R|⟨T,I,E,R,O,M,r⟩
 .exact .inl R
 .exact .inr ⟨T,I,E,R,O,Z _ M,r⟩
section
variable{K:W.Frag}
theorem EQ:P6 (Vl (CX1 P w) P w K d base N qual scope f cd A outer s₀ H₀ E) E:=by
 intro y U H s k C p I F q;have there:∀b u,s₀.heap.get? b=some u->∃v,s.heap.get? b=some v:=λb u e=>I.base.there b u e (by simp[Vl]);show wpAny _ _ (leaving _ _) _ _ s;unfold leaving;refine Zj (K9 (base:=base) (outer:=outer) I.ok.frames I.stack rfl F there (λb o e=>(I.hok b o e).ex) λm X O c=>?_);have g:∀b∈frs (envOfC qual scope s₀.heap.objs.size f cd::outer),H b=none:=I.stkFree;have M:∀b o,H b=some o->b∉frs (envOfC qual scope s₀.heap.objs.size f cd::outer):=λb o e z=>by rw[g b z]at e;cases e
 have j:∀b o u,H b=some o->s.heap.get? b=some u->m.get? b=some u:=λb o u e q=>X b u (.inl (by rw[e];simp)) (M b o e) q;have B:=I.base;refine⟨k,C,p,H,rfl,I.os,I.bare,⟨λb o e n Z _=>?_,λb o e n Z _=>?_,λb o e n _=>B.free b o e n (by simp[Vl]),λb o e _=>?_,B.tups,B.frzs,B.tbls⟩,λa o e=>?_,c,q⟩
 .refine X b o (.inr ⟨o,e⟩) ?_ (B.keep b o e n Z (by simp[Vl]))
  intro z;have R:b∈(s₀.heap.objs.size::frs outer):=z;rcases Zb.mp R with rfl|R
  .exact (zJ _ (ZN e)).elim
  .exact Z R
 .obtain ⟨sl,e1⟩:=B.slot b o e n Z (by simp[Vl])
  have t:∀T,o.data≠.fields T:=λT z=>by
   obtain⟨_,L,J,G⟩:=I.stack.mem (b:=b) (by show b∈(s₀.heap.objs.size::frs outer);exact ZK _ Z);rw[e1]at J;cases J;exact G T z
  obtain⟨S,Q⟩:=O b {o with slots:=sl} t e1;exact⟨S,Q⟩
 .by_cases Z:b∈frs (envOfC qual scope s₀.heap.objs.size f cd::outer)
  .obtain ⟨_,L,J,G⟩:=I.stack.mem Z
   obtain⟨sl,Q⟩:=O b L G J;exact⟨_,Q⟩
  .obtain ⟨L,e1⟩:=there b o e
   exact⟨L,X b L (.inr ⟨o,e⟩) Z e1⟩
 .refine (I.hok a o e).stay (λb u Z q=>?_) (λ_ q=>q) λ_ _ q=>q
  rcases Z with rfl|Z
  .exact j _ _ _ e q
  .exact j _ _ _ Z q
end
section
theorem P6.passes(h:P6 X E)(L:X.ex=[]):UV (CX1 X.prog X.w) X E:=by
 intro Z U H s e N I R;obtain⟨B,C,D,A,rfl,O,bare,M,G,F,q⟩:=R;obtain⟨T,g,d,t,J⟩:=N;obtain rfl:J=s.os:=O;exact h Z U A _ B C D (I.call (h':=T) (g':=g) (d':=d) (t':=t) (ch:=[]) M G bare (λb z=>Zp z (by simp))) (F.older λb u q=>I.base.there b u q (by rw[L];simp)) q
end
abbrev vErr:kj:=[.type "ValueError",.type "Exception",.type "BaseException",.type "object"]
set_option tactic.hygienic true in
def Xf(ea C:Addr)(dx:kB):HO:=.ext λh=>∃Z,h.get? ea=some Z/\Z.cls=.ref C/\W.notCls Z=true/\Z.dict=dx
section
variable{s s':Shared}
theorem PN(k:A.frames=some (Z::outer))(m:s'.heap.FunFrames base (Z::outer))(f:Z.frame=some L)(r:∀b∈frs (Z::outer),N b=none)(O:Un (frs (Z::outer)) [] H N s.heap s'.heap)(U:HOk P w N s'.heap)(F:Fly s.heap N s'.heap ea C l)(h:∀T,Un (frs (Z::outer)) [] H N s.heap T->HOk P w N T->Fly s.heap N T ea C l->Q () {s' with heap:=T}):
  wpAny M A (noteFrame (.ref ea) Z) (λ_ B=>wpAny M A (setFlight (.ref ea) none) Q E B) E s':=by
 have there:∀b u,s.heap.get? b=some u->∃v,s'.heap.get? b=some v:=λb u e=>O.there b u e (by simp);refine K9 k m f F there (λb o e=>(U b o e).ex) λT g S i=>?_;have I:∀b o,N b=some o->b∉frs (Z::outer):=λb o e z=>by rw[r b z]at e;cases e
 have c:∀b o u,N b=some o->s'.heap.get? b=some u->T.get? b=some u:=λb o u e q=>g b u (.inl (by rw[e];simp)) (I b o e) q;refine h T ⟨λb o e n J X=>g b o (.inr ⟨o,e⟩) J (O.keep b o e n J X),λb o e n J X=>?_,O.free,λb o e X=>?_,O.tups,O.frzs,O.tbls⟩ (λa o e=>?_) i
 .obtain ⟨sl,e1⟩:=O.slot b o e n J X
  have d:∀j,o.data≠.fields j:=λj z=>by
   obtain⟨_,D,G,R⟩:=m.mem J;rw[e1]at G;cases G;exact R j z
  obtain⟨t,p⟩:=S b {o with slots:=sl} d e1;exact⟨t,p⟩
 .by_cases J:b∈frs (Z::outer)
  .obtain ⟨_,D,G,R⟩:=m.mem J
   obtain⟨sl,p⟩:=S b D R G;exact⟨_,p⟩
  .obtain ⟨D,e1⟩:=there b o e
   exact⟨D,g b D (.inr ⟨o,e⟩) J e1⟩
 .refine (U a o e).stay (λb u J q=>?_) (λ_ q=>q) λ_ _ q=>q
  rcases J with rfl|J
  .exact c _ _ _ e q
  .exact c _ _ _ J q
theorem Fl(Z:Un fs [] H X s.heap s'.heap)(R:HOk P w X s'.heap)(F:Fly s.heap X s'.heap ea C dx)(hT:∀b∈fs,∀o m,s'.heap.get? b=some o->o.data≠.fields m)(h:∀y,Un fs [] H X s.heap y->HOk P w X y->Fly s.heap X y ea C dx->Q () {s' with heap:=y}):
  wpAny M A (setFlight (.ref ea) none) Q E s':=by
 obtain⟨B,L,r,m,p,x,c,v,k,l⟩:=id F;unfold setFlight;rcases l with j|⟨T,oT,ts,j,U,D,N,S,hdT,h3⟩
 .refine Zj (Zm p v j ?_)
  rw[Zo (by decide)];obtain⟨i,g,d,t,os⟩:=s';exact Zk (h i Z R F)
 .refine Zj (Zm p v j ?_)
  rw[Zn (by simp)];have I:=(vj.mp h3).1;have other:∀b,b≠T->(s'.heap.update T (Obj.mapFields (·.setIfInBounds 3 ((none:kB).elim Value.none λf=>rawInt f)))).get? b=s'.heap.get? b:=λb z=>zM _ _ (Zq z);have self:=zP (Obj.mapFields (·.setIfInBounds 3 ((none:kB).elim Value.none λf=>rawInt f))) S (Obj.isFreed_of_fields (Obj.data_mapFields hdT _));have G:∀b o,s.heap.get? b=some o->b≠T:=λb o e z=>by rw[z,D]at e;cases e
  refine y6 S hdT I (h _ ⟨λb o e n J O=>(other b (G b o e)).trans (Z.keep b o e n J O),λb o e n J O=>?_,Z.free,λb o e O=>?_,Z.tups,Z.frzs,Z.tbls⟩ (λa o e=>?_)
   ⟨B,L,r,m,(other ea (Zq U)).trans p,x,c,v,k,.inr ⟨T,_,_,j,U,D,N,self,Obj.data_mapFields hdT _,by simp[I]⟩⟩)
  .obtain ⟨sl,e1⟩:=Z.slot b o e n J O
   exact⟨sl,(other b (G b o e)).trans e1⟩
  .obtain ⟨o',e1⟩:=Z.there b o e O
   exact⟨o',(other b (G b o e)).trans e1⟩
  .refine (R a o e).stay (λb u J q=>?_) (λ_ q=>q) λ_ _ q=>q
   refine(other b ?_).trans q;rintro rfl;rcases J with rfl|J
   .rw [N]at e;cases e
   .rw [N]at J;cases J
theorem Fly.track(F:Fly old M h ea C E)(Z:Un fs [] H M old h)(O:HOk P w M h):Un fs [] H (upd M ea (Xf ea C E)) old h/\HOk P w (upd M ea (Xf ea C E)) h:=by
 obtain⟨L,J,B,y,D,j,R,Q,X,t⟩:=F;have G:∀b o,M b=some o->b≠ea:=λb o e z=>by rw[z,J]at e;cases e
 refine⟨⟨Z.keep,Z.slot,λb o e n U=>?_,Z.there,λb N e=>?_,λb o u e=>?_,λb S e=>?_⟩,λa o e=>?_⟩
 .rw [Yd (λz=>by rw[z,L]at e;cases e)];exact Z.free b o e n U
 .rw [Yd (G b _ (Z.tups b N e))];exact Z.tups b N e
 .rw [Yd (G b _ (Z.frzs b o u e))];exact Z.frzs b o u e
 .obtain ⟨more,q⟩:=Z.tbls b S e
  exact⟨more,by rw[Yd (G b _ q)];exact q⟩
 .by_cases z:a=ea
  .subst z
   rw[Ya]at e;cases e;refine⟨⟨B,D,j,?_,R⟩,⟨B,D⟩,λg m ⟨T,I,A⟩ k=>⟨T,k T I,A⟩⟩;unfold W.notCls;rw[Q]
  .rw [Yd z]at e
   exact(O a o e).stay (λb u _ q=>q) (λb q=>by rw[Yd (G b _ q)];exact q) λb N q=>by rw[Yd (G b _ q)];exact q
end
abbrev Cx.sui(X:Cx)(A':Around):Cx:={X with A:=A',calm:=false,xe:=λ_ _=>False}
section
theorem Inv.sui(I:Inv X Z U H s)(J:A'.frames=some X.stack):Inv (X.sui A') Z U H s:=
 ⟨⟨I.ok.mod,I.ok.kind,I.ok.glob,I.ok.blt,I.ok.above,I.ok.inj,I.ok.has,I.ok.cab,λz=>Zp z (by simp),J,I.ok.stk,I.ok.exf,I.ok.bs,I.ok.bsz,I.ok.noex,I.ok.exfs,I.ok.funs,I.ok.frf⟩,
  I.os,I.bare,I.base,I.loc,I.cell,I.free,I.freeC,I.pin,I.hok,I.len⟩
theorem Inv.unsui(I:Inv (X.sui A') Z U H s)(J:X.Ok):Inv X Z U H s:=
 ⟨J,I.os,I.bare,I.base,I.loc,I.cell,I.free,I.freeC,I.pin,I.hok,I.len⟩
theorem name_goes(I:Inv X O U H s)(hN:X.N.Nodup)(hi:X.N[i]?=some x)(L:X.env.kindOf x=some .local)(h:∀g,Inv X O (U.set i none) H g->Q () g):wpAny M A (do bindName X.env x .none;unbindBehindTheSuite X.env x pos) Q E s:=by
 obtain⟨m,hn,hl⟩:=id I.loc;have R:(X.env.scope.kind==.class || (X.env.scope.kind==.module && X.env.locals !=X.env.globals))=false:=by rw[I.ok.kind];rfl
 refine wpAny_nameGoes_keeps L hn R λh' v C S=>h _ ?_;have J:∀b,b≠X.env.locals->h'.get? b=s.heap.get? b:=λb z=>S.2 b z;have G:∀b o,X.s₀.heap.get? b=some o->b≠X.env.locals:=λb o e=>Zc (Zv (ZN e) I.ok.above);have t:∀b o,H b=some o->b≠X.env.locals:=λb o e z=>by rw[z,I.free]at e;cases e
 have B:=I.base;refine⟨I.ok,I.os,I.bare,⟨λb o e n N L=>(J b (G b o e)).trans (B.keep b o e n N L),λb o e n N L=>?_,B.free,λb o e L=>?_,B.tups,B.frzs,B.tbls⟩,⟨_,C,λj y u k Z l=>?_⟩,λy c e=>?_,I.free,I.freeC,λp hp=>?_,λa o e=>?_,?_⟩
 .obtain ⟨sl,e1⟩:=B.slot b o e n N L
  exact⟨sl,(J b (G b o e)).trans e1⟩
 .obtain ⟨o',e1⟩:=B.there b o e L
  exact⟨o',(J b (G b o e)).trans e1⟩
 .by_cases hji:j=i
  .subst hji
   rw[List.getElem?_set_self']at Z
   cases q:U[j]? with
   |none=>rw[q]at Z;cases Z
   |some z=>rw[q]at Z;cases Z
  .rw [yB (Zq hji)]at Z
   obtain⟨P,f,w⟩:=hl j y u k Z l;have F:y≠x:=λz=>hji (Tv hN k (z ▸ hi));refine⟨P,f,?_⟩;rcases w with⟨D,T⟩|⟨D,c,T,r⟩
   .exact .inl ⟨D,by show(if y=x then v else m y)=some P;rw[Zo F];exact T⟩
   .refine .inr ⟨D,c,T,r.sameBut S ?_⟩
    exact I.cne y c T
 .obtain ⟨v',hv'⟩:=I.cell y c e
  exact⟨v',hv'.sameBut S (I.cne y c e)⟩
 .obtain ⟨e,n,ne,nf,d⟩:=I.pin p hp
  exact⟨(J p.1 ne).trans e,n,ne,nf,d⟩
 .refine (I.hok a o e).stay (λb u N q=>?_) (λ_ q=>q) λ_ _ q=>q
  refine(J b ?_).trans q;rcases N with rfl|N
  .exact t _ _ e
  .exact t _ _ N
 .rw [vK];exact I.len
end
def TD(CX:CXT)(X:Cx)(U:St)(E:XK):Prop:=∀(Z:kb)(H:Hp)(s:Shared)(e:Value)(J:Shared),Inv X Z U H s->CX X.stack H s E e J->X.xe e J
structure Qe(K:W.Frag)(N:Addr):Prop where
 cls:(W.clsIn K N).isSome=true
 ty:W.typeIn K (.ref N)=some (.type "type")
 base:W.mroIn K N (.type "BaseException")=some true
def CU(K:W.Frag)(Nc:Addr)(i:Nat)(tb:(St->XK)->TS)(ts:TS):TS:=λD U H=>
 tb (λM J L G=>∃C,J=.ref C/\W.subIn K (.ref C) (.ref Nc)=some true/\(∀d,L=some d->∃o,G d=some o)/\
  ∀Z,G Z=none->ts {nx:=λU H=>D.nx (U.set i none) H,rt:=D.rt,bk:=λU H=>D.bk (U.set i none) H,ct:=λU H=>D.ct (U.set i none) H} (M.set i (some (.ref Z))) (upd G Z (Xf Z C L))) D U H
section
variable{X:Cx}
theorem GY{A:Around}(h:A.frames=some l):(A.mark v).frames=some l:=h
abbrev Cx.tried(X:Cx)(pn:kb)(W:kh):Cx:={X with pn:=pn,xe:=W}
theorem Inv.tried(I:Inv X Z U H s):Inv (X.tried (X.pn++ Z) W) [] U H s:=
 ⟨⟨I.ok.mod,I.ok.kind,I.ok.glob,I.ok.blt,I.ok.above,I.ok.inj,I.ok.has,I.ok.cab,I.ok.hd,I.ok.frames,I.ok.stk,I.ok.exf,I.ok.bs,I.ok.bsz,I.ok.noex,I.ok.exfs,I.ok.funs,I.ok.frf⟩,
  I.os,I.bare,I.base,I.loc,I.cell,I.free,I.freeC,λp J=>I.pin p (by rw[zV]at J;exact J),I.hok,I.len⟩
theorem Inv.untried(I:Inv (X.tried (X.pn++ Z) W) pins' U H s)(J:X.Ok):Inv X Z U H s:=
 ⟨J,I.os,I.bare,I.base,I.loc,I.cell,I.free,I.freeC,λp G=>I.pin p (yA _ G),I.hok,I.len⟩
theorem SC(O:X.stack=X.env::X.outer)(L1:X.env.frame=some X.env.locals)(l:X.N.Nodup)(r:X.N[i]?=some n)(t:X.env.kindOf n=some .local)(hg:Gl X x)(hm:X.mg x=some (.ref Nc))(hC:Qe X.K Nc)(hb:∀(m:St->XK)(pn:kb)(W:kh),(∀U,TD (CX1 X.prog X.w) (X.tried pn W) U (m U))->PSs (X.tried pn W) body (tb m))(hs:∀A',PSs (X.sui A') (b₀::suite) ts)(N2:(x==("__debug__":Str))=false:=by decide):
  PS X (.Try body [.ExceptHandler (some (.Name x np)) (some n) (b₀::suite) hpos] [] [] pos) (CU X.K Nc i tb ts):=by
 intro Z s U H D I h;refine wpAny_Try_except ?_
 let m:St->XK:=λL R3 T G=>∃C,R3=.ref C/\PySem.W.subIn X.K (.ref C) (.ref Nc)=some true/\(∀d,T=some d->∃o,G d=some o)/\
  ∀J,G J=none->ts {nx:=λU H=>D.nx (U.set i none) H,rt:=D.rt,bk:=λU H=>D.bk (U.set i none) H,ct:=λU H=>D.ct (U.set i none) H} (L.set i (some (.ref J))) (upd G J (Xf J C T))
 let W:kh:=λe s'=>∃L E M,Inv X Z L E M/\CX1 X.prog X.w X.stack E M (m L) e s'
 have hp:∀U,TD (CX1 X.prog X.w) (X.tried (X.pn++ Z) W) U (m U):=λL G2 E M e s' I1 hx=>⟨L,E,M,I1.untried I.ok,hx⟩;refine Zl (hb m (X.pn++ Z) W hp [] s U H D I.tried h) (λfl M q=>?_) λe M q=>?_
 .cases fl with
  |next=>
   obtain⟨L,G,j,q⟩:=q;exact vY ⟨L,G,j.untried I.ok,q⟩
  |brk=>obtain⟨L,G,j,q⟩:=q;exact⟨L,G,j.untried I.ok,q⟩
  |cont=>obtain⟨L,G,j,q⟩:=q;exact⟨L,G,j.untried I.ok,q⟩
  |ret u=>obtain⟨v,L,G,j,q⟩:=q;exact⟨v,L,G,j.untried I.ok,q⟩
 .obtain ⟨L,E,s0,I0,J,C,T,G,rfl,os,bare,un,hok,F,C',hC',hsub,hdx,q⟩:=q
  cases hC';have R1:X.A.frames=some (X.env::X.outer):=O ▸ I.ok.frames
  have hJ:∀a t',Un (frs X.stack) [] E G s0.heap a->HOk X.prog X.w G a->Inv X Z L G {M with heap:=a,toks:=t'}:=λa t' u k=>
   I0.call' (s':={M with heap:=a,toks:=t'}) os u k bare (λb z=>Zp z (by simp))
  have J1:=hJ M.heap M.toks un hok;have G1:Un (frs (X.env::X.outer)) [] E G s0.heap M.heap:=O ▸ un;refine PN (P:=X.prog) (w:=X.w) (base:=X.base) (s:=s0) R1 (O ▸ J1.stack) L1 (O ▸ J1.stkFree) G1 hok F λA Z9 R F2=>?_;have N:Un (frs X.stack) [] E G s0.heap A:=O ▸ Z9;have J2:=hJ A M.toks N R;obtain⟨ut,kt⟩:=F2.track N R
  have inst:∀h3,HOk X.prog X.w (upd G J (Xf J C T)) h3->∃g p,PySem.W.InstAt h3 J g C p:=λh3 k3=>by
   obtain⟨⟨g,e1,e2,e3,e4⟩,_⟩:=(show VX X.prog X.w _ h3 J (Xf J C T)from k3 J _ Ya)
   cases hd:T with
   |none=>exact⟨g,none,e1,e2,e3,by rw[e4,hd];trivial⟩
   |some d=>
    obtain⟨o,f⟩:=hdx d hd
    have M2:upd G J (Xf J C T) d=some o:=by
     rw[Yd (λz=>by rw[z,F2.free]at f;cases f)];exact f
    obtain⟨u,hu⟩:=(k3 d o M2).ex;exact⟨g,some u,e1,e2,e3,by rw[e4,hd];exact hu⟩
  have JS:Inv (X.sui (X.A.mark (some (.ref J)))) Z L G {M with heap:=A}:=J2.sui (GY I.ok.frames);refine wpAny_handleBy_cons (codeAny_handlers_test (XC JS hg hm ?_ N2)) (by intro z;cases z);obtain⟨g,p,IA⟩:=inst A kt;refine PySem.W.exc_matches (s:={M with heap:=A}) JS.kIn IA hC.cls hC.ty hC.base hsub ?_;refine codeAny_handlers_suite_as (Fl (P:=X.prog) (w:=X.w) (s:=s0) N R F2 (λb hb o vs f=>?_) λh4 Z8 c F4=>?_)
  .obtain ⟨_,o',ho',hd'⟩:=J2.stack.mem hb
   have G3:A.get? b=some o:=f;have B:A.get? b=some o':=ho';rw[G3]at B;cases B;exact hd' vs
  .obtain ⟨ut4,kt4⟩:=F4.track Z8 c
   have J4:Inv X Z L (upd G J (Xf J C T)) {M with heap:=h4}:=I0.call' (s':={M with heap:=h4}) os ut4 kt4 bare (λb z=>Zp z (by simp));refine WF (v:=.ref J) J4 l r (.inl t) rfl (λs5 J5=>?_) (.inr t);have R4:Inv (X.sui (X.A.mark (some (.ref J)))) Z (L.set i (some (.ref J))) (upd G J (Xf J C T)) s5:=J5.sui (GY I.ok.frames);refine Zl (hs _ Z s5 _ _ _ R4 (q J F4.free)) (λfl s6 z=>?_) λ_ _ z=>z.elim
   cases fl with
   |next=>
    obtain⟨σ6,y,Q,z⟩:=z;exact name_goes (Q.unsui I.ok) l r t λs7 S=>⟨_,y,S,z⟩
   |brk=>
    obtain⟨σ6,y,Q,z⟩:=z;exact name_goes (Q.unsui I.ok) l r t λs7 S=>⟨_,y,S,z⟩
   |cont=>
    obtain⟨σ6,y,Q,z⟩:=z;exact name_goes (Q.unsui I.ok) l r t λs7 S=>⟨_,y,S,z⟩
   |ret u=>
    obtain⟨v,σ6,y,Q,rv,z⟩:=z;exact name_goes (Q.unsui I.ok) l r t λs7 S=>⟨v,_,y,S,rv,z⟩
end
theorem Dp(O:List (Str×NameKind)):∀(Z:List (Str×Addr)),(∀x∈O,x.2=.free->∃c,env.cells.lookup x.1=some c)->
  ∃L,(forIn O Z (λ(x:Str×NameKind)(r:List (Str×Addr))=>(if(x.2==NameKind.free)=true then do let c <-cellOf env x.1;pure (ForInStep.yield ((x.1,c)::r))else pure (ForInStep.yield r):Sem (ForInStep (List (Str×Addr)))))=pure L)/\
   (∀x c,L.lookup x=some c->env.cells.lookup x=some c\/Z.lookup x=some c)/\(∀x,(x,NameKind.free)∈O->∃c,L.lookup x=some c)/\(∀x c,Z.lookup x=some c->∃N,L.lookup x=some N):=by
 induction O with
 |nil=>intro Z _;exact⟨Z,rfl,λx c h=>.inr h,λx h=>(nomatch h),λx c h=>⟨c,h⟩⟩
 |cons y r ih=>
  intro Z h;obtain⟨n,k⟩:=y
  by_cases hk:k=.free
  .subst hk
   obtain⟨c,D⟩:=h (n,.free) ZY rfl;obtain⟨L,B,T,R,M⟩:=ih ((n,c)::Z) λx J=>h x (ZK _ J);refine⟨L,?_,λx N J=>?_,λx J=>?_,λx N J=>?_⟩
   .rw [<-B]
    simp only[vb,beq_self_eq_true,if_true,cellOf,D]
    rfl
   .rcases T x N J with q|q
    .exact .inl q
    .rw [zX]at q
     cases G:x==n with
     |true=>
      rw[G]at q;have:x=n:=by simpa using G
      subst this;cases q;exact .inl D
     |false=>rw[G]at q;exact .inr q
   .rcases Zb.mp J with q|q
    .cases q
     exact M n c (by simp[zX])
    .exact R x q
   .cases G:x==n with
    |true=>exact M x c (by simp[zX,G])
    |false=>exact M x N (by simp[zX,G,J])
  .obtain ⟨L,B,T,R,M⟩:=ih Z λx J=>h x (ZK _ J)
   have G:(k==NameKind.free)=false:=by simpa using hk
   refine⟨L,?_,T,λx J=>?_,M⟩
   .rw [<-B]
    simp only[vb,G,yK,if_false]
    rfl
   .rcases Zb.mp J with q|q
    .cases q;exact Zp rfl hk
    .exact R x q
theorem Do(h:∀x∈scope.names,x.2=.free->∃c,env.cells.lookup x.1=some c):
  ∃Z,closureFor scope env=pure Z/\(∀x c,Z.lookup x=some c->env.cells.lookup x=some c)/\(∀x,(x,NameKind.free)∈scope.names->∃c,Z.lookup x=some c):=by
 obtain⟨Z,M,L,G,_⟩:=Dp scope.names [] h;refine⟨Z,?_,λx c J=>(L x c J).resolve_right (by simp),G⟩;rw[<-bind_pure (pure Z:Sem (List (Str×Addr))),<-M]
 rfl
theorem WN{scope:Scope}{Z:Env}{x:Str}:∀{names:List (Str×NameKind)},(names.map λ(n,k)=>if(k==NameKind.free && Z.scope.kind==.function && Z.kindOf n==some .cell)then(n,NameKind.cell)else(n,k)).lookup x=some .cell \/
  (names.map λ(n,k)=>if(k==NameKind.free && Z.scope.kind==.function && Z.kindOf n==some .cell)then(n,NameKind.cell)else(n,k)).lookup x=some .free->(∀y∈names,y.2≠.cell)->(x,NameKind.free)∈names
 |[],h,_=>by simp at h
 |(n,k)::r,h,hc=>by
  have ih:= @WN scope Z x r;rw[ZT]at h
  have G:∀M:NameKind,(∀J,((n,M)::(r.map λ(n,k)=>if(k==NameKind.free && Z.scope.kind==.function && Z.kindOf n==some .cell)then(n,NameKind.cell)else(n,k))).lookup x=some J->(x=n/\M=J)\/(r.map λ(n,k)=>if(k==NameKind.free && Z.scope.kind==.function && Z.kindOf n==some .cell)then(n,NameKind.cell)else(n,k)).lookup x=some J):=λM J q=>by
   rw[zX]at q
   cases hb:x==n with
   |true=>rw[hb]at q;exact .inl ⟨by simpa using hb,ZP q⟩
   |false=>rw[hb]at q;exact .inr q
  dsimp only at h
  split at h
  .rename_i hk
   have O:k=.free:=by
    cases k <;> simp at hk
    rfl
   subst O;rcases h with h|h
   .rcases G _ _ h with⟨e,_⟩|q
    .subst e;exact ZY
    .exact ZK _ (ih (.inl q) λy L=>hc y (ZK _ L))
   .rcases G _ _ h with⟨e,_⟩|q
    .subst e;exact ZY
    .exact ZK _ (ih (.inr q) λy L=>hc y (ZK _ L))
  .rcases h with h|h
   .rcases G _ _ h with⟨e,N⟩|q
    .exact Zp N (hc (n,k) ZY)
    .exact ZK _ (ih (.inl q) λy L=>hc y (ZK _ L))
   .rcases G _ _ h with⟨e,N⟩|q
    .subst e;subst N;exact ZY
    .exact ZK _ (ih (.inr q) λy L=>hc y (ZK _ L))
theorem N7(I:Nat->Shared->Prop)(turn:∀n s,I n s->wpAny (model prog w) A (pyNext it) (λr G=>match r with
   |none=>R (.ok .next) G
   |some v=>wpAny (model prog w) A (letOwnedTupleGo target it v) (λ_ J=>wpAny (model prog w) A (assign target env v) (λ_ O=>wpAny (model prog w) A (eval elt env) (λx N=>
     wpAny (model prog w) A (call (.builtin "list.append") [acc,x]) (λ_ M=>∃m,m<n/\I m M) (λ_ _=>False) N)
     (λ_ _=>False) O) (λ_ _=>False) J) (λ_ _=>False) G) (λ_ _=>False) s)(n:Nat)(h:I n s):codeAny (model prog w) A
   (.compLoop (.ListComp elt [⟨target,iter,[],0⟩] scope pos) 0 it acc env) R s:=by
 refine codeAny_loop rfl I (λn s B=>wpAny_noted (m:=compTurn (.ListComp elt [⟨target,iter,[],0⟩] scope pos) 0 it acc env) ?_) n h;rw[compTurn_list1];refine Zj (ya (Zj (Zl (turn n s B) (λr G T=>?_) λ_ _ Z=>Z.elim)))
 cases r with
 |none=>exact Zk T
 |some v=>
  exact Zj (Zl T (λ_ J L=>Zj (Zl L (λ_ O F=>Zj (Zj (Zl F (λx N E=>Zj (Zl E
   (λ_ M D=>Zk (Zk ⟨rfl,D⟩)) λ_ _ Z=>Z.elim)) λ_ _ Z=>Z.elim))) λ_ _ Z=>Z.elim)) λ_ _ Z=>Z.elim)
theorem GQ{Z:Env}{x:Str}:∀{names:List (Str×NameKind)},names.lookup x=some .free->
  (names.map λ(n,k)=>if(k==NameKind.free && Z.scope.kind==.function && Z.kindOf n==some .cell)then(n,NameKind.cell)else(n,k)).lookup x≠some .local
 |[],h=>by simp at h
 |(n,k)::r,h=>by
  have ih:= @GQ Z x r;rw[ZT];dsimp only[rI0,rI,XF];rw[zX]at h
  cases hb:x==n with
  |true=>
   rw[hb]at h;have J:k=.free:=ZP h;subst J
   split <;> simp[zX,hb]
  |false=>
   rw[hb]at h
   split <;> (simp only[zX,hb];exact ih h)
def VL(X:Cx)(N':kq)(scope:Scope)(cl:List (Str×Addr))(C:Addr)(fp:kA)(s:Shared)(H:Hp):Cx:=
 {X with N:=N',s₀:=s,H₀:=H,env:=compEnvC scope cl C X.env,outer:=X.stack,stack:=X.stack,ex:=fp,fn:=λ_=>false,pn:=[],xe:=λ_ _=>False}
def Ve(X:Cx)(own:kq)(ix:List Nat):kq:=own++ ix.map λj=>X.N.getD j ("":Str)
def Vv(k:Nat)(ix:List Nat)(U:St):St:=List.replicate k none++ ix.map λj=>U.getD j none
def GK(k:Nat)(g:TG):Prop:=∀x U H Q,g x U H Q->g x U H fun σ2 Z=>Q σ2 Z/\σ2.length=U.length/\σ2.drop k=U.drop k
theorem VR(h:i<k):GK k (Vu i):=λx U H Q q=>⟨q,by simp,by rw[List.drop_set,Zn h]⟩
def GKs(k:Nat)(g:TGs):Prop:=∀x U H Q,g x U H Q->g x U H fun σ2 Z=>Q σ2 Z/\σ2.length=U.length/\σ2.drop k=U.drop k
theorem S5:GKs k Nv:=λx U H Q q=>by
 match x,q with
 |[],q=>exact⟨q,rfl,rfl⟩
theorem Ec(R:GK k g)(O:GKs k gs)(N:∀x U H (Q Z:kI),(∀a b,Q a b->Z a b)->g x U H Q->g x U H Z)(M:∀x U H (Q Z:kI),(∀a b,Q a b->Z a b)->gs x U H Q->gs x U H Z):GKs k (XM g gs):=λx U H Q q=>by
 match x,q with
 |v::r,q=>
  refine N _ _ _ _ _ (λa b z=>?_) (R _ _ _ _ q);obtain⟨L,G,J⟩:=z;refine M _ _ _ _ _ (λc d y=>?_) (O _ _ _ _ L);exact⟨y.1,y.2.1.trans G,y.2.2.trans J⟩
theorem S4{K:W.Frag}(h:GKs k gs):GK k (Pm K n gs):=λx U H Q q=>by
 match x,q with
 |.ref a,q=>
  obtain⟨Z,G,J,q⟩:=q;exact⟨Z,G,J,h _ _ _ _ q⟩
def MA(J:It)(g:TG)(te:TE)(s0:St)(Q:VK)(H1:Hp):Prop:=∃W:Nat->Nat->List V->Hp->Prop,(∃m,W 0 m [] H1)/\∀i m Z H,W i m Z H->
 Z.length<sizeLine/\((J.stop i H/\∀p,H p=none->Q (.ref p) (upd H p (.lst Z))) \/
  (J.go i H/\∀x L,J.yld i H x L->g x s0 L fun σ2 N=>te σ2 N λy M=>∃G,G<m/\W (i+1) G (Z++[y]) M))
def QD(k:Nat)(ix:List Nat)(wi:TI)(g:TG)(te:TE):TE:=λU H Q=>wi U H λJ Z=>MA J g te (Vv k ix U) Q Z
theorem Inv.retrack(I:Inv X Z U H s)(O:H D=none)(f:UI X Z H D)(L:VX X.prog X.w (upd H D o) s.heap D o):Inv X Z U (upd H D o) s:=by
 have G:∀b u,H b=some u->b≠D:=λb u e=>Yf e O;have r:=I.step (h':=s.heap) (H':=upd H D o) (g':=s.gens) (d':=s.drawn) (t':=s.toks) (ch:=[D])
  (λb J=>by
   have e:b=D:=by simpa using J
   subst e;exact⟨f.2.2.2.1,f.2.1,f.2.2.2.2.1,f.2.2.2.2.2⟩)
  (λb o _ _ _ e _=>e) (λb o _ _ _ e _=>⟨o.slots,e⟩) (λb o J e n=>by rw[Yd (λz=>J (by simp[z]))];exact n) (λb o _ e=>⟨o,e⟩)
  (λb M e=>by rw[Yd (G _ _ e)];exact e) (λb o u e=>by rw[Yd (G _ _ e)];exact e) (λb R e=>⟨#[],by rw[Yd (G _ _ e),e];simp⟩) (λm N=>N)
  (λb u e=>by
   by_cases J:b=D
   .subst J;rw[Ya]at e;cases e;exact L
   .rw [Yd J]at e
    exact(I.hok b u e).stay (λc v _ q=>q) (λc q=>by rw[Yd (G _ _ q)];exact q) λc M q=>by rw[Yd (G _ _ q)];exact q) I.bare
 exact r
def UT(sc:Scope)(outer:List (Str×NameKind))(N:kq)(ix:List Nat):Bool:=
 sc.names.all (λx=>(decide (x.2≠.local) || decide (sc.names.lookup x.1=some .local)) && decide (x.2≠.cell) && (decide (x.2≠.free) || decide (outer.lookup x.1=some .cell) || decide (outer.lookup x.1=some .free))) &&
  ix.all λj=>match N[j]? with
   |some y=>decide (sc.names.lookup y=some .free)
   |none=>false
theorem UT.all(Z:UT sc outer N ix=true):
  (∀x∈sc.names,x.2=.local->sc.names.lookup x.1=some .local)/\(∀x∈sc.names,x.2≠.cell)/\(∀x∈sc.names,x.2=.free->outer.lookup x.1=some .cell\/outer.lookup x.1=some .free)/\∀j∈ix,∃y,N[j]?=some y/\sc.names.lookup y=some .free:=by
 unfold UT at Z;rw[ZX,vC,vC]at Z;have each:=λx J=>Z.1 x J;simp only[ZX,Bool.or_eq_true,decide_eq_true_eq]at each;refine⟨λx J G=>(each x J).1.1.resolve_left λz=>z G,λx J=>(each x J).1.2,λx J M=>?_,λj L=>?_⟩
 .rcases (each x J).2 with(z|z)|z
  .exact Zp M z
  .exact .inl z
  .exact .inr z
 .have q:=Z.2 j L
  cases e:N[j]? with
  |none=>rw[e]at q;cases q
  |some y=>rw[e]at q;exact⟨y,rfl,Zr q⟩
structure CB(X:Cx)(own:List Str)(ix:List Nat)(scope:Scope)(pins:List (Addr×Obj))(U:St)(tg:Expr)(cl:List (Str×Addr))(D C:Addr)(fp:List Addr)(it:Addr)(tn:Nat->Heap->Prop)(J:It)(H2:Hp)(s3:Shared):Prop where
 T:Turn X.prog X.w X.K tg J fp it tn
 ok:(VL X (Ve X own ix) scope cl C (D::fp) s3 H2).Ok
 nfp:∀b∈fp,b≠D
 f2:∀b∈fp,UI X pins H2 b
 fD:UI X pins H2 D
 I3:Inv X pins U H2 s3
 CD:C≠D
 fC:∀H':Hp,H' C=none->UI X pins H' C
section
theorem Uw{rest:List Comprehension}(own:kq)(E:List Nat)(hi:PI X tg iter wi)(M:scope.kind=.function)(R7:UT scope X.env.scope.names X.N E=true)(hs:∀x,foldedSetIterable iter X.env x=pure x)(I:Inv X G U H s)(h:wi U H R)(loop:∀(cl:List (Str×Addr))(D C:Addr)(fp:kA)(it:Addr)(tn:Nat->Heap->Prop)(J:It)(A:Hp)(s3 s5:Shared),CB X own E scope G U tg cl D C fp it tn J A s3->R J A->Inv (VL X (Ve X own E) scope cl C (D::fp) s3 A) [] (Vv own.length E U) A s5->tn 0 s5.heap->s5.heap.PlainList D (List.toArray [])->
   codeAny (model X.prog X.w) X.A (.compLoop (.ListComp elt (⟨tg,iter,ifs,0⟩::rest) scope pos) 0 (.ref it) (.ref D) (compEnvC scope cl C X.env)) (compPost (model X.prog X.w) X.A X.xe use POST (.ref D) C) s5):
  wpAny (model X.prog X.w) X.A (comprehension (.ListComp elt (⟨tg,iter,ifs,0⟩::rest) scope pos) scope X.env cpos (newList []) false (eval iter X.env) use) POST X.xe s:=by
 obtain⟨Z9,Q,J5,R8⟩:=UT.all R7;have J1:∀x∈scope.names,x.2=.free->∃c,X.env.cells.lookup x.1=some c:=λx hx hf=>I.ok.has x.1 (J5 x hx hf);obtain⟨cl,T0,Z,J4⟩:=Do J1;refine wpAny_comprehension_free rfl hs T0 M Z9 ?_;refine thn (hi G s U H _ I h) λv s1 h1=>thn h1 λT4 w h2=>?_;obtain⟨it,fp,tn,J,A,e,O,T,G3,f2,hR⟩:=h2;subst e;refine zW (wpAny_newFunctionEnv Q (by intro y hy;simp at hy) (λh4 Z8 n=>?_) M);dsimp only at Z8 n |-;generalize hh3:w.heap.push {cls:=.type "list",dict:=none,data:=.seq ([]:kj).toArray}=h3 at Z8 n |-;have M2:h3.objs.size=w.heap.objs.size+1:=by rw[<-hh3,zR]
 have l:∀b u,w.heap.get? b=some u->h3.get? b=some u:=λb u q=>by rw[<-hh3];exact ZD _ q
 have D3:h3.get? w.heap.objs.size=some {cls:=.type "list",data:=.seq #[]}:=by rw[<-hh3];exact ZW _ rfl
 obtain⟨D,g⟩:∃D,D=w.heap.objs.size:=⟨_,rfl⟩;obtain⟨C,hC⟩:∃C,C=h3.objs.size:=⟨_,rfl⟩;rw[<-hC]at Z8 n;rw[<-g]at D3 M2;have F:C=D+1:=hC.trans M2
 let s3:Shared:={w with heap:=h3}
 have I3:Inv X G U A s3:=O.kept (t':=w.toks) l;have R6:∀b u,h3.get? b=some u->b<C:=λb u q=>by rw[hC];exact ZN q
 have L:∀b u,h3.get? b=some u->h4.get? b=some u:=λb u q=>n.extBut b u (Zc (R6 b u q)) (ZD _ q);have T2:A D=none:=O.hok.fresh (by rw[g];exact ZF _);have T3:A C=none:=O.hok.fresh (by rw[F,g];exact yY _);have fD:UI X G A D:=O.fpOk (by rw[g];exact ZF _) T2
 have f:∀x c,X.env.cells.lookup x=some c->c<D:=λx c e=>by
  obtain⟨v,z⟩:=O.cell x c e;rw[g];exact z.lt
 have G1:∀b∈fp,b<D:=λb N=>by
  obtain⟨o,e,_⟩:=T.obj 0 _ G3 b N;rw[g];exact ZN e
 let X':Cx:=VL X (Ve X own E) scope cl C (D::fp) s3 A
 have G2:∀b∈frs X.stack,b∉D::fp:=λb N z=>by
  rcases Zb.mp z with z|z
  .have q:=O.stack
   obtain⟨_,o,e,_⟩:=q.mem N;have:=ZN e;rw[z,g]at this;exact zJ _ this
  .rcases Zb.mp (O.stkSub b N)with q|q
   .exact (f2 b z).2.1 q
   .exact (f2 b z).2.2.1 q
 have N2:X'.Ok:=by
  refine⟨I.ok.mod,M,I.ok.glob,I.ok.blt,?_,λx y c h1 h2=>I.ok.inj x y c (Z x c h1) (Z y c h2),λx hx=>J4 x (WN (scope:=scope) hx Q),(λx c z=>Bool.noConfusion (show false=true from z)),I.ok.hd,I.ok.frames,.inl rfl,λb N=>⟨?_,λx c h1=>?_⟩,λb o e=>?_,?_,λb o e N=>?_,λb N z=>G2 b z N,?_,λb N=>O.stkFree b N⟩
  .show h3.objs.size<=C
   rw[hC];exact ZF _
  .show b≠C
   rcases Zb.mp N with z|z
   .rw [z,F];exact Zc (yG _)
   .rw [F];exact Zc (Nat.lt_succ_of_lt (G1 b z))
  .rcases Zb.mp N with z|z
   .rw [z];exact Zc (f x c (Z x c h1))
   .exact (f2 b z).2.2.2.2.1 x c (Z x c h1)
  .exact I3.bs b o e
  .show X.base.objs.size<=h3.objs.size
   have:=ZZ I.ok.bsz O.sz;rw[<-g]at this;rw[<-hC,F];exact jd this
  .rcases Zb.mp N with z|z
   .have:=ZN (O.bk b o e)
    rw[z,g]at this;exact zJ _ this
   .rcases (f2 b z).2.2.2.1 with q|q
    .exact I.ok.noex b o e q
    .have:=Zv (ZN (I.ok.bs b o e).1) q
     exact zJ _ this
  .exact I3.stack
 have R1:(Vv own.length E U).length=(Ve X own E).length:=by simp[Vv,Ve]
 have I4:∀t,Inv X' [] (Vv own.length E U) A {w with heap:=h4,toks:=t}:=λt=>by
  refine⟨N2,rfl,O.bare,Un.kept L,⟨_,Z8,λi x v e1 e2 e3=>?_⟩,λx c e=>?_,T3,λx c e=>O.freeC x c (Z x c e),λp hp=>Zp (show p∈([]:kb)from hp) (by simp),(I3.hok).kept L,R1⟩
  .-- a name of the def that the block reads
   have R5:own.length<=i:=by
    apply yU;intro R4;unfold Vv at e2;rw[zn (by simpa using R4),yo,Zn R4]at e2;cases e2
   have d:(E.map λj=>X.N.getD j ("":Str))[i-own.length]?=some x:=by
    have z:(own++ E.map λj=>X.N.getD j ("":Str))[i]?=some x:=e1
    rwa [zt R5]at z
   have L1:(E.map λj=>U.getD j none)[i-own.length]?=some (some v):=by
    unfold Vv at e2;rw[zt (by simpa using R5)]at e2;simpa using e2
   rw[ZG]at d L1
   cases hj:E[i-own.length]? with
   |none=>rw[hj]at d;cases d
   |some j=>
    rw[hj]at d L1;obtain⟨y,hy,P⟩:=R8 j (ZH hj)
    have ex:x=y:=by
     have z:X.N.getD j ("":Str)=x:=ZP d;rw[<-z,zj,hy];rfl
    subst ex
    have ev:U[j]?=some (some v):=by
     have z:U.getD j none=some v:=ZP L1;rw[zj]at z
     cases q:U[j]? with
     |none=>rw[q]at z;cases z
     |some a=>rw[q]at z;exact congrArg some z
    have R3:=yn P;have J2:=J5 _ R3 rfl;obtain⟨m,hn,hl⟩:=O.loc;obtain⟨u,r,lk⟩:=hl j x v hy ev (.inr J2);refine⟨u,r,.inr ⟨?_,?_⟩⟩
    .rcases e3 with z|z
     .exact Zp z (GQ P)
     .exact z
    .rcases lk with⟨k,_⟩|⟨_,c,T1,z⟩
     .rcases J2 with q|q
      .exact Zp (k.symm.trans q) (by simp)
      .exact Zp (k.symm.trans q) (by simp)
     .obtain ⟨c',hc'⟩:=J4 x R3
      have:=Z x c' hc';rw[T1]at this;cases this;obtain⟨o,ho,hd⟩:=z;exact⟨c,hc',o,L _ _ (l _ _ ho),hd⟩
  .obtain ⟨v,z⟩:=I3.cell x c (Z x c e)
   obtain⟨o,ho,hd⟩:=z;exact⟨v,o,L _ _ ho,hd⟩
 have B:CB X own E scope G U tg cl D C fp it tn J A s3:=⟨T,N2,λb N=>Zc (G1 b N),f2,fD,I3,by rw[F];exact yf (yG _),λH' hn=>O.fpOk (by rw[F,g];exact yY _) hn⟩;have S:=λt=>loop cl D C fp it tn J A s3 {w with heap:=h4,toks:=t} B hR (I4 t) (T.keep 0 _ _ G3 λb _ o e=>L _ _ (l _ _ e)) ⟨_,L _ _ D3⟩;rw[<-hC,<-g];exact codeAny_compStart_list (S _) (T.self _ 0 _ _ _ (T.keep 0 _ _ G3 λb _ o e=>L _ _ (l _ _ e)) (S _))
theorem CB.stop(B:CB X own ix scope Z U tg cl D C fp it tn J S s3)(G:Inv (VL X (Ve X own ix) scope cl C (D::fp) s3 S) [(D,oD)] τ H5 s6)(T:M.length<sizeLine)(R:Vals M L)(A:oD={cls:=.type "list",data:=.seq L.toArray nn}):
  Inv X Z U (upd H5 D (.lst M)) s6/\UI X Z (upd H5 D (.lst M)) C/\(∃m,s6.heap.Ns C m)/\H5 D=none:=by
 obtain⟨m,O,_⟩:=id G.loc
 have I:Inv X Z U H5 s6:=B.I3.call' (ch:=D::fp) G.os G.base G.hok G.bare λb E=>by
  rcases Zb.mp E with z|z
  .subst z
   exact⟨B.fD.2.2.2.1,B.fD.2.1,B.fD.2.2.2.2.1,B.fD.2.2.2.2.2⟩
  .have f:=B.f2 b z
   exact⟨f.2.2.2.1,f.2.1,f.2.2.2.2.1,f.2.2.2.2.2⟩
 obtain⟨F,N,_⟩:=G.pin (D,oD) (by simp);subst A;exact⟨I.retrack (o:=.lst M) N ⟨N,B.fD.2⟩ ⟨Zf T,L,nn,R,F⟩,B.fC _ (by rw[Yd B.CD];exact G.free),⟨m,O⟩,N⟩
theorem Dk(R:Inv X Z U L s6)(J:UI X Z L C)(N:∃m,s6.heap.Ns C m)(q:Q (.ref D) L):compPost (model X.prog X.w) X.A X.xe none (EP X Z U Q) (.ref D) C (.ok .next) s6:=by
 obtain⟨m,M⟩:=N;exact⟨m,M,λT G=>⟨.ref D,_,R.turned (it:=C) (t':=s6.toks) (λb o O e=>(G.2 b O).trans e) J.1 J.2.1 J.2.2.2.1 J.2.2.2.2.1 J.2.2.2.2.2,rfl,q⟩⟩
theorem Dj{F:Ends}(j:X.N.Nodup)(T:X.N[i0]?=some x0)(N:Loc X.env.scope x0)(P:X.fn x0=true\/X.env.scope.names.lookup x0=some .local)(t:Inv X Z U M s6)(G:UI X Z M C)(S:∃m,s6.heap.Ns C m)(q:Vu i0 (.ref D) U M F.nx):
  compPost (model X.prog X.w) X.A X.xe (some (assign (.Name x0 py) X.env)) (λ_ I=>∃E M,Inv X Z E M I/\F.nx E M) (.ref D) C (.ok .next) s6:=by
 obtain⟨m,R⟩:=S;show wpAny _ X.A (assign (.Name x0 py) X.env (.ref D)) _ _ _;refine wpAny_assign_Name (Rh (v:=.ref D) t j T N rfl (λA y J=>?_) P);obtain⟨a,J,L⟩:=J
 have B:C≠a:=by
  rcases L with L|L
  .rw [L];exact G.2.1
  .exact λz=>G.2.2.2.2.1 x0 a L z.symm
 exact⟨m,R.sameBut J B,λg O=>⟨_,_,y.turned (it:=C) (t':=A.toks) (λb o Q e=>(O.2 b Q).trans e) G.1 G.2.1 G.2.2.2.1 G.2.2.2.2.1 G.2.2.2.2.2,q⟩⟩
theorem Mo(J:swapsWith (.ListComp e gens scope pos) (some (.Name x0 py)) spos.line X.env=pure true)(h:wpAny (model X.prog X.w) X.A (comprehension (.ListComp e gens scope pos) scope X.env (firstIterPos gens pos) (newList []) (firstAsync gens) (firstIter gens X.env) (some (assign (.Name x0 py) X.env))) (λ_ G=>∃L M,Inv X Z L M G/\D0.nx L M) X.xe s):
  wpAny (model X.prog X.w) X.A (exec (.Assign [.Name x0 py] (.ListComp e gens scope pos) spos) X.env) (SP X Z D0) X.xe s:=by
 rw[exec_Assign_Name_used _ _ _ _ J];refine Zj (ya (Zj (?_:wpAny _ X.A (do let _ <-comprehension (.ListComp e gens scope pos) scope X.env _ (newList []) _ _ (some (assign (.Name x0 py) X.env))) _ _ s)));exact Zj (Zl h (λ_ G N=>Zk (Zk N)) λ_ _ e=>e)
theorem CB.loop1(B:CB X own ix scope I U tg F D C M it tn J h s3)(hc:X.calm=true)(M2:GK own.length g)(hg:∀F C M s H,PG (VL X (Ve X own ix) scope F C M s H) tg g)(he:∀F C M s H,PE (VL X (Ve X own ix) scope F C M s H) elt te)(cw:MA J g te (Vv own.length ix U) Q h)(R1:∀a A O,Inv X I U (upd A D (.lst O)) a->UI X I (upd A D (.lst O)) C->(∃m,a.heap.Ns C m)->Q (.ref D) (upd A D (.lst O))->Rs (.ok .next) a)(I4:Inv (VL X (Ve X own ix) scope F C (D::M) s3 h) [] (Vv own.length ix U) h t)(J5:tn 0 t.heap)(lD:t.heap.PlainList D (List.toArray [])):
  codeAny (model X.prog X.w) X.A (.compLoop (.ListComp elt [⟨tg,iter,[],0⟩] scope pos) 0 (.ref it) (.ref D) (compEnvC scope F C X.env)) Rs t:=by
 obtain⟨W,⟨m0,w0⟩,turn⟩:=cw;have T:=B.T;have N:=B.ok;have Z9:=B.nfp
 let E:Cx:=VL X (Ve X own ix) scope F C (D::M) s3 h
 have f:∀{S:Hp}{pl:kb},(∀p∈pl,p.1=D)->(∀b∈M,S b=none)->∀b∈M,UI E pl S b:=λ{S pl} R hn b L=>
  ⟨hn b L,(N.exf b (ZK _ L)).1,N.exfs b (ZK _ L),.inl (ZK _ L),(N.exf b (ZK _ L)).2,λp G2 z=>Z9 b L (z ▸ R p (by
   have q:p∈([]:kb)++ pl:=G2;simpa using q))⟩
 have dX:D≠E.env.locals:=(N.exf D ZY).1;have dF:D∉E.fs:=N.exfs D ZY;refine N7 (λn s'=>∃i O Z S,Inv E [] (Vv own.length ix U) S s'/\tn i s'.heap/\(∀b∈M,S b=none)/\S D=none/\s'.heap.PlainList D (List.toArray Z)/\Vals O Z/\W i n O S) ?_ m0
  ⟨0,[],[],h,I4,J5,λb L=>(B.f2 b L).1,B.fD.1,lD,.nil,w0⟩
 rintro n t ⟨i,O,Z,A,I5,Z8,J2,d5,⟨nn,l5⟩,v5,w5⟩;obtain⟨hz,c⟩:=turn i n O A w5
 let oD:Obj:={cls:=.type "list",data:=.seq Z.toArray nn}
 have G:∀p∈ [((D,oD):Addr×Obj)],p.1=D:=λp R=>by
  have e:p=(D,oD):=by simpa using R
  rw[e]
 have J4:Inv E [(D,oD)] (Vv own.length ix U) A t:=I5.pins_of λp R=>by
  have e:p=(D,oD):=by simpa using R
  subst e;exact⟨l5,d5,dX,dF,λv z=>nomatch z⟩
 rcases c with⟨stop,qn⟩|⟨go,step⟩
 .refine thn (T.done E rfl rfl rfl hc i _ t _ A _ J4 (f G J2) Z8 stop) λr a ⟨hr,I6⟩=>?_
  subst hr;obtain⟨z1,z2,z3,nD⟩:=B.stop I6 hz v5 rfl;exact R1 a A O z1 z2 z3 (qn D nD)
 .refine thn (T.item E rfl rfl rfl hc i _ t _ A _ J4 (f G J2) Z8 go) λr a ⟨u,hr,h6⟩=>?_
  subst hr;refine thn h6 λ_ s7 ⟨x,H7,I7,r7,y7,P,N2⟩=>?_;have R4:=I7.pinned (f G N2) (T.obj _ _ P);refine thn (hg F C (D::M) s3 h _ s7 _ H7 x u _ R4 r7 (M2 _ _ _ _ (step x H7 y7))) λ_ s8 ⟨σ8,H8,I8,q8,l8,k8⟩=>?_;refine thn (he F C (D::M) s3 h _ s8 σ8 H8 _ I8 q8) λyv s9 ⟨y,H9,I9,r9,m',G3,w9⟩=>?_;obtain⟨gD,nD,_⟩:=I9.pin (D,oD) (by simp);have J1:Z.length=O.length:=v5.length.symm;refine vP (l:=D) (items:=Z.toArray) ⟨nn,gD⟩ (λh' L1 G1=>?_) (by rw[ZM,J1];exact Zf hz);have kp:∀b o,b≠D->s9.heap.get? b=some o->h'.get? b=some o:=λb o L q=>(G1.2 b L).trans q
  have R3:Inv E (VT M s7.heap) σ8 H9 s9:=I9.pins_of λp R=>I9.pin p (by
   refine ZQ _ (ZQ _ R))
  have k:∀p∈E.pn++ VT M s7.heap,p.1≠D:=λp R=>by
   have q:p∈([]:kb)++ VT M s7.heap:=R;exact Z9 _ (Xn (by simpa using q)).1
  have w:Inv E (VT M s7.heap) σ8 H9 {s9 with heap:=h',toks:=s9.toks}:=R3.turned (it:=D) kp nD dX (.inl ZY) (N.exf D ZY).2 k;refine⟨m',G3,i+1,O++[y],Z++[yv],H9,?_,?_,?_,nD,?_,v5.append (.cons r9 .nil),w9⟩
  .refine Inv.weak (w.pins_of (pins':=[]) λp R=>nomatch R) (by rw[l8]) λj v hj=>?_
   by_cases hlt:j<own.length
   .unfold Vv at hj
    rw[zn (by simpa using hlt),yo,Zn hlt]at hj;cases hj
   .have e:σ8[j]?=(Vv own.length ix U)[j]?:=by
     have q:=congrArg (λl:List (kJ)=>l[j-own.length]?) k8;simp only[yL]at q
     rwa [vU (yU hlt)]at q
    rw[e];exact hj
  .exact T.keep _ _ _ P λb L o e=>(w.pin (b,o) (ZQ _ (Vt L e))).1
  .intro b L
   obtain⟨o,e,d⟩:=T.obj _ _ P b L;exact(w.pin (b,o) (ZQ _ (Vt L e))).2.1
  .have e:(Z++[yv]).toArray=Z.toArray.push yv:=by simp
   rw[e];exact L1
end
theorem M9(I:Nat->Shared->Prop)(turn:∀n s,I n s->wpAny (model prog w) A (pyNext it) (λr M=>match r with
   |none=>R (.ok .next) M
   |some v=>wpAny (model prog w) A (letOwnedTupleGo target it v) (λ_ L=>wpAny (model prog w) A (assign target env v) (λ_ B=>wpAny (model prog w) A (isTrue ct env (eval ct env)) (λb G=>if b=true then wpAny (model prog w) A (eval elt env) (λx T=>
     wpAny (model prog w) A (call (.builtin "list.append") [acc,x]) (λ_ O=>∃m,m<n/\I m O) (λ_ _=>False) T)
     (λ_ _=>False) G else ∃m,m<n/\I m G) (λ_ _=>False) B) (λ_ _=>False) L) (λ_ _=>False) M) (λ_ _=>False) s)(n:Nat)(h:I n s):codeAny (model prog w) A (.compLoop (.ListComp elt [⟨target,iter,[ct],0⟩] scope pos) 0 it acc env) R s:=by
 refine codeAny_loop rfl I (λn s E=>wpAny_noted (m:=compTurn (.ListComp elt [⟨target,iter,[ct],0⟩] scope pos) 0 it acc env) ?_) n h;rw[compTurn_list];refine Zj (ya (Zj (Zl (turn n s E) (λr M D=>?_) λ_ _ Z=>Z.elim)))
 cases r with
 |none=>exact Zk D
 |some v=>
  refine Zj (Zl D (λ_ L N=>Zj (Zl N (λ_ B U=>?_) λ_ _ Z=>Z.elim)) λ_ _ Z=>Z.elim);dsimp only;refine Zj ?_;rw[vb];simp only[if_true];refine Zj (Zj (Zl U (λb G J=>Zk ?_) λ_ _ Z=>Z.elim));dsimp only;rw[List.forIn_nil];refine Zk ?_
  cases b with
  |true=>
   rw[Zn rfl]at J;simp only[if_true];exact Zj (Zj (Zl J (λx T S=>Zj (Zl S (λ_ O F=>Zk (Zk ⟨rfl,F⟩)) λ_ _ Z=>Z.elim)) λ_ _ Z=>Z.elim))
  |false=>
   rw[Zo (by simp)]at J;simp only[Zo Zg];exact Zk ⟨rfl,J⟩
def RS(J:It)(g:TG)(tc:TT)(te:TE)(s0:St)(Q:VK)(H1:Hp):Prop:=∃W:Nat->Nat->List V->Hp->Prop,(∃m,W 0 m [] H1)/\∀i m Z H,W i m Z H->
 Z.length<sizeLine/\((J.stop i H/\∀p,H p=none->Q (.ref p) (upd H p (.lst Z))) \/
  (J.go i H/\∀x M,J.yld i H x M->g x s0 M fun σ2 O=>tc σ2 O λb L=>if b=true then te σ2 L λy N=>∃G,G<m/\W (i+1) G (Z++[y]) N else ∃G,G<m/\W (i+1) G Z L))
def IZ(k:Nat)(ix:List Nat)(wi:TI)(g:TG)(tc:TT)(te:TE):TE:=λU H Q=>wi U H λJ Z=>RS J g tc te (Vv k ix U) Q Z
theorem RP(n:Nat)(C:n<sizeLine)(L:Nat->List V->Hp->Prop)(S:L 0 [] H)(O:∀i Z H,L i Z H->Z.length<=i)(D:∀i Z H,i<n->L i Z H->J.go i H)(M:∀Z H,L n Z H->J.stop n H)(F:∀i Z H x T (R:Bool->V->Hp->Prop),i<n->L i Z H->J.yld i H x T->(∀v G,L (i+1) (Z++[v]) G->R true v G)->(∀G,L (i+1) Z G->R false .non G)->g x s0 T λE U=>tc E U λb G=>if b=true then te E G (R true)else R false .non G)(A:∀Z H p,L n Z H->H p=none->Q (.ref p) (upd H p (.lst Z))):
  RS J g tc te s0 Q H:=by
 refine⟨λi m Z H=>m=n-i/\i<=n/\L i Z H,⟨n,by simp,Za _,S⟩,?_⟩;rintro i m Z H ⟨rfl,P,p⟩;have X:=O i Z H p;refine⟨by omega,?_⟩
 by_cases hlt:i<n
 .exact .inr ⟨D i Z H hlt p,λx T y=>F i Z H x T (λb v G=>if b=true then ∃N,N<n-i/\N=n-(i+1)/\i+1<=n/\L (i+1) (Z++[v]) G else ∃N,N<n-i/\N=n-(i+1)/\i+1<=n/\L (i+1) Z G) hlt p y
   (λv G B=>by rw[Zn rfl];exact⟨n-(i+1),by omega,rfl,hlt,B⟩) λG B=>by rw[Zo (by simp)];exact⟨n-(i+1),by omega,rfl,hlt,B⟩⟩
 .have e:i=n:=by omega
  subst e;exact .inl ⟨M Z H p,λa I=>A Z H a p I⟩
section
theorem CB.loopI(B:CB X own ix scope f U tg F D C L it tn J w s3)(hc:X.calm=true)(R7:GK own.length g)(hg:∀F C L s H,PG (VL X (Ve X own ix) scope F C L s H) tg g)(R8:∀F C L s H,PT (VL X (Ve X own ix) scope F C L s H) ct tc)(he:∀F C L s H,PE (VL X (Ve X own ix) scope F C L s H) elt te)(cw:RS J g tc te (Vv own.length ix U) Q w)(T1:∀s6 k E,Inv X f U (upd k D (.lst E)) s6->UI X f (upd k D (.lst E)) C->(∃m,s6.heap.Ns C m)->Q (.ref D) (upd k D (.lst E))->Rs (.ok .next) s6)(I4:Inv (VL X (Ve X own ix) scope F C (D::L) s3 w) [] (Vv own.length ix U) w s5)(R1:tn 0 s5.heap)(lD:s5.heap.PlainList D (List.toArray [])):
  codeAny (model X.prog X.w) X.A (.compLoop (.ListComp elt [⟨tg,iter,[ct],0⟩] scope pos) 0 (.ref it) (.ref D) (compEnvC scope F C X.env)) Rs s5:=by
 obtain⟨W,⟨m0,w0⟩,turn⟩:=cw;have T:=B.T;have O:=B.ok;have G1:=B.nfp
 let R:Cx:=VL X (Ve X own ix) scope F C (D::L) s3 w
 have J2:∀{h:Hp}{pl:kb},(∀p∈pl,p.1=D)->(∀b∈L,h b=none)->∀b∈L,UI R pl h b:=λ{h pl} S hn b G=>
  ⟨hn b G,(O.exf b (ZK _ G)).1,O.exfs b (ZK _ G),.inl (ZK _ G),(O.exf b (ZK _ G)).2,λp R5 z=>G1 b G (z ▸ S p (by
   have q:p∈([]:kb)++ pl:=R5;simpa using q))⟩
 have dX:D≠R.env.locals:=(O.exf D ZY).1;have dF:D∉R.fs:=O.exfs D ZY;refine M9 (λn s'=>∃i E Z h,Inv R [] (Vv own.length ix U) h s'/\tn i s'.heap/\(∀b∈L,h b=none)/\h D=none/\s'.heap.PlainList D (List.toArray Z)/\Vals E Z/\W i n E h) ?_ m0
  ⟨0,[],[],w,I4,R1,λb G=>(B.f2 b G).1,B.fD.1,lD,.nil,w0⟩
 rintro n s5 ⟨i,E,Z,k,I5,J5,G3,d5,⟨nn,l5⟩,v5,w5⟩;obtain⟨hz,J1⟩:=turn i n E k w5
 let oD:Obj:={cls:=.type "list",data:=.seq Z.toArray nn}
 have N:∀p∈ [((D,oD):Addr×Obj)],p.1=D:=λp S=>by
  have e:p=(D,oD):=by simpa using S
  rw[e]
 have M2:Inv R [(D,oD)] (Vv own.length ix U) k s5:=I5.pins_of λp S=>by
  have e:p=(D,oD):=by simpa using S
  subst e;exact⟨l5,d5,dX,dF,λv z=>nomatch z⟩
 rcases J1 with⟨stop,qn⟩|⟨go,step⟩
 .refine thn (T.done R rfl rfl rfl hc i _ s5 _ k _ M2 (J2 N G3) J5 stop) λr s6 ⟨hr,I6⟩=>?_
  subst hr;obtain⟨z1,z2,z3,nD⟩:=B.stop I6 hz v5 rfl;exact T1 s6 k E z1 z2 z3 (qn D nD)
 .refine thn (T.item R rfl rfl rfl hc i _ s5 _ k _ M2 (J2 N G3) J5 go) λr s6 ⟨u,hr,h6⟩=>?_
  subst hr;refine thn h6 λ_ a ⟨x,H7,I7,r7,y7,A,T0⟩=>?_;have T2:=I7.pinned (J2 N T0) (T.obj _ _ A);refine thn (hg F C (D::L) s3 w _ a _ H7 x u _ T2 r7 (R7 _ _ _ _ (step x H7 y7))) λ_ s8 ⟨σ8,H8,I8,q8,l8,k8⟩=>?_;refine thn (R8 F C (D::L) s3 w _ s8 σ8 H8 _ I8 q8) λcb R3 ⟨N2,J4,t⟩=>?_
  have Z8:∀p∈R.pn++ VT L a.heap,p.1≠D:=λp S=>by
   have q:p∈([]:kb)++ VT L a.heap:=S;exact G1 _ (Xn (by simpa using q)).1
  have c:∀{P:Hp}{I:Shared},Inv R (VT L a.heap) σ8 P I->Inv R [] (Vv own.length ix U) P I:=λ{P I} M=>by
   refine Inv.weak (M.pins_of (pins':=[]) λp S=>nomatch S) (by rw[l8]) λj v hj=>?_
   by_cases hlt:j<own.length
   .unfold Vv at hj
    rw[zn (by simpa using hlt),yo,Zn hlt]at hj;cases hj
   .have e:σ8[j]?=(Vv own.length ix U)[j]?:=by
     have q:=congrArg (λl:List (kJ)=>l[j-own.length]?) k8;simp only[yL]at q
     rwa [vU (yU hlt)]at q
    rw[e];exact hj
  have L1:∀{P:Hp}{I:Shared},Inv R ((D,oD)::VT L a.heap) σ8 P I->Inv R (VT L a.heap) σ8 P I:=λ{P I} I9=>I9.pins_of λp S=>I9.pin p (ZQ _ (ZK _ S))
  cases cb with
  |false=>
   rw[Zo (by simp)]at t;rw[Zo (by simp)];obtain⟨m',Z9,w9⟩:=t;obtain⟨gD,nD,_⟩:=J4.pin (D,oD) (by simp);have M:=L1 J4;refine⟨m',Z9,i+1,E,Z,N2,c M,?_,?_,nD,⟨nn,gD⟩,v5,w9⟩
   .exact T.keep _ _ _ A λb G o e=>(M.pin (b,o) (ZQ _ (Vt G e))).1
   .intro b G
    obtain⟨o,e,d⟩:=T.obj _ _ A b G;exact(M.pin (b,o) (ZQ _ (Vt G e))).2.1
  |true=>
   rw[Zn rfl]at t;rw[Zn rfl];refine thn (he F C (D::L) s3 w _ R3 σ8 N2 _ J4 t) λyv I ⟨y,P,I9,r9,m',Z9,w9⟩=>?_;obtain⟨gD,nD,_⟩:=I9.pin (D,oD) (by simp);have G2:Z.length=E.length:=v5.length.symm;refine vP (l:=D) (items:=Z.toArray) ⟨nn,gD⟩ (λh' R6 R4=>?_) (by rw[ZM,G2];exact Zf hz);have kp:∀b o,b≠D->I.heap.get? b=some o->h'.get? b=some o:=λb o G q=>(R4.2 b G).trans q;have M:Inv R (VT L a.heap) σ8 P {I with heap:=h',toks:=I.toks}:=(L1 I9).turned (it:=D) kp nD dX (.inl ZY) (O.exf D ZY).2 Z8;refine⟨m',Z9,i+1,E++[y],Z++[yv],P,c M,?_,?_,nD,?_,v5.append (.cons r9 .nil),w9⟩
   .exact T.keep _ _ _ A λb G o e=>(M.pin (b,o) (ZQ _ (Vt G e))).1
   .intro b G
    obtain⟨o,e,d⟩:=T.obj _ _ A b G;exact(M.pin (b,o) (ZQ _ (Vt G e))).2.1
   .have e:(Z++[yv]).toArray=Z.toArray.push yv:=by simp
    rw[e];exact R6
end
abbrev two(elt tg iter tg2 iter2:Expr)(scope:Scope)(pos:Pos):Expr:=.ListComp elt [⟨tg,iter,[],0⟩,⟨tg2,iter2,[],0⟩] scope pos
section
theorem B7:compTurn (two elt tg iter tg2 iter2 scope pos) 0 it acc env=(standAt iter.pos >>=λ_=>pyNext it >>=λr=>match r with
  |none=>pure (.done .next)
  |some v=>letOwnedTupleGo tg it v >>=λ_=>assign tg env v >>=λ_=>eval iter2 env >>=λx=>standAt iter2.pos >>=λ_=>foldedSetIterable iter2 env x >>=λx=>holding [x] (pyIter x) >>=λj=>
    runOwn (.compStart (two elt tg iter tg2 iter2 scope pos) 1 j acc env) env >>=λ_=>again (.compLoop (two elt tg iter tg2 iter2 scope pos) 0 it acc env)):=by rfl
theorem De:compTurn (two elt tg iter tg2 iter2 scope pos) 1 it acc env=(standAt iter2.pos >>=λ_=>pyNext it >>=λr=>match r with
  |none=>pure (.done .next)
  |some v=>letOwnedTupleGo tg2 it v >>=λ_=>assign tg2 env v >>=λ_=>(eval elt env >>=λx=>call (.builtin "list.append") [acc,x] >>=λ_=>pure ()) >>=λ_=>
    again (.compLoop (two elt tg iter tg2 iter2 scope pos) 1 it acc env)):=by rfl
theorem LU(I:Nat->Shared->Prop)(turn:∀n s,I n s->wpAny (model prog w) A (pyNext it) (λr Z=>match r with
   |none=>R (.ok .next) Z
   |some v=>wpAny (model prog w) A (letOwnedTupleGo tg2 it v) (λ_ M=>wpAny (model prog w) A (assign tg2 env v) (λ_ L=>wpAny (model prog w) A (eval elt env) (λx G=>
     wpAny (model prog w) A (call (.builtin "list.append") [acc,x]) (λ_ J=>∃m,m<n/\I m J) (λ_ _=>False) G) (λ_ _=>False) L) (λ_ _=>False) M) (λ_ _=>False) Z) (λ_ _=>False) s)(n:Nat)(h:I n s):codeAny (model prog w) A (.compLoop (two elt tg iter tg2 iter2 scope pos) 1 it acc env) R s:=by
 refine codeAny_loop rfl I (λn s O=>wpAny_noted (m:=compTurn (two elt tg iter tg2 iter2 scope pos) 1 it acc env) ?_) n h;rw[De];refine Zj (ya (Zj (Zl (turn n s O) (λr Z N=>?_) λ_ _ z=>z.elim)))
 cases r with
 |none=>exact Zk N
 |some v=>
  exact Zj (Zl N (λ_ M E=>Zj (Zl E (λ_ L D=>Zj (Zj (Zl D (λx G B=>Zj (Zl B
   (λ_ J T=>Zk (Zk ⟨rfl,T⟩)) λ_ _ z=>z.elim)) λ_ _ z=>z.elim))) λ_ _ z=>z.elim)) λ_ _ z=>z.elim)
theorem Nq(J:codeAny (model prog w) A (.compLoop (two elt tg iter tg2 iter2 scope pos) 1 it acc env) R s)(h:wpAny (model prog w) A (pyIter it) (λj Z=>codeAny (model prog w) A (.compLoop (two elt tg iter tg2 iter2 scope pos) 1 j acc env) R Z) (λ_ _=>False) s):
  codeAny (model prog w) A (.compStart (two elt tg iter tg2 iter2 scope pos) 1 it acc env) R s:=by
 refine codeAny_of_tree (wpAny_notedAt (m:=compStart (two elt tg iter tg2 iter2 scope pos) 1 it acc env) (pos:=theWindowsPlace) ?_);simp only[compStart];refine Zj (m:=ask) (wpAny_askSetting ?_)
 split
 .exact Zj (Zk (Zk ⟨rfl,J⟩))
 .exact Zj (vg (Zj (ya (Zj (Zl h (λj Z G=>Zk ⟨rfl,G⟩) λ_ _ z=>z.elim)))))
theorem Kp(I:Nat->Shared->Prop)(turn:∀n s,I n s->wpAny (model prog w) A (pyNext it) (λr Z=>match r with
   |none=>R (.ok .next) Z
   |some v=>wpAny (model prog w) A (letOwnedTupleGo tg it v) (λ_ N=>wpAny (model prog w) A (assign tg env v) (λ_ M=>wpAny (model prog w) A (eval iter2 env) (λx L=>
     wpAny (model prog w) A (pyIter x) (λj G=>codeAny (model prog w) (A.mark none) (.compStart (two elt tg iter tg2 iter2 scope pos) 1 j acc env) (λr J=>match r with|.ok _=>∃m,m<n/\I m J|.error _=>False) G) (λ_ _=>False) L) (λ_ _=>False) M) (λ_ _=>False) N) (λ_ _=>False) Z) (λ_ _=>False) s)(B:∀x,foldedSetIterable iter2 env x=pure x)(n:Nat)(h:I n s):codeAny (model prog w) A (.compLoop (two elt tg iter tg2 iter2 scope pos) 0 it acc env) R s:=by
 refine codeAny_loop rfl I (λn s D=>wpAny_noted (m:=compTurn (two elt tg iter tg2 iter2 scope pos) 0 it acc env) ?_) n h;rw[B7];refine Zj (ya (Zj (Zl (turn n s D) (λr Z T=>?_) λ_ _ z=>z.elim)))
 cases r with
 |none=>exact Zk T
 |some v=>
  refine Zj (Zl T (λ_ N U=>Zj (Zl U (λ_ M S=>Zj (Zl S (λx L F=>Zj (ya ?_)) λ_ _ z=>z.elim)) λ_ _ z=>z.elim)) λ_ _ z=>z.elim);rw[B x];refine Zj (Zk (Zj (wpAny_holding (Zl F (λj G E=>Zj (wpAny_runOwn (yX E λr J O=>?_))) λ_ _ z=>z.elim))))
  cases r with
  |error e=>exact O.elim
  |ok f=>exact Zk ⟨rfl,O⟩
end
def In2(wi2:TI)(te:TE)(W:Nat->Nat->List V->Hp->Prop)(i m:Nat)(ys:kF):kI:=λU H=>wi2 U H λN B=>∃M:Nat->Nat->List V->Hp->Prop,(∃L,M 0 L ys B)/\∀j L G J,M j L G J->
 G.length<sizeLine/\((N.stop j J/\∃O,O<m/\W (i+1) O G J) \/
  (N.go j J/\∀y R,N.yld j J y R->te (U.set 1 (some y)) R λv T=>∃Z,Z<L/\M (j+1) Z (G++[v]) T))
def Dx(J:It)(wi2:TI)(te:TE)(s0:St)(Q:VK)(H1:Hp):Prop:=∃W:Nat->Nat->List V->Hp->Prop,(∃m,W 0 m [] H1)/\∀i m Z H,W i m Z H->
 Z.length<sizeLine/\((J.stop i H/\∀p,H p=none->Q (.ref p) (upd H p (.lst Z))) \/
  (J.go i H/\∀x G,J.yld i H x G->In2 wi2 te W i m Z (s0.set 0 (some x)) G))
def Ia(ix:List Nat)(wi wi2:TI)(te:TE):TE:=λU H Q=>wi U H λJ Z=>Dx J wi2 te (Vv 2 ix U) Q Z
theorem QV(h:Vu i x U H Q):Vu i x U H fun σ2 Z=>Q σ2 Z/\σ2=U.set i (some x):=⟨h,rfl⟩
section
theorem CB.loop2(B:CB X [x1,x2] ix scope Z8 U (.Name x1 p1) E D C Z it tn J w s3)(hc:X.calm=true)(hg:∀E C Z s H,PG (VL X (Ve X [x1,x2] ix) scope E C Z s H) (.Name x1 p1) (Vu 0))(I0:∀E C Z s H,PI (VL X (Ve X [x1,x2] ix) scope E C Z s H) (.Name x2 p2) iter2 wi2)(I2:∀E C Z s H,PG (VL X (Ve X [x1,x2] ix) scope E C Z s H) (.Name x2 p2) (Vu 1))(he:∀E C Z s H,PE (VL X (Ve X [x1,x2] ix) scope E C Z s H) elt te)(F6:∀env x,foldedSetIterable iter2 env x=pure x)(cw:Dx J wi2 te (Vv 2 ix U) Q w)(fin:∀g f A,Inv X Z8 U (upd f D (.lst A)) g->UI X Z8 (upd f D (.lst A)) C->(∃m,g.heap.Ns C m)->Q (.ref D) (upd f D (.lst A))->Rs (.ok .next) g)(I4:Inv (VL X (Ve X [x1,x2] ix) scope E C (D::Z) s3 w) [] (Vv ([x1,x2]:kq).length ix U) w s5)(D3:tn 0 s5.heap)(lD:s5.heap.PlainList D (List.toArray [])):
  codeAny (model X.prog X.w) X.A (.compLoop (two elt (.Name x1 p1) iter (.Name x2 p2) iter2 scope pos) 0 (.ref it) (.ref D) (compEnvC scope E C X.env)) Rs s5:=by
 have I1:GK ([x1,x2]:kq).length (Vu 0):=VR (i:=0) (by simp);obtain⟨W,⟨m0,w0⟩,turn⟩:=cw;have T:=B.T;have I:=B.ok;have T0:=B.nfp
 let N:Cx:=VL X (Ve X [x1,x2] ix) scope E C (D::Z) s3 w
 have N2:∀{R:Hp}{pl:kb},(∀p∈pl,p.1=D)->(∀b∈Z,R b=none)->∀b∈Z,UI N pl R b:=λ{R pl} M hn b G=>
  ⟨hn b G,(I.exf b (ZK _ G)).1,I.exfs b (ZK _ G),.inl (ZK _ G),(I.exf b (ZK _ G)).2,λp y z=>T0 b G (z ▸ M p (by
   have q:p∈([]:kb)++ pl:=y;simpa using q))⟩
 have dX:D≠N.env.locals:=(I.exf D ZY).1;have dF:D∉N.fs:=I.exfs D ZY;refine Kp (λn s'=>∃i A L R,Inv N [] (Vv ([x1,x2]:kq).length ix U) R s'/\tn i s'.heap/\(∀b∈Z,R b=none)/\R D=none/\s'.heap.PlainList D (List.toArray L)/\Vals A L/\W i n A R) ?_ (F6 _) m0
  ⟨0,[],[],w,I4,D3,λb G=>(B.f2 b G).1,B.fD.1,lD,.nil,w0⟩
 rintro n s5 ⟨i,A,L,f,I5,R7,T6,d5,⟨nn,l5⟩,v5,w5⟩;obtain⟨hz,L1⟩:=turn i n A f w5
 let oD:Obj:={cls:=.type "list",data:=.seq L.toArray nn}
 have F:∀p∈ [((D,oD):Addr×Obj)],p.1=D:=λp M=>by
  have e:p=(D,oD):=by simpa using M
  rw[e]
 have T9:Inv N [(D,oD)] (Vv ([x1,x2]:kq).length ix U) f s5:=I5.pins_of λp M=>by
  have e:p=(D,oD):=by simpa using M
  subst e;exact⟨l5,d5,dX,dF,λv z=>nomatch z⟩
 rcases L1 with⟨stop,qn⟩|⟨go,step⟩
 .refine thn (T.done N rfl rfl rfl hc i _ s5 _ f _ T9 (N2 F T6) R7 stop) λr g ⟨hr,I6⟩=>?_
  subst hr;obtain⟨z1,z2,z3,nD⟩:=B.stop I6 hz v5 rfl;exact fin g f A z1 z2 z3 (qn D nD)
 .refine thn (T.item N rfl rfl rfl hc i _ s5 _ f _ T9 (N2 F T6) R7 go) λr g ⟨u,hr,h6⟩=>?_
  subst hr;refine thn h6 λ_ O ⟨x,H7,I7,r7,y7,G2,fr7⟩=>?_;have I7':=I7.pinned (N2 F fr7) (T.obj _ _ G2);refine thn (hg E C (D::Z) s3 w _ O _ H7 x u _ I7' r7 (I1 _ _ _ _ (QV (Q:=In2 wi2 te W i n A) (step x H7 y7)))) λ_ s8 ⟨σ8,H8,I8,q8,l8,k8⟩=>?_;have e8:σ8=(Vv ([x1,x2]:kq).length ix U).set 0 (some x):=by exact q8.2
  replace q8:=q8.1;refine thn (I0 E C (D::Z) s3 w _ s8 σ8 H8 _ I8 q8) λv9 s9 h9=>thn h9 λjv P C2=>?_;obtain⟨F4,S,J1,J2,R5,ej,R4,T2,a,R1,W2,⟨F3,D0⟩,Z9⟩:=C2;subst ej;rw[Around.mark_none];obtain⟨gD0,F2,_⟩:=R4.pin (D,oD) (by simp);have T1:∀b∈S,b≠D:=λb G z=>(R1 b G).2.2.2.2.2 (D,oD) (by simp) z.symm
  have cut:∀{H9:Hp}{σ9:St}{s9:Shared}{more:kb},Inv N (([(D,oD)]++ VT Z O.heap)++ more) σ9 H9 s9->Inv N (VT Z O.heap) σ9 H9 s9:=λ{H9 σ9 s9 more} I9=>
   I9.pins_of λp M=>I9.pin p (ZQ _ (yA _ (ZQ _ M)))
  have G3:∀p∈N.pn++ VT Z O.heap,p.1≠D:=λp M=>by
   have q:p∈([]:kb)++ VT Z O.heap:=M;exact T0 _ (Xn (by simpa using q)).1
  have M2:∀{H9:Hp}{o9:Obj},(∀b∈S,H9 b=none)->∀b∈S,UI N ([(D,o9)]++ VT Z O.heap) H9 b:=λ{H9 o9} hn b G=>by
   obtain⟨_,k1,k2,k3,k4,k5⟩:=R1 b G;refine⟨hn b G,k1,k2,k3,k4,λp M=>?_⟩
   have y:p=(D,o9)\/p∈VT Z O.heap:=by
    have q:p∈([]:kb)++ ([(D,o9)]++ VT Z O.heap):=M;simpa using q
   rcases y with rfl|y
   .exact (T1 b G).symm
   .exact k5 p (by
     show p∈([]:kb)++ ([(D,oD)]++ VT Z O.heap);simp[y])
  let R2:Result->Shared->Prop:=λr g=>match r with
   |.ok _=>∃m,m<n/\∃i A L R,Inv N [] (Vv ([x1,x2]:kq).length ix U) R g/\tn i g.heap/\(∀b∈Z,R b=none)/\R D=none/\g.heap.PlainList D (List.toArray L)/\Vals A L/\W i m A R
   |.error _=>False
  have inner:∀(sA:Shared),(Inv N (VT Z O.heap) σ8 R5 sA/\J1 0 sA.heap/\sA.heap.PlainList D (List.toArray L))->codeAny (model X.prog X.w) X.A (.compLoop (two elt (.Name x1 p1) iter (.Name x2 p2) iter2 scope pos) 1 (.ref F4) (.ref D) (compEnvC scope E C X.env)) R2 sA:=λsA hA=>by
   refine LU (λk s'=>∃j h t R,Inv N (VT Z O.heap) σ8 R s'/\J1 j s'.heap/\(∀b∈S,R b=none)/\R D=none/\s'.heap.PlainList D (List.toArray t)/\Vals h t/\W2 j k h R) ?_ F3
    ⟨0,A,L,R5,hA.1,hA.2.1,λb G=>(R1 b G).1,F2,hA.2.2,v5,D0⟩
   rintro k sB ⟨j,h,t,HB,IB,R6,T5,dB,⟨nB,lB⟩,vB,wB⟩;obtain⟨F5,I3⟩:=Z9 j k h HB wB
   let oB:Obj:={cls:=.type "list",data:=.seq t.toArray nB}
   have T8:Inv N ([(D,oB)]++ VT Z O.heap) σ8 HB sB:=IB.pins_of λp M=>by
    rcases ZV.mp M with here|there
    .have e:p=(D,oB):=by simpa using here
     subst e;exact⟨lB,dB,dX,dF,λv z=>nomatch z⟩
    .exact IB.pin p (ZQ _ there)
   rcases I3 with⟨J4,m',F8,wO⟩|⟨go2,J5⟩
   .refine thn (T2.done N rfl rfl rfl hc j _ sB _ HB _ T8 (M2 T5) R6 J4) λr sC ⟨hr,IC⟩=>?_
    subst hr
    obtain⟨gC,nC,_⟩:=IC.pin (D,oB) (by
     show(D,oB)∈([]:kb)++ ([(D,oB)]++ VT Z O.heap);simp)
    have R3:Inv N (VT Z O.heap) σ8 HB sC:=IC.pins_of λp M=>IC.pin p (ZQ _ (ZQ _ M));refine⟨m',F8,i+1,h,t,HB,?_,?_,?_,nC,⟨nB,gC⟩,vB,wO⟩
    .refine Inv.weak (R3.pins_of (pins':=[]) λp M=>nomatch M) (by rw[l8]) λj v hj=>?_
     by_cases hlt:j<([x1,x2]:kq).length
     .unfold Vv at hj
      rw[zn (by simpa using hlt),yo,Zn hlt]at hj;cases hj
     .have e:σ8[j]?=(Vv ([x1,x2]:kq).length ix U)[j]?:=by
       have q:=congrArg (λl:List (kJ)=>l[j-([x1,x2]:kq).length]?) k8;simp only[yL]at q
       rwa [vU (yU hlt)]at q
      rw[e];exact hj
    .exact T.keep _ _ _ G2 λb G o e=>(R3.pin (b,o) (ZQ _ (Vt G e))).1
    .intro b G
     obtain⟨o,e,d⟩:=T.obj _ _ G2 b G;exact(R3.pin (b,o) (ZQ _ (Vt G e))).2.1
   .refine thn (T2.item N rfl rfl rfl hc j _ sB _ HB _ T8 (M2 T5) R6 go2) λr sC ⟨u2,hr,S2⟩=>?_
    subst hr;refine thn S2 λ_ sD ⟨y2,HD,ID,rD,yD,G1,frD⟩=>?_;have ID':=ID.pinned (M2 frD) (T2.obj _ _ G1);refine thn (I2 E C (D::Z) s3 w _ sD _ HD y2 u2 _ ID' rD (QV (Q:=λU H=>te U H λv H6=>∃c,c<k/\W2 (j+1) c (h++[v]) H6) (J5 y2 HD yD))) λ_ sE ⟨σE,HE,IE,qE⟩=>?_;have eE:σE=σ8.set 1 (some y2):=by exact qE.2
    replace qE:=qE.1;refine thn (he E C (D::Z) s3 w _ sE σE HE _ IE qE) λyv sF ⟨yy,HF,IF,rF,c,T3,wF⟩=>?_
    obtain⟨gD,nD,_⟩:=IF.pin (D,oB) (by
     show(D,oB)∈([]:kb)++ (([(D,oB)]++ VT Z O.heap)++ VT S sD.heap);simp)
    have T4:t.length=h.length:=vB.length.symm;refine vP (l:=D) (items:=t.toArray) ⟨nB,gD⟩ (λh' F9 F7=>?_) (by rw[ZM,T4];exact Zf F5);have kp:∀b o,b≠D->sF.heap.get? b=some o->h'.get? b=some o:=λb o G q=>(F7.2 b G).trans q;have IF':Inv N (VT Z O.heap) σE HF sF:=IF.pins_of λp M=>IF.pin p (ZQ _ (yA _ (ZQ _ M)));have IG:Inv N (VT Z O.heap) σE HF {sF with heap:=h',toks:=sF.toks}:=IF'.turned (it:=D) kp nD dX (.inl ZY) (I.exf D ZY).2 G3
    have T7:∀b∈S,∀o,sD.heap.get? b=some o->sF.heap.get? b=some o/\HF b=none:=λb G o q=>by
     have z:=IF.pin (b,o) (ZQ _ (ZQ _ (Vt G q)));exact⟨z.1,z.2.1⟩
    refine⟨c,T3,j+1,h++[yy],t++[yv],HF,?_,?_,?_,nD,?_,vB.append (.cons rF .nil),wF⟩
    .refine Inv.weak IG (by rw[eE,vK]) λq v hq=>?_
     rw[eE]
     have F1:q≠1:=λz=>by
      subst z;rw[e8]at hq;simp[Vv,List.getElem?_append]at hq
     rw[yB (Zq F1)];exact hq
    .exact T2.keep _ _ _ G1 λb G o q=>kp b o (T1 b G) (T7 b G o q).1
    .intro b G
     obtain⟨o,q,_⟩:=T2.obj _ _ G1 b G;exact(T7 b G o q).2
    .have e:(t++[yv]).toArray=t.toArray.push yv:=by simp
     rw[e];exact F9
  have R8:Inv N (VT Z O.heap) σ8 R5 P/\J1 0 P.heap/\P.heap.PlainList D (List.toArray L):=⟨R4.pins_of λp M=>R4.pin p (ZQ _ (ZQ _ M)),a,⟨nn,gD0⟩⟩;exact Nq (inner P R8) (T2.self _ 0 _ _ _ a (inner P R8))
theorem Vh(own:kq)(G:List Nat)(j:PI X tg iter wi)(R:GK own.length g)(y:∀M C L s H,PG (VL X (Ve X own G) scope M C L s H) tg g)(z:∀M C L s H,PE (VL X (Ve X own G) scope M C L s H) elt te)(t:X.calm=true:=by rfl)(Z:scope.kind=.function:=by rfl)(O:UT scope X.env.scope.names X.N G=true:=by rfl)(P:∀x,foldedSetIterable iter X.env x=pure x:=by intro _;rfl):
  PE X (.ListComp elt [⟨tg,iter,[],0⟩] scope pos) (QD own.length G wi g te):=by
 intro T s U H Q I h;rw[eval_ListComp];exact Uw own G j Z O P I h λM D C L v c J r u f B m k N S=>B.loop1 t R y z m (λd w p A F E q=>Dk A F E q) k N S
theorem Mp(own:kq)(G:List Nat)(c:X.N.Nodup)(E:X.N[i0]?=some x0)(O:Loc X.env.scope x0)(z:PI X tg iter wi)(F:GK own.length g)(t:∀M C L s H,PG (VL X (Ve X own G) scope M C L s H) tg g)(k:∀M C L s H,PE (VL X (Ve X own G) scope M C L s H) elt te)(p:X.calm=true:=by rfl)(Z:scope.kind=.function:=by rfl)(T:UT scope X.env.scope.names X.N G=true:=by rfl)(R:swapsWith (.ListComp elt [⟨tg,iter,[],0⟩] scope pos) (some (.Name x0 py)) spos.line X.env=pure true:=by rfl)(m:X.fn x0=true\/X.env.scope.names.lookup x0=some .local:=by first|exact .inl rfl|exact .inr rfl|assumption)(y:∀x,foldedSetIterable iter X.env x=pure x:=by intro _;rfl):
  PS X (.Assign [.Name x0 py] (.ListComp elt [⟨tg,iter,[],0⟩] scope pos) spos) (BN (QD own.length G wi g te) (Vu i0)):=by
 intro A s U H i I h;exact Mo R (Uw own G z Z T y I h λM D C L b v J o l r B d f N j=>B.loop1 p F t k d (λw e u Q P S q=>Dj c E O m Q P S q) f N j)
theorem Xl(own:kq)(G:List Nat)(y:PI X tg iter wi)(R:GK own.length g)(z:∀M C L s H,PG (VL X (Ve X own G) scope M C L s H) tg g)(T:∀M C L s H,PT (VL X (Ve X own G) scope M C L s H) ct tc)(t:∀M C L s H,PE (VL X (Ve X own G) scope M C L s H) elt te)(m:X.calm=true:=by rfl)(Z:scope.kind=.function:=by rfl)(O:UT scope X.env.scope.names X.N G=true:=by rfl)(j:∀x,foldedSetIterable iter X.env x=pure x:=by intro _;rfl):
  PE X (.ListComp elt [⟨tg,iter,[ct],0⟩] scope pos) (IZ own.length G wi g tc te):=by
 intro E s U H Q I h;rw[eval_ListComp];exact Uw own G y Z O j I h λM D C L w d J l v u B k p N P=>B.loopI m R z T t k (λf r c S A F q=>Dk S A F q) p N P
theorem Xk(own:kq)(G:List Nat)(d:X.N.Nodup)(E:X.N[i0]?=some x0)(O:Loc X.env.scope x0)(t:PI X tg iter wi)(F:GK own.length g)(m:∀M C L s H,PG (VL X (Ve X own G) scope M C L s H) tg g)(A:∀M C L s H,PT (VL X (Ve X own G) scope M C L s H) ct tc)(p:∀M C L s H,PE (VL X (Ve X own G) scope M C L s H) elt te)(c:X.calm=true:=by rfl)(Z:scope.kind=.function:=by rfl)(T:UT scope X.env.scope.names X.N G=true:=by rfl)(R:swapsWith (.ListComp elt [⟨tg,iter,[ct],0⟩] scope pos) (some (.Name x0 py)) spos.line X.env=pure true:=by rfl)(k:X.fn x0=true\/X.env.scope.names.lookup x0=some .local:=by first|exact .inl rfl|exact .inr rfl|assumption)(z:∀x,foldedSetIterable iter X.env x=pure x:=by intro _;rfl):
  PS X (.Assign [.Name x0 py] (.ListComp elt [⟨tg,iter,[ct],0⟩] scope pos) spos) (BN (IZ own.length G wi g tc te) (Vu i0)):=by
 intro S s U H n I h;exact Mo R (Uw own G t Z T z I h λM D C L e w J i b l B f u N y=>B.loopI c F m A p f (λr o v j Q P q=>Dj d E O k j Q P q) u N y)
theorem Ou(L:List Nat)(t:PI X (.Name x1 p1) iter wi)(m:∀G C Z s H,PG (VL X (Ve X [x1,x2] L) scope G C Z s H) (.Name x1 p1) (Vu 0))(T:∀G C Z s H,PI (VL X (Ve X [x1,x2] L) scope G C Z s H) (.Name x2 p2) iter2 wi2)(E:∀G C Z s H,PG (VL X (Ve X [x1,x2] L) scope G C Z s H) (.Name x2 p2) (Vu 1))(g:∀G C Z s H,PE (VL X (Ve X [x1,x2] L) scope G C Z s H) elt te)(k:X.calm=true:=by rfl)(M:scope.kind=.function:=by rfl)(R:UT scope X.env.scope.names X.N L=true:=by rfl)(z:∀x,foldedSetIterable iter X.env x=pure x:=by intro _;rfl)(O:∀F x,foldedSetIterable iter2 F x=pure x:=by intro _ _;rfl):
  PE X (.ListComp elt [⟨.Name x1 p1,iter,[],0⟩,⟨.Name x2 p2,iter2,[],0⟩] scope pos) (Ia L wi wi2 te):=by
 intro A s U H Q I h;rw[eval_ListComp];exact Uw [x1,x2] L t M R z I h λG D C Z r f J b w v B p c N y=>B.loop2 k m T E g O p (λu l d j P S q=>Dk j P S q) c N y
theorem Ol(L:List Nat)(f:X.N.Nodup)(A:X.N[i0]?=some x0)(O:Loc X.env.scope x0)(g:PI X (.Name x1 p1) iter wi)(k:∀G C Z s H,PG (VL X (Ve X [x1,x2] L) scope G C Z s H) (.Name x1 p1) (Vu 0))(F:∀G C Z s H,PI (VL X (Ve X [x1,x2] L) scope G C Z s H) (.Name x2 p2) iter2 wi2)(S:∀G C Z s H,PG (VL X (Ve X [x1,x2] L) scope G C Z s H) (.Name x2 p2) (Vu 1))(c:∀G C Z s H,PE (VL X (Ve X [x1,x2] L) scope G C Z s H) elt te)(d:X.calm=true:=by rfl)(M:scope.kind=.function:=by rfl)(E:UT scope X.env.scope.names X.N L=true:=by rfl)(R:swapsWith (.ListComp elt [⟨.Name x1 p1,iter,[],0⟩,⟨.Name x2 p2,iter2,[],0⟩] scope pos) (some (.Name x0 py)) spos.line X.env=pure true:=by rfl)(p:X.fn x0=true\/X.env.scope.names.lookup x0=some .local:=by first|exact .inl rfl|exact .inr rfl|assumption)(m:∀x,foldedSetIterable iter X.env x=pure x:=by intro _;rfl)(T:∀P x,foldedSetIterable iter2 P x=pure x:=by intro _ _;rfl):
  PS X (.Assign [.Name x0 py] (.ListComp elt [⟨.Name x1 p1,iter,[],0⟩,⟨.Name x2 p2,iter2,[],0⟩] scope pos) spos) (BN (Ia L wi wi2 te) (Vu i0)):=by
 intro Q s U H a I h;exact Mo R (Uw [x1,x2] L g M E m I h λG D C Z o r J n e b B u v N t=>B.loop2 d k F S c T u (λl i w z y j q=>Dj f A O p z y j q) v N t)
end
theorem RQ(n:Nat)(L:Nat->List V->Hp->Prop)(g:L 0 [] H)(T:∀i Z H,L i Z H->Z.length<sizeLine)(A:∀i Z H,i<n->L i Z H->J.go i H)(M:∀Z H,L n Z H->J.stop n H)(X:∀i Z H x F (R:List V->Hp->Prop),i<n->L i Z H->J.yld i H x F->(∀G D,L (i+1) G D->R G D)->wi2 (s0.set 0 (some x)) F λS D=>∃I:Nat->Nat->List V->Hp->Prop,(∃E,I 0 E Z D)/\∀j E G B,I j E G B->
   G.length<sizeLine/\((S.stop j B/\R G B)\/(S.go j B/\∀y U,S.yld j B y U->te ((s0.set 0 (some x)).set 1 (some y)) U λv k=>∃O,O<E/\I (j+1) O (G++[v]) k)))(q:∀Z H p,L n Z H->H p=none->Q (.ref p) (upd H p (.lst Z))):Dx J wi2 te s0 Q H:=by
 refine⟨λi m Z H=>m=n-i/\i<=n/\L i Z H,⟨n,by simp,Za _,g⟩,λi m Z H z=>?_⟩;obtain⟨rfl,c,p⟩:=z;refine⟨T i Z H p,?_⟩;rcases je i n with N|P
 .exact .inr ⟨A i Z H N p,λx F y=>X i Z H x F _ N p y λG D C=>⟨n-(i+1),by omega,rfl,N,C⟩⟩
 .have e:i=n:=by omega
  subst e;exact .inl ⟨M Z H p,λb t=>q Z H b p t⟩
theorem Nr{M:It}{S:TE}{U:St}{R:List V->Hp->Prop}(n:Nat)(J:Nat->List V->Hp->Prop)(k:J 0 X H3)(O:∀j Z H,J j Z H->Z.length<sizeLine)(A:∀j Z H,j<n->J j Z H->M.go j H)(G:∀Z H,J n Z H->M.stop n H)(q:∀j Z H y C (T:V->Hp->Prop),j<n->J j Z H->M.yld j H y C->(∀v B,J (j+1) (Z++[v]) B->T v B)->S (U.set 1 (some y)) C T)(g:∀Z H,J n Z H->R Z H):
  ∃I:Nat->Nat->List V->Hp->Prop,(∃E,I 0 E X H3)/\∀j E Z D,I j E Z D->
   Z.length<sizeLine/\((M.stop j D/\R Z D)\/(M.go j D/\∀y F,M.yld j D y F->S (U.set 1 (some y)) F λv B=>∃N,N<E/\I (j+1) N (Z++[v]) B)):=by
 refine⟨λj m Z H=>m=n-j/\j<=n/\J j Z H,⟨n,by simp,Za _,k⟩,λj m Z H z=>?_⟩;obtain⟨rfl,c,p⟩:=z;refine⟨O j Z H p,?_⟩;rcases je j n with L|t
 .exact .inr ⟨A j Z H L p,λy F P=>q j Z H y F _ L p P λv B Q=>⟨n-(j+1),by omega,rfl,L,Q⟩⟩
 .have e:j=n:=by omega
  subst e;exact .inl ⟨G Z H p,g Z H p⟩
end L2
namespace L2
open PySem PySem.Spec PyProof.Rows
section
def AY(K:W.Frag):List V->Hp->VK->Prop:=λZ H Q=>∃x T t b,Z=[x,.ty T]/\WC K H x t/\W.kitOne K t (.type T)=some b/\Q (.bl b) H
theorem Lz:UG X (.builtin "isinstance") (AY X.K):=by
 intro J s U H L N Q I r h;obtain⟨x,T,t,b,rfl,ty,e,q⟩:=h;obtain⟨u,M,rfl,G,Z⟩:=vals2 r;cases Z;exact Fe I G ty e λO=>⟨.bl b,H,I.tok _,rfl,q⟩
theorem Ra:∀{Z:kq}{J:kj},Vals (Z.map V.str) J->StrsAre J Z
 |[],_,r=>by cases r;exact .nil
 |y::Z,_,r=>by
  cases r with
  |cons h t=>
   obtain⟨G,e⟩:=h;subst e;exact .cons _ _ (Ra t)
def rJoin(K:W.Frag):V->List V->Hp->VK->Prop:=λx J H Q=>∃z p Z,x=.str z/\J=[.ref p]/\SqL K H p (Z.map V.str)/\(Z.map (·.length)).sum+Z.length*z.length<=16777216/\Q (.str (Txt.join z Z)) H
theorem PY:MtR X "str.join" (rJoin X.K):=by
 intro Z s U H x B v D Q I J G h;obtain⟨z,p,T,rfl,rfl,R,O,q⟩:=h;obtain⟨t,rfl⟩:=J;obtain⟨u,rfl,L⟩:=vals1 G;cases L;obtain⟨N,r,M,F⟩:=I.list R;exact join_list M.isList (by simpa using Ra r) O λE k=>⟨.str _,H,I.tok _,⟨_,rfl⟩,q⟩
def Cp:V->Option Int->Option Int->Hp->VK->Prop:=λx Z J H Q=>∃z,x=.str z/\z.length<=sizeLine/\Q (.str (Txt.slice z Z J)) H
theorem BZ:SlR X Cp:=by
 intro J s U H x v g m E C sl Q I B S D T h;obtain⟨z,rfl,A,q⟩:=h;obtain⟨t,rfl⟩:=B;refine⟨"str",_,F.slot_str_getitem.lookup,typeIs_str _ _ _,?_⟩
 have Z:∀(l u:Option (Int×Tok)),l.map (·.1)=E->u.map (·.1)=C->s.heap.IsSlice sl l u none->wpAny (model X.prog X.w) X.A (getItem (.str z t) (.ref sl)) (EP X J U Q) X.xe s:=λl u y P O=>by
  subst y;subst P;exact wpAny_getItem_str_slice O rfl (post_val_or_str ⟨ZZ (Txt.slice_le z (l.map (·.1)) (u.map (·.1))) A,λp k=>⟨.str _,H,I.tok _,⟨_,rfl⟩,q⟩⟩)
 obtain⟨o,M,L,G⟩:=S
 cases D with
 |none=>
  cases T with
  |none=>exact Z none none rfl rfl ⟨o,M,L,G⟩
  |int j N=>exact Z none (some (j,N)) rfl rfl ⟨o,M,L,G⟩
 |int i R=>
  cases T with
  |none=>exact Z (some (i,R)) none rfl rfl ⟨o,M,L,G⟩
  |int j N=>exact Z (some (i,R)) (some (j,N)) rfl rfl ⟨o,M,L,G⟩
theorem GD:∀{Z:List Bool}{J:kj},Vals (Z.map V.bl) J->∀(i:Nat)(v:Value),J[i]?=some v->∃b,Z[i]?=some b/\v=.bool b
 |[],_,r,i,v,e=>by cases r;simp at e
 |b::Z,_,r,i,v,e=>by
  cases r with
  |cons h t=>
   cases i with
   |zero=>
    have G:some _=some v:=e;cases G;exact⟨b,rfl,h⟩
   |succ j=>exact GD t j v e
theorem all_range:∀(Z:List Bool),((List.range Z.length).all λi=>(Z[i]?).getD true)=Z.all id:=λZ=>by
 have e:((List.range Z.length).map λi=>(Z[i]?).getD true)=Z:=List.ext_getElem (by simp) λi G J=>by simp[J]
 have z:=List.all_map (l:=List.range Z.length) (f:=λi=>(Z[i]?).getD true) (p:=id);rw[e]at z;exact z.symm
theorem WY(E:X.calm=true):UG X (.builtin "all") (λM H Q=>∃(p:Addr)(J:List Bool),M=[.ref p]/\SqL X.K H p (J.map V.bl)/\Q (.bl (J.all id)) H):=by
 intro O s U H M C Q I r h;obtain⟨p,J,rfl,T,q⟩:=h;obtain⟨u,rfl,R⟩:=vals1 r;cases R;obtain⟨Z,N,L,P⟩:=I.list T
 have B:p<s.heap.objs.size:=by
  obtain⟨o,n,e,_⟩:=L;exact ZN e
 have G:Z.length=J.length:=by
  have:=N.length;rw[ZA]at this;exact this.symm
 refine call_all_walk (yW L.isList ?_);refine⟨s.heap.objs.size,_,_,Z.toArray.size,_,_,λi=>(J[i]?).getD true,rfl,Walks.list (A:=X.A.in1) (I.ok.hd E) _ p (Zc B) Z.toArray,?_,?_,?_⟩
 .exact ⟨⟨_,ZW _ rfl,rfl,rfl⟩,L.isList.push _⟩
 .intro i v s' Q' E' hP hQ
  obtain⟨b,e,rfl⟩:=GD N i v (by simpa using hP);have F:(J[i]?).getD true=b:=by rw[e];rfl
  exact zy (F ▸ hQ)
 .intro h' tk hk
  rw[ZM,G,all_range];refine⟨.bl (J.all id),H,I.kept λb o e=>hk b o (λD=>?_) (ZD _ e),rfl,q⟩;have S:b=s.heap.objs.size:=by simpa using D
  rw[S]at e;exact zJ _ (ZN e)
theorem GJ:∀{Z:kF}{J:kj},Z.length=J.length->(∀(j:Nat)(x:V)(u:Value),Z[j]?=some x->J[j]?=some u->RelV x u)->Vals Z J
 |[],[],_,_=>.nil
 |[],_::_,h,_=>Zp h (by simp)
 |_::_,[],h,_=>Zp h (by simp)
 |x::Z,u::J,h,hr=>.cons (hr 0 x u rfl rfl) (GJ (by simpa using h) λj a b L G=>hr (j+1) a b L G)
theorem UU(e:X.calm=true):UG X (.type "list") (λE H Q=>∃a kvs,E=[.ref a]/\H a=some (.dK kvs)/\∀l,H l=none->Q (.ref l) (upd H l (.lst (kvs.map λZ=>kV Z.1)))):=by
 intro S s U H E us Q I r h;obtain⟨a,kvs,rfl,n,q⟩:=h;obtain⟨u,rfl,m⟩:=vals1 r;cases m;obtain⟨C,g,F,A,b⟩:=QX I.hok n;obtain⟨ep,R⟩:=b.dictAt;have J:=A.length;refine W.kdl_call (W.kdl_dict (knd:=VP X.prog X.w) (kvs:=F) (ep:=ep) g) (I.ok.hd e) R (by rw[<-J];exact C) λh' tk D c w v L=>?_;refine⟨.ref s.heap.objs.size,_,I.laid (o:=.lst (kvs.map λZ=>kV Z.1)) w (ZF _) ⟨by rw[ZA];exact C,D.toList,c,?_,by rw[Array.toArray_toList];exact v⟩,rfl,q _ (I.hok.fresh (ZF _))⟩;obtain⟨f,d⟩:=L;refine GJ (by simp[f,J]) λj x u M e2=>?_;obtain⟨k,y,p,O⟩:=d j u (by rw[<-Array.getElem?_toList];exact e2);rw[ZG]at M
 cases hkv:kvs[j]? with
 |none=>rw[hkv]at M;cases M
 |some Z=>
  rw[hkv]at M;cases M;have G:=A.keys;have P:(kvs.map (·.1))[j]?=(F.map (·.1))[j]?:=by rw[G]
  rw[ZG,ZG,hkv,p]at P;have e4:Z.1=k:=ZP P;have N:Jw Z.1 u=true:=by rw[e4];exact O
  rcases Vr N with⟨i,t,B,T⟩|⟨z,t,B,T⟩
  .show RelV (kV Z.1) u
   rw[B,T];exact⟨t,rfl⟩
  .show RelV (kV Z.1) u
   rw[B,T];exact⟨t,rfl⟩
end
section
structure WD(H:Hp)(ea C:Addr)(dx:Option Addr):Prop where
 at_:H ea=some (Xf ea C dx)
 dict:∀d,dx=some d->∃o,H d=some o
theorem Inv.inst(I:Inv X G U H s)(c:WD H ea C R):∃Z J,W.InstAt s.heap ea Z C J:=by
 obtain⟨⟨Z,O,N,M,L⟩,_⟩:=(show VX X.prog X.w H s.heap ea (Xf ea C R)from I.hok ea _ c.at_)
 cases hd:R with
 |none=>exact⟨Z,none,O,N,M,by rw[L,hd];trivial⟩
 |some d=>
  obtain⟨o,B⟩:=c.dict d hd;obtain⟨u,T⟩:=(I.hok d o B).ex;exact⟨Z,some u,O,N,M,by rw[L,hd];exact T⟩
theorem Rc:∀{J:kA}{Z:kj},Vals (J.map V.ref) Z->Z=J.map Value.ref
 |[],_,r=>by cases r;rfl
 |_::_,_,r=>by
  cases r with
  |cons h t=>
   have e:_=Value.ref _:=h;rw[e,Rc t];rfl
def NW(K:W.Frag):List V->Hp->VK->Prop:=λL H Q=>∃(J C:Addr)(M:kB)(c:V)(b:Bool),L=[.ref J,c]/\WD H J C M/\W.ExcC K C/\
 ((∃(Z:Addr)(G:kA),c=.ref Z/\H Z=some (.tup (G.map V.ref))/\W.kitAny K (.ref C) (G.map Value.ref)=some b)\/(∃N,c=.ref N/\W.kitOne K (.ref C) (.ref N)=some b)\/(∃T,c=.ty T/\W.kitOne K (.ref C) (.type T)=some b))/\Q (.bl b) H
theorem Xt:UG X (.builtin "isinstance") (NW X.K):=by
 intro L s U H d v Q I r h;obtain⟨a,C,x,c,b,rfl,m,O,t,q⟩:=h;obtain⟨u,f,rfl,A,Z⟩:=vals2 r;cases A;obtain⟨M,J,R⟩:=I.inst m;have G:∀D,EP X L U Q (.bool b) {s with toks:=D}:=λD=>⟨.bl b,H,I.tok _,rfl,q⟩;rcases t with⟨B,p,rfl,y,e⟩|⟨N,rfl,e⟩|⟨T,rfl,e⟩
 .cases Z
  obtain⟨_,j,F,o,k,i,g,n,E⟩:=(show VX X.prog X.w H s.heap B (.tup (p.map V.ref))from I.hok B _ y);rw[Rc F]at E;obtain⟨l,w,P,S⟩:=o;cases g;cases E;exact W.kia_tup (W.kitx_exc O) I.kIn ⟨M,J,R⟩ k e (λz=>nomatch z) G
 .cases Z
  exact yr (W.kitx_exc O) I.kIn ⟨M,J,R⟩ e (λz=>nomatch z) G
 .cases Z
  exact yr (W.kitx_exc O) I.kIn ⟨M,J,R⟩ e (λz=>nomatch z) G
end
section
variable{K:W.Frag}
theorem Fun.okX{M:Stmt}(F:Fun K x qual M f j)(S:Yo N D (Yc M))(O:∀G H Q E,B G H Q E->G.length=D.length)(L:∀(J:Value)(A:Around)(Z:List Env)(s:Shared)(H:Hp)(G:kF)(Q:VK)(E:XK),Vk k (A.deeper (envOfC qual (Yc M) s.heap.objs.size f J))->B G H Q E->
   ∃t,PSs (Vl (CX1 P w) P w K U base N qual (Yc M) f J A Z s H E) (JW M) t/\t {nx:=λ_ z=>Q .non z,rt:=Q} (start N G) H):Yk P w K U base (CX1 P w) (k+1) f j D B:=by
 obtain⟨g,m,kV,y,q,c,J,p,I,rfl,C,T⟩:=F.ex;exact QW C T S O λA Z s H G Q E X R=>L J A Z s H G Q E X R
end
end L2
namespace PySem.W
open PySem PySem.Spec PyProof.Rows
def xcIn(K:Frag)(C fI:Addr):Bool:=match K.lookup C with
 |some ⟨.type "type",_,.cls cd,sl⟩=>(match cd.mro,sl.toList with
  |.ref C2::tl,[_,_,_,_,some (.builtin n),_]=>C2==C && (n=="ValueError.__new__" && (!cd.hasDel && (cd.hasDict && (tailIn K L2.vErr tl && (nsOkIn K cd.ns && nsIn K cd.ns "__init__"==some (some (.ref fI)))))))
  |_,_=>false)
 |_=>false
set_option tactic.hygienic true in
theorem Aw{K:Frag}{h:Heap}{N:Addr}{m:Str->Option Value}{n:Str}{v:Value}(X:K.In h)(G:h.Ns N m)(e:nsIn K N n=some (some v)):m n=some v:=by
 obtain⟨o,M,O,Z,L,_,J⟩:=G;unfold nsIn at e
 split at e
 case h_2=>cases e
 case h_1 c d es' n' sl q=>
  have z:=X _ _ q;rw[Z]at z;cases z;cases L
  split at e
  case h_1 en he=>
   cases e;rw[<-J];unfold nsFind findBy;rw[<-Array.find?_toList,he]
   rfl
  case h_2=>split at e <;> cases e
set_option tactic.hygienic true in
theorem cls_xc{K:Frag}{h:Heap}{C y:Addr}(X:K.In h)(q:xcIn K C y=true):
  ∃L N I F P E Z Q J U D B T R O j,h.get? C=some (excClassObj I F C N P L true E Z Q J U D B T R O "ValueError.__new__")/\h.Ns N j/\j "__init__"=some (.ref y)/\OwnTail h L2.vErr L:=by
 unfold xcIn at q
 split at q
 case h_2=>cases q
 case h_1 U cd sl ho=>
  split at q
  case h_2=>cases q
  case h_1 C2 L D B T R n O hm hs=>
   rw[ZX,ZX,ZX,ZX,ZX,ZX]at q;obtain⟨c,p,k,g,m,t,z⟩:=q;obtain rfl:C2=C:=beq_iff_eq.mp c;obtain rfl:n="ValueError.__new__":=beq_iff_eq.mp p
   cases cd with
   |mk I P S A F d E Z Q J M=>
    obtain rfl:S=.ref C2::L:=hm;obtain rfl:d=true:=g
    obtain rfl:M=false:=by cases M with
     |false=>rfl
     |true=>cases k
    obtain rfl:sl= #[D,B,T,R,some (.builtin "ValueError.__new__"),O]:=by
     cases sl with
     |mk l=>exact congrArg Array.mk hs
    have G:h.Ns A (h.nsMap A):=.of_isNs (isNs_of_in X t);exact⟨L,A,I,F,P,E,Z,Q,J,U,D,B,T,R,O,_,X _ _ ho,G,Aw X G (beq_iff_eq.mp z),tail_of_in X m⟩
end PySem.W
namespace PySem
open Sem (wp)
section
variable{prog:Program}{w:World}{A:Around}{E:Value->Shared->Prop}{h:Heap}{g:Array GenState}{d:Drawn}{t:Nat}{os:OsState}
variable{nm q:Str}{C N:Addr}{bs bm bmB:List Value}{hdct:Bool}{sn:List Str}{sub:List Value}{ab:Bool}{col:Option Bool}{dd:Option Addr}{k0 k1 k2 k3 k5:Option Value}{B newId initId:String}
theorem BH(F:ExcBaseFacts B newId initId bmB)(T:OwnTail h bmB bm){j:Str->Option Value}{rest:List Value}{S:Addr}{P:Obj}{Q:Fin->Shared->Prop}(M:h.get? C=some (excClassObj nm q C N bs bm hdct sn sub ab col dd k0 k1 k2 k3 k5 newId))(p:h.Ns N j)(c:j "__init__"=some (.ref S))(D:h.get? S=some P)(R:P.cls=.type "function")(J:rest.length<=sizeLine)(k:∀y e,Heap.MadeExcOf h y e (.ref C) rest->h.objs.size<=e->
   wpAny (model prog w) A (call (.ref S) (.ref e::rest)) (λr U=>r=.none/\Q (.done (.ret (.ref e))) U) E ⟨y,g,d,t,os⟩):
  wpAny (model prog w) A (Builtin.«type.__call__» ⟨.ref C::rest,[]⟩) Q E ⟨h,g,d,t,os⟩:=by
 repeat (first|with_reducible refine wpAny_madeBy_exc M ?_|with_reducible refine wpAny_loadPart_at M ?_|wp_step)
 refine codeAny_call_builtin_code (Code.quiet_builtin _ F.quiet) (wpAny_check_new_subT F T M (codeAny_exc_new_subT F T M ?_ J));show wpAny _ _ _ _ _ _
 let X:Obj:={cls:=.type "tuple",data:=.seq rest.toArray}
 let O:Obj:={cls:=.ref C,data:=.fields #[.ref h.objs.size,.none,.none,.none,.bool false,.none]}
 have G:∀b o,h.get? b=some o->((h.push X).push O).get? b=some o:=λb o z=>ZD _ (ZD _ z);have Z:((h.push X).push O).get? (h.objs.size+1)=some O:=by heap_get
 have I:(Value.ref C::bm).contains (.ref C)=true:=by simp
 have L:=G _ _ M;unfold isInstance
 repeat (first|with_reducible refine wpAny_loadPart_at Z ?_|(with_reducible refine wpAny_isSubtype_exc L ?_;rw[I])|wp_step)
 show wpAny _ _ (typeLookup (.ref C) _) _ _ _;refine wpAny_typeLookup_tail L (p.keeps G) (T.keeps G) F.mroIs F.init.lookup ?_;rw[c];refine wpAny_holding (Zj ?_);unfold bindSpecial;refine Zj (yZ (T:="function") ⟨_,G _ _ D,R⟩ ?_);rw[Zn (by decide)];refine Zk (Zj (Zl (k _ (h.objs.size+1) ⟨G,vh (yY _),h.objs.size,Z,vh (ZF _),ZD _ (Heap.get?_push_at rfl rfl)⟩ (yY _)) (λr U m=>?_) λ_ _ x=>x));obtain⟨rfl,f⟩:=m
 wp_walk
 exact f
theorem x_call(F:ExcBaseFacts B newId initId bmB)(T:OwnTail h bmB bm){D:Str->Option Value}{rest:List Value}{O:Addr}{R:Obj}{Q:Value->Shared->Prop}(J:h.get? C=some (excClassObj nm q C N bs bm hdct sn sub ab col dd k0 k1 k2 k3 k5 newId))(X:h.Ns N D)(j:D "__init__"=some (.ref O))(M:h.get? O=some R)(L:R.cls=.type "function")(Z:rest.length<=sizeLine)(U:∀G e,Heap.MadeExcOf h G e (.ref C) rest->h.objs.size<=e->
   wpAny (model prog w) (A.under (.builtin "type.__call__" ⟨.ref C::rest,[]⟩)) (call (.ref O) (.ref e::rest)) (λr I=>r=.none/\Q (.ref e) I) E ⟨G,g,d,t,os⟩):
  wpAny (model prog w) A (call (.ref C) rest) Q E ⟨h,g,d,t,os⟩:=by
 have m:=tc_lookup;have z:=tc_bind (.ref C);have y:(⟨h,g,d,t,os⟩:Shared).TypeIs (.ref C) "type":=⟨_,J,rfl⟩;refine wpAny_call (codeAny_of_tree ?_);show wpAny _ _ (callAny (.ref C) _) _ _ _
 repeat (any_goals (first|with_reducible refine wpAny_loadPart_at J ?_|assumption|wp_step))
 exact⟨rfl,codeAny_call_builtin_at (Code.quiet_builtin _ (by decide +kernel)) entry_typeCall (wpAny_check_type_call_sub J (BH F T J X j M L Z λG e P S=>U G e P S))⟩
end
end PySem
namespace PySem.W
open PySem PySem.Spec PyProof.Rows PySem.Builtin PySem.Builtin.ObjectAttr
section
variable{K:Frag}{h:Heap}{C fI x:Addr}{s:Shared}{prog:Program}{w:World}{A:Around}{name:Str}{v:Value}{tk:Tok}{R:Result->Shared->Prop}{ox:Obj}{od:Option Obj}
set_option tactic.hygienic true in
theorem IL(X:K.In h)(q:xcIn K C fI=true):∃Z J,clsIn K C=some Z/\Z.mro=.ref C::J/\Z.hasDict=true/\OwnTail h L2.vErr J:=by
 unfold xcIn at q
 split at q
 case h_2=>cases q
 case h_1 dd Z sl ho=>
  split at q
  case h_2=>cases q
  case h_1 C2 J k0 k1 k2 k3 n k5 hm hs=>
   rw[ZX,ZX,ZX,ZX,ZX,ZX]at q;obtain⟨M,_,_,L,G,_,_⟩:=q;obtain rfl:C2=C:=beq_iff_eq.mp M;exact⟨Z,J,by unfold clsIn;rw[ho],hm,L,tail_of_in X G⟩
theorem NV(T:OwnTail h L2.vErr tl):refuseLoop self "__setattr__" tl=pure ():=by
 induction T with
 |base=>exact PySem.F.store_ValueError.passes self
 |own _ _ _ _ ih=>rw[refuseLoop_ref];exact ih
theorem AI(X:K.In s.heap)(I:InstAt s.heap x ox C od)(q:xcIn K C fI=true)(N:mroIn K C (.type "object")=some true)(B:findIn K (.ref C) name=some none)(h:wpAny (model prog w) A.in1 (storeInOwnDict (.ref x) (.ref C) (.str name tk) name v false)
   (λL J=>match L with|.done f=>R (.ok f) J|.again M=>M.quiet=true/\codeAny (model prog w) A M R J) (λe J=>R (.error e) J) s):
  codeAny (model prog w) A (.call (.builtin "object.__setattr__") ⟨[.ref x,.str name tk,v],[]⟩) R s:=by
 have Z:=PySem.F.store_object;obtain⟨F,S,E,D,_,T⟩:=IL X q;have G:Looks (model prog w) s.heap (isInstance (.ref x) (.type "object")) true:=I.type.andThen (looks_mroIn X N);have O:Looks (model prog w) s.heap (mroOf (.ref C)) F.mro:=(looks_clsIn X E).andThen .now;refine jc Z.slot.plain Z.entry (check_slot (i:="object.__setattr__") (owner:="object") (n:="__setattr__") Z.kind Z.split G (Z.args (.ref x) (.str name tk) v) ?_);rw[osa_eq,refuse_eq,];refine Zj (Zj (I.type.here (Zj (O.here ?_))));rw[D,refuseLoop_ref,NV T];exact Zk (Zj (I.type.here (Zj ((v8 X B).here (Zj (Zk h))))))
theorem x_store0{E:Value->Shared->Prop}{Q:Unit->Shared->Prop}{oc:Value}{L:Array Value}{sl:Array (Option Value)}(X:K.In s.heap)(q:xcIn K C fI=true)(D:mroIn K C (.type "object")=some true)(S:findIn K (.ref C) name=some none)(U:findIn K (.ref C) "__setattr__"=some (some (.builtin "object.__setattr__")))(M:s.heap.get? x=some ⟨.ref C,none,.fields L,sl⟩)(h:∀G tk,G.Ns1 s.heap.objs.size (λy=>if y=name then some v else none)->G.get? x=some ⟨.ref C,some s.heap.objs.size,.fields L,sl⟩->(∀b o,b≠x->s.heap.get? b=some o->G.get? b=some o)->Q () {s with heap:=G,toks:=tk}):
  wpAny (model prog w) A (setAttr (.ref x) name v) Q E s:=by
 have I:InstAt s.heap x ⟨.ref C,none,.fields L,sl⟩ C none:=⟨M,rfl,rfl,trivial⟩;refine set_plain X I U (AI (s:={s with toks:=s.toks+1}) X I q D S ?_);obtain⟨u,g,z,p,j,_⟩:=IL X q;have Z:(s.heap.push {cls:=.type "dict",data:=.dict #[]}).get? x=some ⟨.ref C,none,.fields L,sl⟩:=ZD _ M;have T:x≠s.heap.objs.size:=Zc (ZN M);refine Zj (Zk (Zj (Zj (wpAny_loadPart M (Zj (Looks.here (s:={s with toks:=s.toks+1}) (looks_clsIn X z) ?_))))));rw[j];show wpAny _ _ (alloc {cls:=.type "dict",data:=.dict #[]} >>=λd=>update x (λo=>{cls:=o.cls,dict:=some d,data:=o.data,slots:=o.slots}) >>=λ_=>dictMade (.ref C) x d) _ _ _;refine Zj (wpAny_alloc' (Zj (wpAny_update' Z (Zk ?_))))
 have m:((s.heap.push {cls:=.type "dict",data:=.dict #[]}).update x λo=>{cls:=o.cls,dict:=some s.heap.objs.size,data:=o.data,slots:=o.slots}).get? s.heap.objs.size=some {cls:=.type "dict",data:=.dict #[]}:=
  (jk _ _ _ _ T.symm).trans (Heap.get?_push_at rfl rfl)
 have F:((s.heap.push {cls:=.type "dict",data:=.dict #[]}).update x λo=>{cls:=o.cls,dict:=some s.heap.objs.size,data:=o.data,slots:=o.slots}).Ns s.heap.objs.size (λ_=>none):=
  ⟨_,#[],_,m,rfl,λe P=>Zp P (by simp),λ_=>rfl⟩
 refine Zj (Zk (Zj (wpAny_nsSet1 (Heap.Ns1.of_empty F) λG B J=>?_)));obtain⟨k,c,f,N,hdD,O⟩:=B.count (PySem.Within.cons name v PySem.Within.nil);refine Zj (wpAny_lookBehind N (by rw[hdD];exact pastItsLine_dict (ZZ O (by rw[Zd,List.length_nil,sizeLine_eq];omega))) (Zk (h _ _ B ?_ λb o t e=>?_)))
 .refine (J.2 x T).trans ?_
  exact zP _ Z rfl
 .refine (J.2 b (Zc (ZN e))).trans ?_
  rw[jk _ _ _ _ t];exact ZD _ e
end
end PySem.W
namespace L2
open PySem PySem.Spec PyProof.Rows
def xdO(d:Addr)(fs:List (Str×V)):HO:=.ext λh=>∃Z,h.Ns1 d Z/\(∀f,UX (fs.lookup f) (Z f))/\PySem.Within Z (fs.map (·.1))
def exI(ea C:Addr)(dx:kB):HO:=.ext λh=>∃Z sl,h.get? ea=some ⟨.ref C,dx,.fields Z,sl⟩/\1<Z.size/\Z[1]?=some Value.none
structure XCl(K:W.Frag)(C fI:Addr):Prop where
 xc:W.xcIn K C fI=true
 ob:W.mroIn K C (.type "object")=some true
 sa:W.findIn K (.ref C) "__setattr__"=some (some (.builtin "object.__setattr__"))
theorem xdO.ok{P:Program}{w:World}{H:Hp}{h:Heap}(Z:h.Ns1 d mA)(r:∀f,UX (fs.lookup f) (mA f))(J:PySem.Within mA (fs.map (·.1))):VX P w H h d (xdO d fs):=
 ⟨⟨mA,Z,r,J⟩,let⟨o,_,_,e,_⟩:=Z;⟨o,e⟩,λL G ⟨m,q,r⟩ k=>⟨m,q.at k,r⟩⟩
theorem exI.ok{P:Program}{w:World}{H:Hp}{h:Heap}{Z:kC}{sl:Array (Option Value)}(e:h.get? ea=some ⟨.ref C,J,.fields Z,sl⟩)(z:1<Z.size)(n:Z[1]?=some Value.none):VX P w H h ea (exI ea C J):=
 ⟨⟨Z,sl,e,z,n⟩,⟨_,e⟩,λL G ⟨Z,sl,q,r⟩ k=>⟨Z,sl,k _ q,r⟩⟩
section
variable{X:Cx}{pins:kb}{U:St}{H:Hp}{s:Shared}{a C fI d:Addr}{f:Str}{y:V}{u:Value}{A:Around}{E:kh}{Q:Unit->Shared->Prop}{fs:List (Str×V)}
theorem AT(I:Inv X pins U H s)(e:H a=some (exI a C none))(c:XCl X.K C fI)(n:W.findIn X.K (.ref C) f=some none)(B:RelV y u)(h:∀d T,H d=none->d≠a->Inv X pins U (upd (upd H d (xdO d [(f,y)])) a (exI a C (some d))) T->Q () T):wpAny (model X.prog X.w) A (setAttr (.ref a) f u) Q E s:=by
 obtain⟨⟨G,sl,L,D,M⟩,_⟩:=(show VX X.prog X.w H s.heap a (exI a C none)from I.hok a _ e);refine W.x_store0 (oc:=.none) I.kIn c.xc c.ob n c.sa L λh' R F Z S=>?_;have O:s.heap.objs.size≠a:=λz=>zJ _ (z ▸ ZN L);have P:H s.heap.objs.size=none:=I.hok.fresh (ZF _);have j:(h'.update a λ_=>⟨.ref C,none,.fields G,sl⟩).get? a=some ⟨.ref C,none,.fields G,sl⟩:=zP _ Z rfl;have N:∀b,b≠a->(h'.update a λ_=>⟨.ref C,none,.fields G,sl⟩).get? b=h'.get? b:=λb J=>jk _ _ _ _ J
 have t:=I.laid (a:=s.heap.objs.size) (o:=xdO s.heap.objs.size [(f,y)]) (h':=h'.update a λ_=>⟨.ref C,none,.fields G,sl⟩) (t':=R) (λb o q=>by
  by_cases z:b=a
  .subst z;rw[L]at q;cases q;exact j
  .rw [N b z];exact S b o z q) (ZF _) (xdO.ok (F.at λo q=>by rw[N _ O];exact q) (λg=>by
  show UX (List.lookup g [(f,y)]) (if g=f then some u else none)
  by_cases q:g=f
  .have J:(g==f)=true:=beq_iff_eq.mpr q
   simp only[List.lookup,J,Zn q];exact B
  .have J:(g==f)=false:=beq_eq_false_iff_ne.mpr q
   simp only[List.lookup,J,Zo q];trivial) (PySem.Within.cons f u PySem.Within.nil))
 refine h _ _ P O ?_;refine t.write (x:=a) (e:=a) (h':=h') (t':=R) (by rw[Yd (Zq O),e];exact True.intro) (.inl rfl) (λb o J q=>by rw[<-N b J];exact q) ⟨_,Z⟩ (exI.ok Z D M)
def sX0(C:Addr)(ta tv:TE)(f:Str):TS:=λD U H=>tv U H λy J=>ta U J λx Z=>Jj x λa=>Z a=some (exI a C none)/\∀d,Z d=none->d≠a->D.nx U (upd (upd Z d (xdO d [(f,y)])) a (exI a C (some d)))
theorem Aa{o value:Expr}{N M:TE}{G Z:Pos}(c:XCl X.K C fI)(n:W.findIn X.K (.ref C) f=some none)(j:PE X o N)(F:PE X value M)(S:swapsWith value (some (.Attribute o f Z)) G.line X.env=pure false:=by rfl):PS X (.Assign [.Attribute o f Z] value G) (sX0 C N M f):=by
 intro pins s U H D I h;refine plainObj_wpAny_Assign_Attribute (thn (F pins s U H _ I h) λu O ⟨y,p,k,R,q⟩=>thn (j pins O U p _ k q) λB w ⟨x,r,g,T,J⟩=>?_) S;replace J:=Jj.old J;obtain⟨a,z,t,J⟩:=J;subst z;obtain rfl:B=Value.ref a:=T;exact AT g t c n R λd v P L m=>⟨U,_,m,J d P L⟩
def drop(H:Hp)(a:Addr):Hp:=λb=>if b=a then none else H b
theorem Uc(h:b≠a):drop H a b=H b:=Zo h
theorem W4:drop H a a=none:=Zn rfl
theorem Inv.drop{φ:Heap->Prop}(I:Inv X pins U H s)(e:H a=some (.ext φ)):Inv X pins U (drop H a) s:=by
 have J:∀b o,H b=some o->(∀ψ,o≠.ext ψ)->b≠a:=λb o q n z=>by rw[z,e]at q;exact n _ (ZP q).symm
 have G:∀b,H b=none->L2.drop H a b=none:=λb q=>by
  by_cases z:b=a
  .rw [z];exact W4
  .rw [Uc z];exact q
 obtain⟨P,S,bare,base,M,cell,free,Z,L,O,N⟩:=I;refine⟨P,S,bare,⟨base.keep,base.slot,λb o q n j=>G b (base.free b o q n j),base.there,λb R q=>?_,λb o u q=>?_,λb T q=>?_⟩,M,cell,G _ free,λx c q=>G _ (Z x c q),λp t=>let⟨F,D,B⟩:=L p t;⟨F,G _ D,B⟩,λb o q=>?_,N⟩
 .have z:=base.tups b R q;rw[Uc (J b _ z λ_ y=>nomatch y)];exact z
 .have z:=base.frzs b o u q;rw[Uc (J b _ z λ_ y=>nomatch y)];exact z
 .obtain ⟨more,z⟩:=base.tbls b T q;exact⟨more,by rw[Uc (J b _ z λ_ y=>nomatch y)];exact z⟩
 .by_cases z:b=a
  .rw [z,W4]at q;cases q
  .rw [Uc z]at q
   exact(O b o q).stay (λ_ _ _ y=>y) (λc y=>by rw[Uc (J c _ y λ_ y=>nomatch y)];exact y) λc R y=>by rw[Uc (J c _ y λ_ y=>nomatch y)];exact y
end
end L2
namespace PySem.W
open PySem PySem.Spec PyProof.Rows
theorem exc_get{K:Frag}{D x:Addr}{L:Obj}{J:Option Obj}{s:Shared}{Z:Program}{w:World}{A:Around}{name:Str}{v:Value}{G:Bool}{Q:Value->Shared->Prop}{E:Value->Shared->Prop}(C:ExcC K D)(X:K.In s.heap)(I:InstAt s.heap x L D J)(S:findObj K D J name=some (.value v))(B:handedIn v=true)(h:Q v {s with toks:=s.toks+1}):
  wpAny (model Z w) A (getAttr (.ref x) name G) Q E s:=by
 obtain⟨y,g,d,t,P⟩:=s;have T:=I.type (M:=model Z w);have R:=v8 (M:=model Z w) X C.ga;have O:=v8 (M:=model Z w) X C.gn;have j:=looks_find (M:=model Z w) X I S;have sl:=F.attr_ValueError.ga;have U:=sl.bind (.ref x);simp only[getAttr,getAttrBy];refine Zj (wpAny_mkText (wpAny_holding (Zj (T.at ?_))));refine Zj (R.at ?_);simp only[Lh,vi,yK,if_false,getAttrByItsOwn,hookBefore];refine Zj (O.at (Zj (yO (wpAny_holding ?_))));have N:(G && onTheHeap (.builtin "BaseException.__getattribute__"))=false:=by cases G <;> rfl
 simp only[callGetattribute,boundAndCalled,N,yK,if_false];rw[U];refine Zj (Zk (wpAny_call (jc sl.plain F.entry_bexc_ga (Rr C X I ?_))));simp only[Builtin.«object.__getattribute__»]
 repeat lk
 show wpAny _ _ (handedOut v) _ _ _;rw[handedOut_of B];exact Zk h
end PySem.W
namespace PySem
section
variable{M:Model}{A:Around}{E:Value->Shared->Prop}{env:Env}
variable{nm q:Str}{C N:Addr}{bs bm:List Value}{hdct:Bool}{sn:List Str}{sub:List Value}{ab:Bool}{col:Option Bool}{dd:Option Addr}{k0 k1 k2 k3 k5:Option Value}{newId:String}
theorem ND{s:Shared}{x:Sem Value}{Q:Flow->Shared->Prop}(Z:bm.contains (.type "BaseException")=true)(B:A.handled=none)(h:wpAny M A x (λv J=>∃e R G sl,v=.ref e/\J.heap.get? C=some (excClassObj nm q C N bs bm hdct sn sub ab col dd k0 k1 k2 k3 k5 newId)/\J.heap.get? e=some ⟨.ref C,R,.fields G,sl⟩/\G[1]?=some Value.none/\E (.ref e) J) E s):
  wpAny M A (raiseStmt env (some x) none) Q E s:=by
 have L:(Value.ref C::bm).contains (.type "BaseException")=true:=by rw[List.contains_cons,Z,Bool.or_true]
 unfold raiseStmt;refine Zj (Zl h (λv J ⟨e,R,G,sl,I,O,D,T,F⟩=>?_) λ_ _ z=>z);subst I;obtain⟨X,g,d,S,U⟩:=J
 repeat (first|with_reducible refine wpAny_loadPart_at D ?_|with_reducible refine wpAny_loadPart_at O ?_|(with_reducible refine wpAny_isSubtype_exc O ?_;rw[L])|wp_step)
 rw[T];exact Zk (Zk (wpAny_raiseNew_none B F))
end
end PySem
namespace L2
open PySem PySem.Spec PyProof.Rows
section
variable{X:Cx}{pins:kb}{U:St}{H:Hp}{s:Shared}{C fI:Addr}{fd:FuncData}{k:Nat}{f g y z p:Str}{us:kj}{a b:V}{E:XK}{x:Str}
def P9(K:W.Frag)(ta:TE)(f:Str):TE:=λU H Q=>ta U H λx Z=>Jj x λa=>∃C d J v,Z a=some (Xf a C (some d))/\Z d=some (xdO d J)/\W.ExcC K C/\W.hasDictIn K C=true/\W.findIn K (.ref C) f=some none/\J.lookup f=some v/\Q v Z
theorem Oo{e:Expr}{M:TE}{J:Pos}(S:PE X e M)(j:attributeBase e f X.env (eval e X.env)=eval e X.env):PE X (.Attribute e f J) (P9 X.K M f):=by
 intro pins s U H Q I h;refine Es j (thn (S pins s U H _ I h) λu N ⟨x,L,Z,T,q⟩=>?_);replace q:=Jj.old q;obtain⟨a,c,C,d,m,v,i,w,R,P,t,l,q⟩:=q;subst c;obtain rfl:u=Value.ref a:=T;obtain⟨⟨ox,e1,e2,e3,n⟩,_⟩:=(show VX X.prog X.w L N.heap a (Xf a C (some d))from Z.hok a _ i);obtain⟨⟨B,A,r,wi⟩,_⟩:=(show VX X.prog X.w L N.heap d (xdO d m)from Z.hok d _ w);obtain⟨od,F,G⟩:=Rk A;obtain⟨u,D,O⟩:=UX.some_of (v:=v) (o:=B f) (by rw[<-l];exact r f);exact W.exc_get R Z.kIn ⟨e1,e2,e3,by rw[n];exact F⟩ (W.findObj_own P t rfl (by rw[G,D])) (Rp O) ⟨v,L,Z.tok _,O,q⟩
end
def E8(C:Addr)(f:Str):Sp:=λJ H Q _=>∃Z a,J=[.ref Z,a]/\H Z=some (exI Z C none)/\∀d,H d=none->d≠Z->Q .non (upd (upd H d (xdO d [(f,a)])) Z (exI Z C (some d)))
section
variable{X:Cx}{pins:kb}{U:St}{H:Hp}{s:Shared}{C fI:Addr}{fd:FuncData}{k:Nat}{f y p:Str}{us:kj}{a:V}{E:XK}{x:Str}
theorem SB(c:XCl X.K C fI)(hf:W.isFn X.K (.ref fI)=true)(G:Yk X.prog X.w X.K X.mg X.base CX0 k fI fd [p,y] (E8 C f))(hr:Vk (k+1) X.A)(hb:Binds X.K fd [p,y] [])(I:Inv X pins U H s)(r:Vals [a] us)(l:X.ex=[]){Q:kh}(h:∀S d L,H d=none->H S=none->Inv X pins U (upd H d (xdO d [(f,a)])) L->Fly X.s₀.heap (upd H d (xdO d [(f,a)])) L.heap S C (some d)->
   (∃O sl,L.heap.get? S=some ⟨.ref C,some d,.fields O,sl⟩/\O[1]?=some Value.none)->Q (.ref S) L):
  wpAny (model X.prog X.w) X.A (call (.ref C) us) Q X.xe s:=by
 obtain⟨tl,N,nm,qn,bs,sn,Z8,ab,Z9,dd,k0,k1,k2,k3,k5,mN,b,hN,m,T⟩:=W.cls_xc I.kIn c.xc;have ft:W.typeIn X.K (.ref fI)=some (.type "function"):=beq_iff_eq.mp hf
 obtain⟨R,hl,w⟩:∃R,X.K.lookup fI=some R/\R.cls=.type "function":=by
  unfold W.typeIn at ft;obtain⟨R,e1,e2⟩:=Zh.mp ft;exact⟨R,e1,e2⟩
 obtain⟨D,rfl,ra⟩:=vals1 r;obtain⟨hp,gs,dr,tk,os⟩:=s;refine x_call F.excBase_ValueError T b hN m (I.kIn _ _ hl) w (by rw[<-r.length,sizeLine_eq];show 1<=_;omega) λh' e g n=>?_;obtain⟨t,ht,_,_⟩:=g.there;have P:=I.laid (a:=e) (o:=exI e C none) (h':=h') (t':=tk) g.keeps n (exI.ok ht (by show 1<6;decide) rfl);have i:H e=none:=I.hok.fresh n
 have hq:E8 C f [.ref e,a] (upd H e (exI e C none)) (λv H2=>v=.non/\∃d,H d=none/\d≠e/\H2=upd (upd (upd H e (exI e C none)) d (xdO d [(f,a)])) e (exI e C (some d))) (λ_ _ _=>False):=
  ⟨e,a,rfl,Ya,λd A J=>⟨rfl,d,by rw[Yd J]at A;exact A,J,rfl⟩⟩
 have r2:Vals [V.ref e,a] [Value.ref e,D]:=.cons rfl r;refine wpAny_call (yX (G.run _ X.stack _ _ ⟨[Value.ref e,D],[]⟩ [Value.ref e,D] _ _ (λ_ _ _=>False) (hr.make C _ []) (P.env0.make C _ []) (hb _ [Value.ref e,D] P.kIn rfl) r2 hq) λr L Z=>?_)
 cases r with
 |error e'=>exact VI pins U _ _ e' L P Z
 |ok fl=>
  cases fl with
  |next=>exact False.elim Z
  |brk=>exact False.elim Z
  |cont=>exact False.elim Z
  |ret u=>
   obtain⟨v,H',I3,rv,ev,d,A,J,rfl⟩:=P.after Z;subst ev;have M:upd (upd (upd H e (exI e C none)) d (xdO d [(f,a)])) e (exI e C (some d)) e=some (exI e C (some d)):=Ya;obtain⟨⟨O,sl,hx,j,B⟩,_⟩:=(show VX X.prog X.w _ L.heap e (exI e C (some d))from I3.hok e _ M);have I4:=I3.drop M
   have eH:L2.drop (upd (upd (upd H e (exI e C none)) d (xdO d [(f,a)])) e (exI e C (some d))) e=upd H d (xdO d [(f,a)]):=by
    funext x
    by_cases z:x=e
    .rw [z,W4,Yd (Zq J),i]
    .rw [Uc z,Yd z]
     by_cases z2:x=d
     .rw [z2,Ya,Ya]
     .rw [Yd z2,Yd z,Yd z2]
   rw[eH]at I4;refine⟨rv,h e d L A i I4 ⟨?_,by rw[Yd (Zq J)];exact i,_,O,hx,rfl,rfl,rfl,j,.inl B⟩ ⟨O,sl,hx,B⟩⟩
   cases q:X.s₀.heap.get? e with
   |none=>rfl
   |some u=>
    obtain⟨v,hv⟩:=I.base.there e u q (by rw[l];simp);rw[g.new]at hv;cases hv
def IV(C:Addr)(f:Str)(E:XK)(t:TA):TS:=λ_ U H=>t U H λJ Z=>∃a,J=[a]/\∀d,Z d=none->E (.ref C) (some d) (upd Z d (xdO d [(f,a)]))
theorem B2{e:Expr}{es:kP}{t:TA}{m Z O:Pos}(hl:P6 X E)(B:X.ex=[])(hc:X.calm=true)(hg:Gl X x)(n:X.mg x=some (.ref C))(c:XCl X.K C fI)(hk:W.keepIn X.K (.ref C)=true)(hf:W.isFn X.K (.ref fI)=true)(G:Yk X.prog X.w X.K X.mg X.base CX0 k fI fd [p,y] (E8 C f))(o:Vk (k+1) X.A)(hb:Binds X.K fd [p,y] [])(ha:PA X (e::es) t)(A:(x==("__debug__":Str))=false:=by decide)(he:starEach (e::es) X.env=(false,eval e X.env)::starEach es X.env:=by rfl)(R:(backTo Z (starEach es X.env)).any (·.1)=false:=by rfl):
  PS X (.Raise (some (.Call (.Name x m) (e::es) [] Z)) none O) (IV C f E t):=by
 intro pins s U H D I h;obtain⟨Q,N,nm,j,bs,sn,sub,ab,col,dd,k0,k1,k2,k3,k5,mN,S,hN,i,T⟩:=W.cls_xc I.ok.mod.kin c.xc
 have P:wpAny (model X.prog X.w) X.A (eval (.Call (.Name x m) (e::es) [] Z) X.env) (λv M=>∃J dx L sl,v=.ref J/\M.heap.get? C=some (excClassObj nm j C N bs Q true sn sub ab col dd k0 k1 k2 k3 k5 "ValueError.__new__")/\M.heap.get? J=some ⟨.ref C,dx,.fields L,sl⟩/\L[1]?=some Value.none/\X.xe (.ref J) M) X.xe s:=by
  refine yg (XC I hg n ?_ A);refine vv (h₀:=X.base) I.ok.mod.kin hk (thn (ha Z pins s U H _ I h) λus M ⟨L,H1,u,r,a,ev,q⟩=>⟨u.kIn,?_⟩) he R;subst ev;exact SB c hf G o hb u r B λJ d w hd Z8 g F ⟨L,sl,l,b⟩=>⟨J,_,L,sl,rfl,g.bk _ _ S,l,b,hl pins U _ w J C (some d) g F (q d hd)⟩
 rw[arm_exec_Raise];refine Zj (ya (ND (C:=C) (nm:=nm) (q:=j) (N:=N) (bs:=bs) (bm:=Q) (hdct:=true) (sn:=sn) (sub:=sub) (ab:=ab) (col:=col) (dd:=dd) (k0:=k0) (k1:=k1) (k2:=k2) (k3:=k3) (k5:=k5) (newId:="ValueError.__new__") (T.hasType F.excBase_ValueError.hasBase) (I.ok.hd hc) (Zj (Zl P (λv s3 h3=>Zj (ya (Zk h3))) λ_ _ z=>z))))
end
section
variable{prog:Program}{w:World}{A:Around}{E:kh}{s:Shared}
theorem RX{t sl:Addr}{items:kC}{T R:Value}{Z G:ky}{Q:kh}(J:IsTup s.heap t items)(D:s.heap.IsSliceOf sl T R .none)(S:IsPart T Z)(I:IsPart R G)(B:HT.sIx items.size 0 Z=0/\HT.sIx items.size items.size G=items.size)(h:Q (.ref t) s):wpAny (model prog w) A (getItem (.ref t) (.ref sl)) Q E s:=by
 obtain⟨U,M,N,C⟩:=id D;have O:s.TypeIs (.ref sl) "slice":=⟨U,M,N⟩;unfold getItem
 try with_reducible refine wpAny_holding ?_
 first|refine Zj (Zk ?_)|skip
 refine Zj (wpAny_sequenceKey J.typeIs (by decide) ?_);refine Zj (wpAny_callSpecial?_slot (name:=Str.ofString "__getitem__") J.typeIs yk (yb yk J.typeIs entry_tuple_getitem ?_ (args_tuple_getitem _ _)));show wpAny _ _ (Builtin.Tuple.tupleItemsOf (.ref t) >>=_) _ _ s;refine Zj (tupleItemsOf_ J (Zj (yZ O ?_)));rw[Zn (by decide)];refine Zj (HT.sliceApplied_gen D S I ?_)
 have L:(((HT.sIx items.size 0 Z:Nat):Int)==0 && (1:Int)==1 && (HT.sIx items.size items.size G-HT.sIx items.size 0 Z)==items.size)=true:=by
  rw[B.1,B.2];simp
 show wpAny _ _ (if(((HT.sIx items.size 0 Z:Nat):Int)==0 && (1:Int)==1 && (HT.sIx items.size items.size G-HT.sIx items.size 0 Z)==items.size)=true then _ else _) _ _ s;rw[Zn L];have F:s.TypeIs (.ref t) "tuple":=J.typeIs;unfold Builtin.Tuple.tupleIsExact
 first
 |exact Zj (Zj (yZ F (Zk (Zj (vg (Zk ⟨_,rfl,Zk h⟩))))))
 |exact Zj (Zj (yZ F (Zk (Zj (vg (Zj (Zk ⟨_,rfl,Zk h⟩)))))))
end
section
variable{X:Cx}
def Og:V->Option Int->Option Int->Hp->VK->Prop:=λx J G H Q=>∃a Z,x=.ref a/\H a=some (.tup Z)/\
 (HT.sIx Z.length 0 J=0/\HT.sIx Z.length Z.length G=Z.length->Q (.ref a) H)/\∀p,H p=none->Q (.ref p) (upd H p (.tup (XN Z J G)))
theorem JV:SlR X Og:=by
 intro J s U H x v A F R E sl Q I M D O N h;obtain⟨a,Z,rfl,T,C,S⟩:=h
 by_cases hw:HT.sIx Z.length 0 R=0/\HT.sIx Z.length Z.length E=Z.length
 .cases M
  obtain⟨L,r,B,P⟩:=I.tuple (Z0 T);have G:L.toArray.size=Z.length:=by rw[ZM];exact r.length.symm
  exact⟨"tuple",_,PyProof.Rows.slot_tuple_getitem.lookup,B.typeIs,RX B D O N (by rw[G];exact hw) ⟨.ref a,H,I,rfl,C hw⟩⟩
 .exact MT J s U H _ v A F R E sl Q I M D O N ⟨a,Z,rfl,Z0 T,hw,S⟩
end
def SI(tp:Bool)(h:Heap)(i l:Addr)(k:Nat)(xs:kC):Prop:=match tp with
 |false=>h.IsListIter i l k/\h.IsList l xs
 |true=>h.IsTupleIter i l k/\h.IsTuple l xs
theorem SI.to(z:SI J h i l k G)(Z:∀b o,(b=i\/b=l)->h.get? b=some o->L.get? b=some o):SI J L i l k G:=by
 cases J with
 |false=>exact⟨let⟨o,e,r⟩:=z.1;⟨o,Z _ _ (.inl rfl) e,r⟩,let⟨o,e,r⟩:=z.2;⟨o,Z _ _ (.inr rfl) e,r⟩⟩
 |true=>exact⟨let⟨o,e,r⟩:=z.1;⟨o,Z _ _ (.inl rfl) e,r⟩,let⟨o,e,r⟩:=z.2;⟨o,Z _ _ (.inr rfl) e,r⟩⟩
theorem SI.but(z:SI G h i l k J)(e:Heap.ExtBut b h L)(N:i≠b)(M:l≠b):SI G L i l k J:=
 z.to λc o Z q=>e c o (by rcases Z with Z|Z <;> rw[Z] <;> assumption) q
theorem Dy{a b:Sem α}{Q:α->Shared->Prop}(Z:c=false)(h:wpAny M A b Q E s):wpAny M A (if c=true then a else b) Q E s:=by
 subst Z
 rwa [Zo (by decide)]
section
theorem Gq(z:SI R s.heap i l k O)(D:l≠i)(I:O[k]?=some x)(S:∀g,SI R g i l (k+1) O->Heap.SameBut i s.heap g->Q x {s with heap:=g}):wpAny (model prog w) A (Builtin.SmallTypes.nextOf (.ref i)) Q E s:=by
 cases R with
 |false=>exact wpAny_nextOf_list_item z.1 z.2 I λg a B=>S g ⟨a,z.2.extBut B.extBut D⟩ B
 |true=>
  obtain⟨G,N⟩:=z;obtain⟨X,J,M,Z⟩:=id G;obtain⟨C,L,_,P,U⟩:=id N;have T:=F.slot_tuple_iterator_next;simp only[Builtin.SmallTypes.nextOf];refine Zj (wpAny_callSpecial?_slot (name:=Str.ofString "__next__") G.typeIs T (yb T G.typeIs F.entry_tuple_iterator_next ?_ (F.args_tuple_iterator_next_1 _)));refine Zj (m:=field (.ref i) 0) (Zm J Z (x:=.ref l) rfl (Dy (c:=Value.ref l==.none) rfl ?_));refine Zj (m:=field (.ref i) 1) (Zm J Z (x:=.int k 0) rfl (Zj (m:=seqItems? (.ref l)) (yh L U ?_)));simp only[I,yN];refine Zj (y6 J Z (by simp) (Zk ⟨x,rfl,Zk (S _ ⟨?_,?_⟩ (Heap.SameBut.update ..))⟩))
  .refine ⟨_,zP _ J (Obj.isFreed_of_fields (Obj.data_mapFields Z _)),(Obj.cls_mapFields ..).trans M,?_⟩
   rw[Obj.data_mapFields Z];simp[rawInt]
  .exact N.extBut (Heap.SameBut.update ..).extBut D
theorem Ba(O:A.handled=none)(z:SI D s.heap i l k B)(N:B[k]?=none)(R:∀g e,Heap.ExtBut i s.heap g->(∃o,g.get? e=some o/\o.cls=.type "StopIteration")->E (.ref e) {s with heap:=g}):wpAny (model prog w) A (Builtin.SmallTypes.nextOf (.ref i)) Q E s:=by
 cases D with
 |false=>exact wpAny_nextOf_list_end O z.1 z.2 N R
 |true=>
  obtain⟨G,T⟩:=z;obtain⟨X,Z,U,J⟩:=id G;obtain⟨C,L,_,P,S⟩:=id T;have M:=F.slot_tuple_iterator_next;simp only[Builtin.SmallTypes.nextOf];refine Zj (wpAny_callSpecial?_slot (name:=Str.ofString "__next__") G.typeIs M (yb M G.typeIs F.entry_tuple_iterator_next ?_ (F.args_tuple_iterator_next_1 _)));refine Zj (m:=field (.ref i) 0) (Zm Z J (x:=.ref l) rfl (Dy (c:=Value.ref l==.none) rfl ?_));refine Zj (m:=field (.ref i) 1) (Zm Z J (x:=.int k 0) rfl (Zj (m:=seqItems? (.ref l)) (yh L S ?_)));simp only[N,yN];refine Zj (vg (Zj (y6 Z J (by simp) ?_)));refine Zj (m:=newExc (.type "StopIteration") []) ?_;simp only[newExc,newTuple];refine Zj (zW (Zj (m:=firstArgMember _ _) (wpAny_of_eq (a:=.none) (by simp only[firstArgMember];rfl) (zW ?_ (by size_fits)))) (by size_fits));have I:A.in1.handled=none:=O;simp only[raiseNew];refine Zj (wpAny_handled (?_));rw[I];exact Zj (Zk (wpAny_throw (R _ _ (((Heap.SameBut.update ..).extBut.push _).push _) ⟨_,ZW _ rfl,rfl⟩)))
structure ZS(h:Heap)(z TI TO:Addr)(f0:Value)(t1:Bool)(i1 l1:Addr)(xs:Array Value)(t2:Bool)(i2 l2:Addr)(ys:Array Value)(k:Nat):Prop where
 zip:IsZip h z TI TO f0
 its:IsPair h TI (.ref i1) (.ref i2)
 out:∃a b,IsPair h TO a b
 one:SI t1 h i1 l1 k xs
 two:SI t2 h i2 l2 k ys
theorem OC{z TI TO G J p C:Addr}(D:ZipApart z TI TO G J p C)(S:ZS s.heap z TI TO .none t1 G p v t2 J C j k)(hx:v[k]?=some x)(hy:j[k]?=some y)(hQ:∀g,ZS g z TI TO (rawInt s.heap.objs.size) t1 G p v t2 J C j (k+1)->IsPair g s.heap.objs.size x y->g.objs.size=s.heap.objs.size+1->
   (∀c o,c≠z->c≠TO->c≠G->c≠J->s.heap.get? c=some o->g.get? c=some o)->Q (some (.ref s.heap.objs.size)) {s with heap:=g}):wpAny (model prog w) A (pyNext (.ref z)) Q E s:=by
 have hT:s.TypeIs (.ref z) "zip":=⟨_,S.zip,rfl⟩;obtain⟨a,b,So⟩:=S.out;simp only[pyNext];refine Zj (yO (wpAny_callSpecial?_slot (name:=Str.ofString "__next__") hT v0 (yb v0 hT F.entry_zip_next ?_ (F.args_zip_next_1 _))));refine Zj (m:=field (.ref z) 2) (Zm S.zip rfl (x:=.bool false) rfl (Zj (m:=field (.ref z) 3) (Zm S.zip rfl (x:=.ref TI) rfl (Zj (yh S.its rfl ?_)))));refine Zj (m:=Builtin.SmallTypes.ownedTupleIsFree (.ref z)) (Zj (m:=field (.ref z) 0) (Zm S.zip rfl (x:=.none) rfl (Zk ?_)));simp only[if_true];refine Zj (vg (Zj (Zm S.zip rfl (x:=.ref TO) rfl (Zj (zx S.zip (by simp) λg1 u U=>Zj ?_)))));replace u:IsZip g1 z TI TO .ellipsis:=u;simp only[vb,List.forIn_nil,List.zipIdx_cons,List.zipIdx_nil];refine Zj (Zj (wpAny_onRaise (?_:wpAny _ _ (Builtin.SmallTypes.nextOf (.ref G) >>=_) _ _ _)));refine Zj (Gq (S.one.but U.extBut D.i1z D.l1z) D.l1i1 hx λg2 a2 I=>Zk ?_);have o2:IsPair g2 TO a b:=I.extBut _ _ D.TOi1 (U.extBut _ _ D.TOz So);refine Zj (yh o2 rfl ?_);refine Zj (jf o2 λg3 i B=>?_);replace i:IsPair g3 TO x b:=i;refine Zj (wpAny_letGo (Zk (Zj (Zj (wpAny_onRaise (?_:wpAny _ _ (Builtin.SmallTypes.nextOf (.ref J) >>=_) _ _ _))))));have b3:SI t2 g3 J C k j:=((S.two.but U.extBut D.i2z D.l2z).but I.extBut D.i12.symm D.l2i1).but B.extBut D.TOi2.symm D.l2TO;refine Zj (Gq b3 D.l2i2 hy λg4 b4 T=>Zk ?_);have o4:IsPair g4 TO x b:=T.extBut _ _ D.TOi2 i;refine Zj (yh o4 rfl ?_);refine Zj (jf o4 λZ t R=>?_);replace t:IsPair Z TO x y:=t;refine Zj (wpAny_letGo (Zk (Zk (Zj (yh t rfl (Zj (wpAny_newTuple ?_)))))));have sz:Z.objs.size=s.heap.objs.size:=by rw[R.1,T.1,B.1,I.1,U.1]
 have z5:IsZip Z z TI TO .ellipsis:=R.extBut _ _ D.TOz.symm (T.extBut _ _ D.i2z.symm (B.extBut _ _ D.TOz.symm (I.extBut _ _ D.i1z.symm u)))
 have k5:∀c o,c≠z->c≠TO->c≠G->c≠J->s.heap.get? c=some o->Z.get? c=some o:=λc o L d c3 n e=>
  R.extBut _ _ d (T.extBut _ _ n (B.extBut _ _ d (I.extBut _ _ c3 (U.extBut _ _ L e))))
 have a5:SI t1 Z G p (k+1) v:=((a2.but B.extBut D.TOi1.symm D.l1TO).but T.extBut D.i12 D.l1i2).but R.extBut D.TOi1.symm D.l1TO;have b5:SI t2 Z J C (k+1) j:=b4.but R.extBut D.TOi2.symm D.l2TO;have M:z<Z.objs.size:=ZN z5;show wpAny _ _ (Builtin.SmallTypes.ownedTupleHandOut (.ref z) (.ref Z.objs.size) >>=_) _ _ _;refine Zj ?_;simp only[Builtin.SmallTypes.ownedTupleHandOut];have z6:IsZip (Z.push {cls:=.type "tuple",data:=.seq #[x,y]}) z TI TO .ellipsis:=ZD _ z5;refine Zj (zx z6 (by simp) λg7 f l=>?_);replace f:IsZip g7 z TI TO (rawInt Z.objs.size):=f;refine zx f (by simp) λX P r=>?_;replace P:IsZip X z TI TO (rawInt Z.objs.size):=P;have N:∀c o,c≠z->Z.get? c=some o->X.get? c=some o:=λc o L e=>r.extBut _ _ L (l.extBut _ _ L (ZD _ e));have t8:IsPair X Z.objs.size x y:=r.extBut _ _ (yf M) (l.extBut _ _ (yf M) (ZW _ rfl));have O:X.objs.size=Z.objs.size+1:=by rw[r.1,l.1,zR]
 rw[sz]at P t8 O;refine Zk ⟨_,rfl,Zk ?_⟩;show Q (some (.ref Z.objs.size)) _;rw[sz];refine hQ X ⟨P,N _ _ D.TIz (k5 _ _ D.TIz D.TITO D.TIi1 D.TIi2 S.its),⟨_,_,N _ _ D.TOz t⟩,?_,?_⟩ t8 O λc o L d c3 n e=>N c o L (k5 c o L d c3 n e)
 .exact a5.to λc o h e=>N c o (h.elim (λq=>q ▸ D.i1z) λq=>q ▸ D.l1z) e
 .exact b5.to λc o h e=>N c o (h.elim (λq=>q ▸ D.i2z) λq=>q ▸ D.l2z) e
theorem Qf{z TI TO O N l P:Addr}(i:A.handled=none)(D:ZipApart z TI TO O N l P)(S:ZS s.heap z TI TO .none t1 O l u t2 N P C k)(R:u[k]?=none\/C[k]?=none)(hQ:∀g,(∀c o,c≠z->c≠TO->c≠O->c≠N->s.heap.get? c=some o->g.get? c=some o)->Q none {s with heap:=g}):wpAny (model prog w) A (pyNext (.ref z)) Q E s:=by
 have h:s.TypeIs (.ref z) "zip":=⟨_,S.zip,rfl⟩;obtain⟨a,b,So⟩:=S.out;have stop:∀(g:Heap)(e:Addr),(∀c o,c≠z->c≠TO->c≠O->c≠N->s.heap.get? c=some o->g.get? c=some o)->(∃o,g.get? e=some o/\o.cls=.type "StopIteration")->
   wpAny (model prog w) A (do if(<-isInstance (.ref e) (.type "StopIteration"))then pure none else throw (.ref e):Sem (Option Value)) Q E {s with heap:=g}:=λg e kp ⟨o,ho,hc⟩=>
  Zj (wpAny_isInstance (T:="StopIteration") (b:=true) ⟨o,ho,hc⟩ isSubtype_stop (Zk (hQ g kp)))
 simp only[pyNext];refine Zj (yO (wpAny_callSpecial?_slot (name:=Str.ofString "__next__") h v0 (yb v0 h F.entry_zip_next ?_ (F.args_zip_next_1 _))));refine Zj (m:=field (.ref z) 2) (Zm S.zip rfl (x:=.bool false) rfl (Zj (m:=field (.ref z) 3) (Zm S.zip rfl (x:=.ref TI) rfl (Zj (yh S.its rfl ?_)))));refine Zj (m:=Builtin.SmallTypes.ownedTupleIsFree (.ref z)) (Zj (m:=field (.ref z) 0) (Zm S.zip rfl (x:=.none) rfl (Zk ?_)));simp only[if_true];refine Zj (vg (Zj (Zm S.zip rfl (x:=.ref TO) rfl (Zj (zx S.zip (by simp) λg1 I M=>Zj ?_)))));replace I:IsZip g1 z TI TO .ellipsis:=I;simp only[vb,List.forIn_nil,List.zipIdx_cons,List.zipIdx_nil];refine Zj (Zj (wpAny_onRaise (?_:wpAny _ _ (Builtin.SmallTypes.nextOf (.ref O) >>=_) _ _ _)))
 cases hx:u[k]? with
 |none=>
  refine Zj (Ba i (S.one.but M.extBut D.i1z D.l1z) hx λt e e2 j=>?_);obtain⟨X,Z,J⟩:=j;have f:IsZip t z TI TO .ellipsis:=e2 _ _ D.i1z.symm I;have G:e≠z:=λq=>by subst q;rw[f]at Z;cases Z;simp at J
  refine zx f (by simp) λy _ L=>?_;exact stop y e (λc o B _ p _ q=>L.extBut _ _ B (e2 _ _ p (M.extBut _ _ B q))) ⟨X,L.extBut _ _ G Z,J⟩
 |some x=>
  have hy:C[k]?=none:=by rcases R with q|q;rw[hx]at q;cases q;exact q
  refine Zj (Gq (S.one.but M.extBut D.i1z D.l1z) D.l1i1 hx λt a2 U=>Zk ?_);have r:IsPair t TO a b:=U.extBut _ _ D.TOi1 (M.extBut _ _ D.TOz So);refine Zj (yh r rfl ?_);refine Zj (jf r λy o3 L=>?_);refine Zj (wpAny_letGo (Zk (Zj (Zj (wpAny_onRaise (?_:wpAny _ _ (Builtin.SmallTypes.nextOf (.ref N) >>=_) _ _ _))))));have b3:SI t2 y N P k C:=((S.two.but M.extBut D.i2z D.l2z).but U.extBut D.i12.symm D.l2i1).but L.extBut D.TOi2.symm D.l2TO;refine Zj (Ba i b3 hy λg4 e n j=>?_);obtain⟨X,Z,J⟩:=j;have d:IsZip g4 z TI TO .ellipsis:=n _ _ D.i2z.symm (L.extBut _ _ D.TOz.symm (U.extBut _ _ D.i1z.symm I));have G:e≠z:=λq=>by subst q;rw[d]at Z;cases Z;simp at J
  refine zx d (by simp) λg5 _ v=>?_;exact stop g5 e (λc o B c2 p c4 q=>v.extBut _ _ B (n _ _ c4 (L.extBut _ _ c2 (U.extBut _ _ p (M.extBut _ _ B q))))) ⟨X,v.extBut _ _ G Z,J⟩
def Wk(tp:Bool)(h:Heap)(l:Addr)(xs:kC):Prop:=match tp with
 |false=>h.IsList l xs
 |true=>h.IsTuple l xs
def Js(tp:Bool)(l:Addr):Obj:={cls:=.type (if tp then "tuple_iterator" else "list_iterator"),data:=.fields #[.ref l,.int 0 0]}
theorem Gj(h:Wk Z s.heap l J)(q:Q (.ref s.heap.objs.size) {s with heap:=s.heap.push (Js Z l)}):wpAny (model prog w) A (pyIter (.ref l)) Q E s:=by
 cases Z with
 |false=>exact yW h q
 |true=>exact wpAny_pyIter_tuple h q
theorem Wk.push(z:Wk Z h l J)(o:Obj):Wk Z (h.push o) l J:=by
 cases Z with
 |false=>exact Heap.IsList.push z o
 |true=>exact Heap.IsTuple.push z o
end
abbrev zg1(h:Heap)(t1:Bool)(l1:Addr):Heap:=h.push (Js t1 l1)
abbrev zg2(h:Heap)(t1:Bool)(l1:Addr)(t2:Bool)(l2:Addr):Heap:=(zg1 h t1 l1).push (Js t2 l2)
abbrev zg3(h:Heap)(t1:Bool)(l1:Addr)(t2:Bool)(l2:Addr):Heap:=(zg2 h t1 l1 t2 l2).push {cls:=.type "tuple",data:=.seq #[.ref h.objs.size,.ref (zg1 h t1 l1).objs.size]}
abbrev zg4(h:Heap)(t1:Bool)(l1:Addr)(t2:Bool)(l2:Addr):Heap:=(zg3 h t1 l1 t2 l2).push {cls:=.type "tuple",data:=.seq #[.none,.none]}
abbrev zg5(h:Heap)(t1:Bool)(l1:Addr)(t2:Bool)(l2:Addr):Heap:=(zg4 h t1 l1 t2 l2).push {cls:=.type "zip",data:=.fields #[.none,.bool false,.bool false,.ref (zg2 h t1 l1 t2 l2).objs.size,.ref (zg3 h t1 l1 t2 l2).objs.size]}
theorem BG(J L:Bool)(Z G:Addr)(N M:kC):
  Meets (Builtin.«zip.__new__» ⟨[.type "zip",.ref Z,.ref G],[]⟩) (λ_ R s=>Wk J s.heap Z N/\Wk L s.heap G M/\
   R (.ok (.ret (.ref (zg4 s.heap J Z L G).objs.size))) {s with heap:=zg5 s.heap J Z L G}):=
 .of_wp λT w A R s h=>by
  obtain⟨E,g,d,O,B⟩:=s;obtain⟨U,S,h⟩:=h;have D:=sub_zip;have I:Wk J (Shared.heap ⟨E,g,d,O,B⟩) Z N:=U;have F:Wk L (Shared.heap ⟨E.push (Js J Z),g,d,O,B⟩) G M:=Wk.push S _
  wp_walk using Gj I,Gj F
  exact⟨_,rfl,h⟩
def SJ(tp:Bool)(h:Heap)(i l:Addr)(k:Nat):Prop:=match tp with
 |false=>h.IsListIter i l k
 |true=>h.IsTupleIter i l k
theorem SJ.si(z:SJ Z h i l k)(c:Wk Z h l J):SI Z h i l k J:=by
 cases Z <;> exact⟨z,c⟩
theorem SI.sj(z:SI Z h i l k J):SJ Z h i l k:=by
 cases Z <;> exact z.1
theorem SJ.to(z:SJ Z h i l k)(J:∀o,h.get? i=some o->G.get? i=some o):SJ Z G i l k:=by
 cases Z with
 |false=>exact let⟨o,e,r⟩:=z;⟨o,J _ e,r⟩
 |true=>exact let⟨o,e,r⟩:=z;⟨o,J _ e,r⟩
theorem SJ.obj(z:SJ Z h i l k):∃o,h.get? i=some o/\∀v,o.data≠.cell v:=by
 cases Z with
 |false=>obtain⟨o,e,_,d⟩:=z;exact⟨o,e,λv q=>by rw[d]at q;cases q⟩
 |true=>obtain⟨o,e,_,d⟩:=z;exact⟨o,e,λv q=>by rw[d]at q;cases q⟩
theorem SJ.new(Z:Bool)(h:Heap)(l:Addr):SJ Z (h.push (Js Z l)) h.objs.size l 0:=by
 cases Z <;> exact⟨_,ZW _ rfl,rfl,rfl⟩
structure ZR(h:Heap)(z TI TO:Addr)(t1:Bool)(i1 l1:Addr)(t2:Bool)(i2 l2:Addr)(k:Nat):Prop where
 zip:IsZip h z TI TO .none
 its:IsPair h TI (.ref i1) (.ref i2)
 out:∃a b,IsPair h TO a b
 one:SJ t1 h i1 l1 k
 two:SJ t2 h i2 l2 k
section
theorem Ly(U:Wk t1 s.heap l1 D)(S:Wk t2 s.heap l2 B)(h:∀g,ZR g (s.heap.objs.size+4) (s.heap.objs.size+2) (s.heap.objs.size+3) t1 s.heap.objs.size l1 t2 (s.heap.objs.size+1) l2 0->
   (∀c o,s.heap.get? c=some o->g.get? c=some o)->Q (.ref (s.heap.objs.size+4)) {s with heap:=g}):wpAny (model prog w) A (call (.type "zip") [.ref l1,.ref l2]) Q E s:=by
 refine callType_new F.called_zip (by decide) (F.typeCall_zip_2 _ _) (F.newCall_zip_2 _ _) (λJ=>F.args_object_init_3 J _ _) F.entry_zip_new (BG t1 t2 l1 l2 D B) ⟨U,S,?_⟩;have M:(zg1 s.heap t1 l1).objs.size=s.heap.objs.size+1:=zR ..;have L:(zg2 s.heap t1 l1 t2 l2).objs.size=s.heap.objs.size+2:=by rw[zR,M]
 have G:(zg3 s.heap t1 l1 t2 l2).objs.size=s.heap.objs.size+3:=by rw[zR,L]
 have T:(zg4 s.heap t1 l1 t2 l2).objs.size=s.heap.objs.size+4:=by rw[zR,G]
 have Z:(zg5 s.heap t1 l1 t2 l2).get? (zg4 s.heap t1 l1 t2 l2).objs.size=some _:=ZW _ rfl;have N:(zg5 s.heap t1 l1 t2 l2).get? (zg3 s.heap t1 l1 t2 l2).objs.size=some _:=ZD _ (ZW _ rfl);have O:(zg5 s.heap t1 l1 t2 l2).get? (zg2 s.heap t1 l1 t2 l2).objs.size=some _:=ZD _ (ZD _ (ZW _ rfl));have R:SJ t2 (zg5 s.heap t1 l1 t2 l2) (zg1 s.heap t1 l1).objs.size l2 0:=(SJ.new t2 (zg1 s.heap t1 l1) l2).to λo q=>ZD _ (ZD _ (ZD _ q));have I:SJ t1 (zg5 s.heap t1 l1 t2 l2) s.heap.objs.size l1 0:=(SJ.new t1 s.heap l1).to λo q=>ZD _ (ZD _ (ZD _ (ZD _ q)));show _/\_;rw[L,G,T]at Z;rw[M,L]at O;rw[G]at N;rw[M]at R;rw[T]
 exact⟨⟨_,Z,rfl⟩,h _ ⟨Z,O,⟨_,_,N⟩,I,R⟩ λc o q=>
  ZD _ (ZD _ (ZD _ (ZD _ (ZD _ q))))⟩
end
def Sq(K:W.Frag)(tp:Bool)(H:Hp)(l:Addr)(xs:kF):Prop:=match tp with
 |false=>SqL K H l xs
 |true=>SqT K H l xs
theorem Inv.sq(I:Inv X G U H s)(h:Sq X.K J H l L):∃Z:kj,Vals L Z/\Wk J s.heap l Z.toArray:=by
 cases J with
 |false=>
  obtain⟨Z,r,p,_⟩:=I.list h;exact⟨Z,r,p.isList⟩
 |true=>
  obtain⟨Z,r,p,_⟩:=I.tuple h;exact⟨Z,r,p⟩
theorem Inv.sq_inj(I:Inv X J U H s)(h:Sq X.K Z H l M)(G:Sq X.K Z H l L):M=L:=by
 cases Z with
 |false=>exact I.list_inj h G
 |true=>exact I.tuple_inj h G
theorem Wk.lt(z:Wk Z h l J):l<h.objs.size:=by
 cases Z with
 |false=>obtain⟨_,e,_⟩:=z;exact ZN e
 |true=>obtain⟨_,e,_⟩:=z;exact ZN e
def Itz(K:W.Frag)(t1:Bool)(l1:Addr)(t2:Bool)(l2:Addr):It:=
  ⟨λi H=>∃J Z x y,Sq K t1 H l1 J/\Sq K t2 H l2 Z/\J[i]?=some x/\Z[i]?=some y,
   λi H v G=>∃p x y,v=.ref p/\H p=none/\G=upd H p (.tup [x,y])/\(∀J,Sq K t1 H l1 J->J[i]?=some x)/\∀Z,Sq K t2 H l2 Z->Z[i]?=some y,
   λi H=>∃J Z,Sq K t1 H l1 J/\Sq K t2 H l2 Z/\(J.length<=i\/Z.length<=i)⟩
theorem Fy:bootBuiltins "zip"=some (.type "zip"):=by decide +kernel
theorem Inv.turnedL{ch:kA}(I:Inv X Z U H s)(k:∀b o,b∉ch->s.heap.get? b=some o->O.get? b=some o)(f:∀b∈ch,UI X Z H b):
  Inv X Z U H {s with heap:=O,toks:=t'}:=by
 have L:∀b u,H b=some u->b∉ch:=λb u e z=>by rw[(f b z).1]at e;cases e
 have M:X.env.locals∉ch:=λz=>(f _ z).2.1 rfl;refine I.step (g':=s.gens) (d':=s.drawn) (ch:=ch) (λb G=>⟨(f b G).2.2.2.1,(f b G).2.1,(f b G).2.2.2.2.1,(f b G).2.2.2.2.2⟩) (λb o _ _ J e _=>k b o J e) (λb o _ _ J e _=>⟨o.slots,k b o J e⟩) (λ_ _ _ _ n=>n)
  (λb o J e=>⟨o,k b o J e⟩) (λ_ _ e=>e) (λ_ _ _ e=>e) (λb R e=>⟨#[],by rw[e];simp⟩) (λm N=>?_) (λb u e=>?_) I.bare
 .obtain ⟨o,es,ep,ho,r⟩:=N
  exact⟨o,es,ep,k _ o M ho,r⟩
 .refine (I.hok b u e).stay (λc v J q=>k c v ?_ q) (λ_ q=>q) λ_ _ q=>q
  rcases J with z|z
  .rw [z];exact L b u e
  .exact L c _ z
theorem A6{a b c d x:Addr}(h:x∈ [a,b,c,d]):x=a\/x=b\/x=c\/x=d:=by simpa using h
theorem IS{P:Program}{w:World}{K:W.Frag}{F:kP}{x1}{l:Pos}{z TI TO M L l1 l2:Addr}{t1 t2:Bool}(D:ZipApart z TI TO M L l1 l2):
  Turn P w K (.Tuple F x1 l) (Itz K t1 l1 t2 l2) [z,TO,M,L,TI] z (λi h=>ZR h z TI TO t1 M l1 t2 L l2 i) where
 mem:=by simp
 obj:=λi h Z b J=>by
  have q:b=z\/b=TO\/b=M\/b=L\/b=TI:=by simpa using J
  rcases q with q|q|q|q|q <;> rw[q]
  .exact ⟨_,Z.zip,λv e=>nomatch e⟩
  .obtain ⟨a,b,e⟩:=Z.out
   exact⟨_,e,λv e=>nomatch e⟩
  .exact Z.one.obj
  .exact Z.two.obj
  .exact ⟨_,Z.its,λv e=>nomatch e⟩
 keep:=λi h h' Z k=>⟨k z (by simp) _ Z.zip,k TI (by simp) _ Z.its,let⟨a,b,e⟩:=Z.out;⟨a,b,k TO (by simp) _ e⟩,Z.one.to λo e=>k M (by simp) o e,Z.two.to λo e=>k L (by simp) o e⟩
 item:=by
  intro X hP hw hK hc i G s U H E I Q Z hg;subst hP hw hK;obtain⟨xs,ys,x,y,C,S,hx,hy⟩:=hg;obtain⟨T,r,t⟩:=I.sq C;obtain⟨R,u,j⟩:=I.sq S;obtain⟨p,J2,d⟩:=r.get hx;obtain⟨m,J1,c⟩:=u.get hy;refine OC D ⟨Z.zip,Z.its,Z.out,Z.one.si t,Z.two.si j⟩ (x:=p) (y:=m) (by simpa using J2) (by simpa using J1) λg A hp sz kp=>?_
  have f:∀b∈ [z,TO,M,L],UI X G H b:=λb J=>Q b (by
   rcases A6 J with q|q|q|q <;> rw[q] <;> simp)
  have Z9:∀b o,b ∉ [z,TO,M,L]->s.heap.get? b=some o->g.get? b=some o:=λb o J e=>kp b o (λq=>J (by simp[q])) (λq=>J (by simp[q])) (λq=>J (by simp[q])) (λq=>J (by simp[q])) e;have I1:Inv X G U H {s with heap:=g}:=I.turnedL (t':=s.toks) Z9 f;have hn:H s.heap.objs.size=none:=I.hok.fresh (ZF _);have O:z<s.heap.objs.size:=ZN Z.zip;refine⟨_,rfl,?_⟩;refine wpAny_letOwnedTupleGo_zip (s:={s with heap:=g}) A.zip λg2 z2 N=>?_
  have I2:Inv X G U H {s with heap:=g2}:=I1.turnedL (s:={s with heap:=g}) (t':=s.toks) (ch:=[z]) (λb o J e=>N.extBut b o (λq=>J (by simp[q])) e) λb J=>by
   have q:b=z:=by simpa using J
   rw[q];exact f z (by simp)
  have n:IsPair g2 s.heap.objs.size p m:=N.extBut _ _ (yf O) hp;have I3:Inv X G U (upd H s.heap.objs.size (.tup [x,y])) {s with heap:=g2}:=I2.retrack hn (I.fpOk (ZF _) hn) ⟨sl 2,[p,m],.cons d (.cons c .nil),⟨_,n,rfl,rfl,_,rfl⟩⟩
  have Z8:∀b∈ [z,TO,M,L,TI],b<s.heap.objs.size:=λb J=>by
   have q:b=z\/b=TO\/b=M\/b=L\/b=TI:=by simpa using J
   rcases q with q|q|q|q|q <;> rw[q]
   .exact O
   .obtain ⟨a,b,e⟩:=Z.out
    exact ZN e
   .obtain ⟨o,e,_⟩:=Z.one.obj
    exact ZN e
   .obtain ⟨o,e,_⟩:=Z.two.obj
    exact ZN e
   .exact ZN Z.its
  refine⟨.ref s.heap.objs.size,_,I3,rfl,⟨_,x,y,rfl,hn,rfl,λzs h=>by rw[I.sq_inj h C];exact hx,λzs h=>by rw[I.sq_inj h S];exact hy⟩,?_,λb J=>?_⟩
  .refine ⟨z2,N.extBut _ _ D.TIz A.its,let⟨a,b,e⟩:=A.out;⟨a,b,N.extBut _ _ D.TOz e⟩,A.one.sj.to λo e=>N.extBut _ _ D.i1z e,A.two.sj.to λo e=>N.extBut _ _ D.i2z e⟩
  .rw [Yd (Zc (Z8 b J))]
   exact(Q b J).1
 done:=by
  intro X hP hw hK hc i G s U H E I Q Z hg;subst hP hw hK;obtain⟨xs,ys,C,S,B⟩:=hg;obtain⟨T,r,t⟩:=I.sq C;obtain⟨R,u,j⟩:=I.sq S;have e1:=r.length;have e2:=u.length;refine Qf (I.ok.hd hc) D ⟨Z.zip,Z.its,Z.out,Z.one.si t,Z.two.si j⟩ ?_ λg kp=>⟨rfl,?_⟩
  .rcases B with q|q
   .exact .inl (by simp;omega)
   .exact .inr (by simp;omega)
  .refine I.turnedL (t':=s.toks) (ch:=[z,TO,M,L]) (λb o J e=>kp b o (λq=>J (by simp[q])) (λq=>J (by simp[q])) (λq=>J (by simp[q])) (λq=>J (by simp[q])) e) λb J=>Q b (by
    rcases A6 J with q|q|q|q <;> rw[q] <;> simp)
 self:=λ_ _ _ _ _ Z h=>wpAny_pyIter_zip Z.zip h
theorem zap(n J Z:Nat)(M:J<n)(L:Z<n):ZipApart (n+4) (n+2) (n+3) n (n+1) J Z:=by
 constructor <;> (intro q;have G:(_:Nat)=_:=q;omega)
def Cz(K:W.Frag)(ta:TA):TI:=λU H R=>ta U H λN Z=>∃a b G J M L,N=[.ref a,.ref b]/\Sq K G Z a M/\Sq K J Z b L/\R (Itz K G a J b) Z
theorem SE(f:Gl X "zip")(d:X.mg "zip"=none)(w:PA X [a,b] ta)(c:starEach [a,b] X.env=[(false,eval a X.env),(false,eval b X.env)]:=by rfl)(G:starEach [b] X.env=[(false,eval b X.env)]:=by rfl):PI X (.Tuple elts x1 tpos) (.Call (.Name "zip" p) [a,b] [] pos) (Cz X.K ta):=by
 intro J s U H R I h;refine Call_ (Wv I f d Fy (yu (thn (w pos J s U H _ I h) λx Z ⟨n,A,M,j,O⟩=>?_) (by rw[c,G]) (by rw[G];rfl)));obtain⟨l1,l2,t1,t2,o,l,e,O,y,q⟩:=O;subst e;obtain⟨u,i,rfl,C,N⟩:=vals2 j;cases C;cases N;obtain⟨F,Q,B⟩:=M.sq O;obtain⟨E,P,T⟩:=M.sq y;have m:=B.lt;have t:=T.lt;refine Ly B T λg S k=>?_;refine wpAny_pyIter_zip (s:={Z with heap:=g}) S.zip ?_;have D:=zap _ _ _ m t;have r:Inv X J U A {Z with heap:=g}:=M.kept (t':=Z.toks) k;refine⟨_,[Z.heap.objs.size+4,Z.heap.objs.size+3,Z.heap.objs.size,Z.heap.objs.size+1,Z.heap.objs.size+2],_,_,A,rfl,r,IS D,S,λb v=>?_,q⟩
 have L:Z.heap.objs.size<=b:=by
  have z:b=Z.heap.objs.size+4\/b=Z.heap.objs.size+3\/b=Z.heap.objs.size\/b=Z.heap.objs.size+1\/b=Z.heap.objs.size+2:=by simpa using v
  rcases z with z|z|z|z|z <;> rw[z] <;> first|exact ZF _|exact vD _ _
 exact M.fpOk L (M.hok.fresh L)
inductive Dat where
 |non|bl (b:Bool)|int (i:Int)|str (x:Str)|tup (ds:List Dat)|lst (ds:List Dat)
abbrev kK:=List Dat
mutual
def Has(H:Hp):V->Dat->Prop
 |v,.non=>v=.non
 |v,.bl b=>v=.bl b
 |v,.int i=>v=.int i
 |v,.str x=>v=.str x
 |v,.tup ds=>∃a xs,v=.ref a/\H a=some (.tup xs)/\HasL H xs ds
 |v,.lst ds=>∃a xs,v=.ref a/\H a=some (.lst xs)/\HasL H xs ds
def HasL(H:Hp):List V->List Dat->Prop
 |[],[]=>True
 |x::xs,d::ds=>Has H x d/\HasL H xs ds
 |_::_,[]=>False
 |[],_::_=>False
end
mutual
theorem Has.mono{H M:Hp}(e:Same H M):∀(d:Dat){v:V},Has H v d->Has M v d
 |.non,_,h=>by unfold Has at h |-;exact h
 |.bl _,_,h=>by unfold Has at h |-;exact h
 |.int _,_,h=>by unfold Has at h |-;exact h
 |.str _,_,h=>by unfold Has at h |-;exact h
 |.tup ds,_,h=>by
  unfold Has at h |-;obtain⟨a,Z,L,G,J⟩:=h;exact⟨a,Z,L,e _ _ G,HasL.mono e ds J⟩
 |.lst ds,_,h=>by
  unfold Has at h |-;obtain⟨a,Z,L,G,J⟩:=h;exact⟨a,Z,L,e _ _ G,HasL.mono e ds J⟩
theorem HasL.mono{H G:Hp}(e:Same H G):∀(Z:kK){J:kF},HasL H J Z->HasL G J Z
 |[],[],h=>by unfold HasL;trivial
 |[],_::_,h=>by unfold HasL at h;exact h.elim
 |_::_,[],h=>by unfold HasL at h;exact h.elim
 |d::Z,x::J,h=>by
  unfold HasL at h |-;exact⟨Has.mono e d h.1,HasL.mono e Z h.2⟩
end
theorem HasL.length:∀{J:kK}{Z:kF},HasL H Z J->Z.length=J.length
 |[],[],h=>rfl
 |[],_::_,h=>by unfold HasL at h;exact h.elim
 |_::_,[],h=>by unfold HasL at h;exact h.elim
 |d::J,x::Z,h=>by
  unfold HasL at h;rw[Zd,Zd,HasL.length h.2]
theorem HasL.get:∀{J:kK}{Z:kF}{i:Nat}{x:V},HasL H Z J->Z[i]?=some x->∃d,J[i]?=some d/\Has H x d
 |[],[],i,x,h,e=>by simp at e
 |[],_::_,_,_,h,_=>by unfold HasL at h;exact h.elim
 |_::_,[],_,_,h,_=>by unfold HasL at h;exact h.elim
 |d::J,y::Z,0,x,h,e=>by
  unfold HasL at h;have G:some y=some x:=e;cases G;exact⟨d,rfl,h.1⟩
 |d::J,y::Z,i+1,x,h,e=>by
  unfold HasL at h;exact HasL.get (i:=i) h.2 e
theorem HasL.append:∀{G es:kK}{J Z:kF},HasL H J G->HasL H Z es->HasL H (J++ Z) (G++ es)
 |[],_,[],_,_,h=>h
 |[],_,_::_,_,h,_=>by unfold HasL at h;exact h.elim
 |_::_,_,[],_,h,_=>by unfold HasL at h;exact h.elim
 |d::G,es,x::J,Z,h,h'=>by
  unfold HasL at h;show HasL H (x::(J++ Z)) (d::(G++ es));unfold HasL;exact⟨h.1,HasL.append h.2 h'⟩
abbrev Z5:=@HasL.append
theorem HasL.one(h:Has H x d):HasL H [x] [d]:=by
 unfold HasL;exact⟨h,by unfold HasL;trivial⟩
abbrev Z3:=@HasL.one
theorem HasL.nil:HasL H [] []:=by unfold HasL;trivial
abbrev Z4:=@HasL.nil
theorem HasL.cons(h:Has H x d)(t:HasL H Z J):HasL H (x::Z) (d::J):=by
 unfold HasL;exact⟨h,t⟩
abbrev Z2:=@HasL.cons
mutual
theorem Has.inj{H:Hp}:∀(d Z:Dat){v:V},Has H v d->Has H v Z->d=Z
 |.non,Z,_,h,h'=>by
  unfold Has at h;subst h;cases Z <;> unfold Has at h' <;> first|(obtain⟨_,_,q,_⟩:=h';cases q;done)|rfl|(cases h';done)
 |.bl _,Z,_,h,h'=>by
  unfold Has at h;subst h;cases Z <;> unfold Has at h' <;> first|(obtain⟨_,_,q,_⟩:=h';cases q;done)|(cases h';done)|(cases h';rfl)
 |.int _,Z,_,h,h'=>by
  unfold Has at h;subst h;cases Z <;> unfold Has at h' <;> first|(obtain⟨_,_,q,_⟩:=h';cases q;done)|(cases h';done)|(cases h';rfl)
 |.str _,Z,_,h,h'=>by
  unfold Has at h;subst h;cases Z <;> unfold Has at h' <;> first|(obtain⟨_,_,q,_⟩:=h';cases q;done)|(cases h';done)|(cases h';rfl)
 |.tup ds,Z,_,h,h'=>by
  unfold Has at h;obtain⟨a,B,T,L,R⟩:=h;subst T
  cases Z with
  |tup M=>
   unfold Has at h';obtain⟨b,O,G,J,N⟩:=h';cases G;rw[L]at J;cases J;rw[HasL.inj ds M R N]
  |lst M=>
   unfold Has at h';obtain⟨b,O,G,J,N⟩:=h';cases G;rw[L]at J;cases J
  |_=>unfold Has at h';cases h'
 |.lst ds,Z,_,h,h'=>by
  unfold Has at h;obtain⟨a,B,T,L,R⟩:=h;subst T
  cases Z with
  |lst M=>
   unfold Has at h';obtain⟨b,O,G,J,N⟩:=h';cases G;rw[L]at J;cases J;rw[HasL.inj ds M R N]
  |tup M=>
   unfold Has at h';obtain⟨b,O,G,J,N⟩:=h';cases G;rw[L]at J;cases J
  |_=>unfold Has at h';cases h'
theorem HasL.inj{H:Hp}:∀(J es:kK){Z:kF},HasL H Z J->HasL H Z es->J=es
 |[],[],_,_,_=>rfl
 |[],_::_,Z,h,h'=>by
  cases Z <;> unfold HasL at h h'
  .exact h'.elim
  .exact h.elim
 |_::_,[],Z,h,h'=>by
  cases Z <;> unfold HasL at h h'
  .exact h.elim
  .exact h'.elim
 |d::J,e::es,Z,h,h'=>by
  cases Z with
  |nil=>unfold HasL at h;exact h.elim
  |cons x Z=>
   unfold HasL at h h';rw[Has.inj d e h.1 h'.1,HasL.inj J es h.2 h'.2]
end
end L2
namespace L2
open PySem
theorem Ua{K:PySem.W.Frag}{a:Addr}{xs:kF}{g:TG}{L:TS}{D:Ends}{U:St}{H:Hp}(Z:kH)(S:Z 0 U H)(A:∀i U H,i<=xs.length->Z i U H->SqL K H a xs)(F:∀(B:kI)(R:VK) i x U H,xs[i]?=some x->Z i U H->g x U H fun σ2 G=>L {nx:=Z (i+1),rt:=R,bk:=B,ct:=Z (i+1)} σ2 G)(I:∀U H,Z xs.length U H->D.nx U H):
  ∃W:Nat->Nat->St->Hp->Prop,(∃m,W 0 m U H)/\∀i m U H,W i m U H->
   ((Itl K a).stop i H/\D.nx U H)\/((Itl K a).go i H/\∃N:kI,(∀O J,N O J->∃M,M<m/\W (i+1) M O J)/\∀x J,(Itl K a).yld i H x J->g x U J fun σ2 G=>L {D with nx:=N,ct:=N,bk:=D.nx} σ2 G):=
 Lk Z S A (λi x U H E p=>F _ _ i x U H E p) I
theorem RF{K:PySem.W.Frag}{a:Addr}{xs:kF}{g:TG}{L:TS}{D:Ends}{U:St}{H:Hp}(Z:kH)(S:Z 0 U H)(A:∀i U H,i<=xs.length->Z i U H->SqT K H a xs)(F:∀(B:kI)(R:VK) i x U H,xs[i]?=some x->Z i U H->g x U H fun σ2 G=>L {nx:=Z (i+1),rt:=R,bk:=B,ct:=Z (i+1)} σ2 G)(I:∀U H,Z xs.length U H->D.nx U H):
  ∃W:Nat->Nat->St->Hp->Prop,(∃m,W 0 m U H)/\∀i m U H,W i m U H->
   ((Itt K a).stop i H/\D.nx U H)\/((Itt K a).go i H/\∃N:kI,(∀O J,N O J->∃M,M<m/\W (i+1) M O J)/\∀x J,(Itt K a).yld i H x J->g x U J fun σ2 G=>L {D with nx:=N,ct:=N,bk:=D.nx} σ2 G):=
 Pn Z S A (λi x U H E p=>F _ _ i x U H E p) I
theorem RG{G:Int}{n:Nat}{g:TG}{M:TS}{D:Ends}{U:St}{H:Hp}(Z:kH)(S:Z 0 U H)(F:∀(B:kI)(R:VK) i U H,i<n->Z i U H->g (.int (G+i)) U H fun σ2 L=>M {nx:=Z (i+1),rt:=R,bk:=B,ct:=Z (i+1)} σ2 L)(I:∀U H,Z n U H->D.nx U H):
  ∃W:Nat->Nat->St->Hp->Prop,(∃m,W 0 m U H)/\∀i m U H,W i m U H->
   ((Itr G n).stop i H/\D.nx U H)\/((Itr G n).go i H/\∃N:kI,(∀T J,N T J->∃O,O<m/\W (i+1) O T J)/\∀x J,(Itr G n).yld i H x J->g x U J fun σ2 L=>M {D with nx:=N,ct:=N,bk:=D.nx} σ2 L):=
 Fk Z S (λi U H A p=>F _ _ i U H A p) I
theorem Yk.none{P:Program}{w:World}{K:W.Frag}{M:Str->Option Value}{base:Heap}{O:CXT}{k:Nat}{f:Addr}{N:FuncData}{L:kq}{G:Sp}(h:∀Z H Q E,G Z H Q E->False):Yk P w K M base O k f N L G:=
 ⟨λZ H Q E q=>(h _ _ _ _ q).elim,λA J s H args R Z Q E _ _ _ _ q=>(h _ _ _ _ q).elim⟩
theorem Y3{N P:kq}{Z:Scope}(h:Z.kind=.function/\Z.isCoroutine=false/\Z.isGenerator=false/\N.Nodup/\N.take P.length=P/\(∀x∈P,Z.names.lookup x=some .local\/Z.names.lookup x=some .cell)/\∀y∈Z.names,y.2≠.free:=by decide +kernel):Yo N P Z:=
 ⟨h.1,h.2.1,h.2.2.1,h.2.2.2.1,h.2.2.2.2.1,h.2.2.2.2.2.1,h.2.2.2.2.2.2⟩
end L2
namespace K4
open PySem L2
def top(i:Nat):Stmt:=PySem.Challenge.pw_wantway_k75_no_row_bodies.main.body.getD i (.Pass ⟨0,0,0,0⟩)
abbrev Bk:Stmt:=top 2
abbrev sKP:Stmt:=top 6
abbrev KP:Stmt:=top 7
abbrev Br:Stmt:=top 8
abbrev Bq:Stmt:=top 9
abbrev KQ:Stmt:=top 10
abbrev Md:Stmt:=top 11
abbrev Bp:Stmt:=top 12
abbrev Th:Stmt:=top 13
abbrev KU:Stmt:=top 14
abbrev KS:Stmt:=top 15
abbrev Mf:Stmt:=top 35
abbrev Bs:Stmt:=top 36
abbrev Bg:Stmt:=top 37
abbrev XI:Stmt:=top 43
abbrev KW:Stmt:=inClass XI 0
abbrev Bn:Stmt:=inClass XI 1
abbrev KN:Stmt:=inClass XI 2
abbrev Bl:Stmt:=inClass XI 3
abbrev Bm:Stmt:=inClass XI 4
abbrev Wn:Stmt:=inClass XI 5
abbrev Tc:Stmt:=inClass XI 7
abbrev Me:Stmt:=inClass XI 9
abbrev Tg:Stmt:=inClass XI 10
abbrev WZ:Stmt:=top 50
abbrev Bx:Stmt:=inClass WZ 0
abbrev Bu:Stmt:=inClass WZ 1
abbrev By:Stmt:=inClass WZ 2
abbrev Mi:Stmt:=inClass WZ 3
abbrev Mh:Stmt:=inClass WZ 4
abbrev Mg:Stmt:=inClass WZ 5
abbrev Bv:Stmt:=inClass WZ 6
abbrev Bw:Stmt:=inClass WZ 7
abbrev Bt:Stmt:=inClass WZ 10
abbrev Bz:Stmt:=top 52
abbrev Wp:Stmt:=top 53
abbrev Wo:Stmt:=top 54
abbrev Gv:Stmt:=top 3
abbrev Te:Stmt:=top 4
abbrev Mb:Stmt:=top 44
abbrev MW:Stmt:=top 51
abbrev Tf:Stmt:=top 59
abbrev Mj:Stmt:=top 60
abbrev Ge:Stmt:=top 58
abbrev MY:Stmt:=inClass Ge 0
abbrev Bh:Stmt:=inClass Ge 1
abbrev Bj:Stmt:=inClass Ge 2
abbrev MZ:Stmt:=inClass Ge 3
abbrev Ma:Stmt:=inClass Ge 4
abbrev Td:Stmt:=inClass Ge 5
abbrev MX:Stmt:=inClass Ge 6
abbrev Bi:Stmt:=inClass Ge 7
abbrev Mc:Stmt:=inClass (top 29) 0
abbrev LP:Stmt:=top 62
abbrev LL:Stmt:=top 63
abbrev DX:Stmt:=top 64
abbrev My:Stmt:=top 65
abbrev DZ:Stmt:=top 66
abbrev LO:Stmt:=top 67
abbrev Mx:Stmt:=top 68
abbrev Da:Stmt:=top 69
abbrev ES:Stmt:=top 70
abbrev LQ:Stmt:=top 71
abbrev LK:Stmt:=top 72
abbrev ET:Stmt:=top 73
abbrev LJ:Stmt:=top 74
abbrev LN:Stmt:=top 75
abbrev Mz:Stmt:=top 76
abbrev Ww:Stmt:=top 77
abbrev M0:Stmt:=top 78
abbrev Dc:Stmt:=top 79
abbrev Wx:Stmt:=top 80
abbrev X5:Stmt:=top 81
abbrev EU:Stmt:=top 82
abbrev Tx:Stmt:=top 83
abbrev Tw:Stmt:=top 84
abbrev DY:Stmt:=top 85
end K4
namespace L2
open PySem PySem.Spec PyProof.Rows
theorem Tz(K:W.Frag)(T:String):W.kitOne K (.type T) (.type T)=some true:=by
 unfold W.kitOne;rw[Zn (by simp)]
theorem Sj{K:W.Frag}:∀{a b:String},(a,b)∈ [("NoneType","bool"),("NoneType","str"),("NoneType","int"),("NoneType","tuple"),("NoneType","list"),("int","bool"),("int","str"),("int","tuple"),("int","list"),("str","bool"),("str","int"),("str","tuple"),("str","list"),("bool","str"),("bool","tuple"),("bool","list"),("tuple","bool"),("tuple","str"),("tuple","int"),("tuple","list"),("list","bool"),("list","str"),("list","int"),("list","tuple")]->W.kitOne K (.type a) (.type b)=some false:=by
 intro a b h;simp only[Zb,Prod.mk.injEq,yp,or_false]at h;rcases h with⟨rfl,rfl⟩|⟨rfl,rfl⟩|⟨rfl,rfl⟩|⟨rfl,rfl⟩|⟨rfl,rfl⟩|⟨rfl,rfl⟩|⟨rfl,rfl⟩|⟨rfl,rfl⟩|⟨rfl,rfl⟩|⟨rfl,rfl⟩|⟨rfl,rfl⟩|⟨rfl,rfl⟩|⟨rfl,rfl⟩|⟨rfl,rfl⟩|⟨rfl,rfl⟩|⟨rfl,rfl⟩|⟨rfl,rfl⟩|⟨rfl,rfl⟩|⟨rfl,rfl⟩|⟨rfl,rfl⟩|⟨rfl,rfl⟩|⟨rfl,rfl⟩|⟨rfl,rfl⟩|⟨rfl,rfl⟩ <;> kernel_rfl
theorem Vm:bootBuiltins "tuple"=some (.type "tuple"):=by decide +kernel
theorem Vw:bootBuiltins "list"=some (.type "list"):=by decide +kernel
theorem Ru:bootBuiltins "str"=some (.type "str"):=by decide +kernel
theorem IH:bootBuiltins "int"=some (.type "int"):=by decide +kernel
theorem Ds:bootBuiltins "bool"=some (.type "bool"):=by decide +kernel
theorem WA:bootBuiltins "dict"=some (.type "dict"):=by decide +kernel
theorem Uy:bootBuiltins "isinstance"=some (.builtin "isinstance"):=by decide +kernel
theorem Xu:bootBuiltins "all"=some (.builtin "all"):=by decide +kernel
theorem W9:bootBuiltins "max"=some (.builtin "max"):=by decide +kernel
theorem Mt(R:Gl X "isinstance")(O:X.mg "isinstance"=none)(J:Gl X x)(Z:X.mg x=none)(M:bootBuiltins x=some (.type T))(he:PE X e te)(N:x≠"__name__":=by decide)(G:(x==("__debug__":Str))=false:=by decide)(L:starEach [e,.Name x p'] X.env=(false,eval e X.env)::starEach [.Name x p'] X.env:=by rfl):
  PE X (.Call (.Name "isinstance" p) [e,.Name x p'] [] pos) (tCB (AY X.K) (V6 te (V6 (tC (.ty T)) TJ))):=
 Yr Lz R O Uy (pa2 he (EK J Z M rfl N G) L) (he:=L)
end L2
namespace L2
open PySem
mutual
def Dat.dep:Dat->Nat
 |.tup ds=>1+Dat.deps ds
 |.lst ds=>1+Dat.deps ds
 |_=>0
def Dat.deps:List Dat->Nat
 |[]=>0
 |d::ds=>max d.dep (Dat.deps ds)
end
theorem Dat.deps_get:∀{ds:kK}{i:Nat}{d:Dat},ds[i]?=some d->d.dep<=Dat.deps ds
 |[],i,d,e=>by simp at e
 |a::ds,0,d,e=>by
  have Z:some a=some d:=e;cases Z;unfold Dat.deps;exact ye _ _
 |a::ds,i+1,d,e=>by
  have q:=Dat.deps_get (ds:=ds) (i:=i) e;unfold Dat.deps;exact ZZ q (zY _ _)
mutual
def Dat.wid:Dat->Nat
 |.tup ds=>max ds.length (Dat.wids ds)
 |.lst ds=>max ds.length (Dat.wids ds)
 |_=>0
def Dat.wids:List Dat->Nat
 |[]=>0
 |d::ds=>max d.wid (Dat.wids ds)
end
theorem V1{c A B:Prop}[Decidable c](Z:c)(h:A):if c then A else B:=by
 rw[Zn Z];exact h
theorem Y9{c A B:Prop}[Decidable c](Z:¬c)(h:B):if c then A else B:=by
 rw[Zo Z];exact h
theorem JG(n:Nat)(U:n<sizeLine)(G:Nat->List V->Hp->Prop)(I:G 0 [] H)(M:∀i Z H,G i Z H->Z.length=i)(O:∀i Z H,i<n->G i Z H->J.go i H)(L:∀Z H,G n Z H->J.stop n H)(E:∀i Z H x N (R:V->Hp->Prop),i<n->G i Z H->J.yld i H x N->(∀v T,G (i+1) (Z++[v]) T->R v T)->g x s0 N λB S=>te B S R)(F:∀Z H p,G n Z H->H p=none->Q (.ref p) (upd H p (.lst Z))):
  MA J g te s0 Q H:=by
 refine⟨λi m Z H=>m=n-i/\i<=n/\G i Z H,⟨n,by simp,Za _,I⟩,?_⟩;rintro i m Z H ⟨rfl,X,p⟩;have C:=M i Z H p;refine⟨by omega,?_⟩
 by_cases hlt:i<n
 .exact .inr ⟨O i Z H hlt p,λx N y=>E i Z H x N _ hlt p y λv T D=>⟨n-(i+1),by omega,rfl,hlt,D⟩⟩
 .have e:i=n:=by omega
  subst e;exact .inl ⟨L Z H p,λa A=>F Z H a p A⟩
theorem Yg(h:H p=none)(o:HO):Same H (upd H p o):=λb u q=>by rw[Yd (Yf q h)];exact q
@[elab_as_elim] theorem up_in {motive:Hp->Prop}(h:H l=none) (o:HO) (k:∀H',Same H H'->H' l=some o->motive H'):motive (upd H l o):=k _ (Yg h o) Ya
structure Blt(mg:Str->Option Value):Prop where
 len:mg "len"=none
 isi:mg "isinstance"=none
 bool:mg "bool"=none
 str:mg "str"=none
 int:mg "int"=none
 tuple:mg "tuple"=none
 list:mg "list"=none
 dict:mg "dict"=none
 all:mg "all"=none
 zip:mg "zip"=none
 max:mg "max"=none
 range:mg "range"=none
 sorted:mg "sorted"=none
end L2
namespace K4
open PySem L2
section
theorem J3:GK 2 (Pm K 2 (XM (Vu 0) (XM (Vu 1) Nv))):=
 S4 (Ec (VR (i:=0) (by decide)) (Ec (VR (i:=1) (by decide)) S5 (λ_ _ _ _ _ h z=>h _ _ z) (λx _ _ _ _ h z=>by
  match x,z with
  |[],z=>exact h _ _ z)) (λ_ _ _ _ _ h z=>h _ _ z) (λx _ _ _ _ h z=>by
  match x,z with
  |[v],z=>exact h _ _ z))
end
end K4
namespace L2
open PySem
inductive W where
 |non|tag (x:Str)|pair (a b:W)
def W.dat:W->Dat
 |.non=>.non
 |.tag x=>.str x
 |.pair a b=>.tup [a.dat,b.dat]
theorem La(h:Has H v (W.pair a b).dat):∃p x y,v=.ref p/\H p=some (.tup [x,y])/\Has H x a.dat/\Has H y b.dat:=by
 unfold W.dat Has at h;obtain⟨p,L,rfl,M,Z⟩:=h
 match L,Z with
 |[x,y],Z=>
  unfold HasL at Z;obtain⟨N,J⟩:=Z;unfold HasL at J;exact⟨p,x,y,rfl,M,N,J.1⟩
 |[],Z=>unfold HasL at Z;exact Z.elim
 |[x],Z=>unfold HasL at Z;obtain⟨_,J⟩:=Z;unfold HasL at J;exact J.elim
 |_::_::_::_,Z=>
  unfold HasL at Z;obtain⟨_,J⟩:=Z;unfold HasL at J;obtain⟨_,G⟩:=J;unfold HasL at G;exact G.elim
theorem EY:Has H .non W.non.dat:=by unfold W.dat Has;rfl
theorem Fq{Z:kz}(h:(Z.map V.int)[i]?=some x):∃n r,x=.int n/\Z.drop i=n::r/\Z.drop (i+1)=r/\n∈Z:=by
 rw[ZG]at h
 cases e:Z[i]? with
 |none=>rw[e]at h;cases h
 |some n=>
  rw[e]at h;cases h;obtain⟨J,q⟩:=ZE.mp e;exact⟨n,Z.drop (i+1),rfl,by rw[List.drop_eq_getElem_cons J,q],rfl,ZH e⟩
def TF(ws:kz):Dat:=.tup (ws.map Dat.int)
def W.dep:W->Nat
 |.non=>0
 |.tag _=>0
 |.pair a b=>1+max a.dep b.dep
theorem Nt:∀{J:kz}{Z:kF},HasL H Z (J.map Dat.int)->Z=J.map V.int
 |[],[],_=>rfl
 |[],_::_,h=>by unfold HasL at h;exact h.elim
 |_::_,[],h=>by rw[ZT]at h;unfold HasL at h;exact h.elim
 |n::J,x::Z,h=>by
  rw[ZT]at h;unfold HasL at h;obtain⟨G,L⟩:=h;unfold Has at G;rw[G,Nt L];rfl
theorem Np:∀(Z:kz),HasL H (Z.map V.int) (Z.map Dat.int)
 |[]=>Z4
 |n::Z=>Z2 (by unfold Has;rfl) (Np Z)
theorem M5(h:Has H v (TF J)):∃a,v=.ref a/\H a=some (.tup (J.map V.int)):=by
 unfold TF Has at h;obtain⟨a,L,rfl,Z,G⟩:=h;rw[Nt G]at Z;exact⟨a,rfl,Z⟩
theorem MF(h:H a=some (.tup (ws.map V.int))):Has H (.ref a) (TF ws):=by
 unfold TF Has;exact⟨a,_,rfl,h,Np ws⟩
theorem V2(h:Has H v (.lst J)):∃a Z,v=.ref a/\H a=some (.lst Z)/\HasL H Z J:=by unfold Has at h;exact h
theorem VQ(h:H a=some (.lst Z))(t:HasL H Z J):Has H (.ref a) (.lst J):=by unfold Has;exact⟨a,Z,rfl,h,t⟩
def But(p:Addr)(H H':Hp):Prop:=∀b,b≠p->H' b=H b
theorem But.refl(p:Addr)(H:Hp):But p H H:=λ_ _=>rfl
theorem But.trans(a:But p H J)(b:But p J Z):But p H Z:=λc h=>(b c h).trans (a c h)
theorem But.upd{p:Addr}{H:Hp}(o:HO):But p H (upd H p o):=λ_ h=>Yd h
end L2
namespace K4
open PySem L2
end K4
namespace L2
open PySem
def alpha(o:Nat):Str:=⟨((List.range 26).map (o + ·)).toArray⟩
def one(c:Nat):Str:=⟨#[c]⟩
def txt(cs:List Nat):Str:=⟨cs.toArray⟩
theorem GE(o:Nat):(alpha o).length=26:=by show((List.range 26).map (o + ·)).toArray.size=26;simp
theorem L7(o:Nat)(j:Int)(J:0<=j)(Z:j<26):atI (alpha o).cps.toList j=some (o+j.toNat):=by
 obtain⟨n,rfl⟩:∃n:Nat,j=n:=⟨j.toNat,by omega⟩;refine Yq ?_;show(((List.range 26).map (o + ·)).toArray.toList)[n]?=_;rw[List.toList_toArray,ZG,vV (by omega)]
 rfl
theorem SW(G:o=97\/o=65)(h:o<=c/\c<o+26):∃i rest,Builtin.Str.occurrences (alpha o) (one c) 0 (alpha o).length 1=i::rest:=by
 have J:∀j<26,(Builtin.Str.occurrences (alpha 97) (one (97+j)) 0 26 1).isEmpty=false/\(Builtin.Str.occurrences (alpha 65) (one (65+j)) 0 26 1).isEmpty=false:=by decide +kernel
 rw[GE]
 have Z:(Builtin.Str.occurrences (alpha o) (one c) 0 26 1).isEmpty=false:=by
  have a:=J (c-o) (by omega);rcases G with rfl|rfl
  .have e:97+(c-97)=c:=by omega
   rw[e]at a;exact a.1
  .have e:65+(c-65)=c:=by omega
   rw[e]at a;exact a.2
 cases q:Builtin.Str.occurrences (alpha o) (one c) 0 26 1 with
 |nil=>rw[q]at Z;cases Z
 |cons i r=>exact⟨i,r,rfl⟩
theorem D1(a b:List Nat):txt a++ txt b=txt (a++ b):=by
 show(⟨a.toArray++ b.toArray⟩:Str)=⟨(a++ b).toArray⟩;simp
theorem OH(h:txt a=txt b):a=b:=by
 have q:a.toArray=b.toArray:=congrArg Str.cps h;simpa using q
theorem Xh(a:List Nat):(txt a).length=a.length:=by show a.toArray.size=a.length;simp
structure Wds(o:Nat)(ys:List Str):Prop where
 nd:ys.Nodup
 len:∀y∈ys,1<=y.length/\y.length<=8
 abc:∀y∈ys,∀c∈y.cps.toList,o<=c/\c<o+26
def SameB(p:Addr)(H H':Hp):Prop:=∀b o,b≠p->H b=some o->H' b=some o
theorem SameB.refl(p:Addr)(H:Hp):SameB p H H:=λ_ _ _ h=>h
theorem SameB.trans(a:SameB p H J)(b:SameB p J Z):SameB p H Z:=λc o n h=>b c o n (a c o n h)
theorem But.sb(a:But p H Z):SameB p H Z:=λb o n h=>(a b n).trans h
theorem Same.sb(a:Same H Z):SameB p H Z:=λb o _ h=>a b o h
theorem SameB.free(a:SameB p H Z)(n:r≠p)(h:Z r=none):H r=none:=by
 cases e:H r with
 |none=>rfl
 |some o=>rw[a r o n e]at h;cases h
theorem SameB.put(a:SameB p H Z)(h:H r=none):SameB p H (upd Z r o):=λb u n e=>by
 rw[Yd (Yf e h)];exact a b u n e
theorem NR(a b:Str):(a++ b).length=a.length+b.length:=by
 show(a.cps++ b.cps).size=a.cps.size+b.cps.size;simp
end L2
namespace K4
open PySem L2
end K4
namespace L2
open PySem PySem.Spec PyProof.Rows SeqAt
mutual
def Dat.pq:Dat->Dat->Bool
 |.non,.non=>true
 |.bl a,.bl b=>a==b
 |.bl a,.int b=>(if a then 1 else 0)==b
 |.int a,.bl b=>a==(if b then 1 else 0)
 |.int a,.int b=>a==b
 |.str a,.str b=>a==b
 |.tup a,.tup b=>Dat.pqs a b
 |.lst a,.lst b=>Dat.pqs a b
 |_,_=>false
def Dat.pqs:List Dat->List Dat->Bool
 |[],[]=>true
 |a::as,b::bs=>Dat.pq a b && Dat.pqs as bs
 |_,_=>false
end
mutual
theorem Dat.pq_self:∀a:Dat,a.pq a=true
 |.non=>by unfold Dat.pq;rfl
 |.bl b=>by unfold Dat.pq;exact beq_self_eq_true b
 |.int i=>by unfold Dat.pq;exact beq_self_eq_true i
 |.str x=>by unfold Dat.pq;exact beq_self_eq_true x
 |.tup ds=>by unfold Dat.pq;exact Dat.pqs_self ds
 |.lst ds=>by unfold Dat.pq;exact Dat.pqs_self ds
theorem Dat.pqs_self:∀a:kK,Dat.pqs a a=true
 |[]=>by unfold Dat.pqs;rfl
 |a::as=>by unfold Dat.pqs;rw[Dat.pq_self a,Dat.pqs_self as];rfl
end
theorem Gy:∀(J Z:kK),((List.range (min J.length Z.length)).all (λi=>((J[i]?).getD .non).pq ((Z[i]?).getD .non)) && J.length==Z.length)=Dat.pqs J Z
 |[],[]=>by unfold Dat.pqs;rfl
 |[],_::_=>by unfold Dat.pqs;simp
 |_::_,[]=>by unfold Dat.pqs;simp
 |a::J,b::Z=>by
  have ih:=Gy J Z;have e:min (a::J).length (b::Z).length=min J.length Z.length+1:=by simp only[Zd];omega
  rw[e,List.range_succ_eq_map,vZ,List.all_map];unfold Dat.pqs;rw[<-ih];have G:((a::J).length==(b::Z).length)=(J.length==Z.length):=by simp
  rw[G,Bool.and_assoc]
  rfl
theorem On(h:Z.length=J.length):(List.range Z.length).all (λi=>((Z[i]?).getD .non).pq ((J[i]?).getD .non))=Dat.pqs Z J:=by
 rw[<-Gy Z J,h];simp
theorem SD(h:J.length≠Z.length):Dat.pqs J Z=false:=by
 rw[<-Gy J Z];simp[h]
theorem U1{s:Shared}(G:HOk P w H s.heap)(h:H a=some (.tup J)):∃Z:kj,Vals J Z/\s.heap.IsTuple a Z.toArray:=by
 obtain⟨_,Z,r,p⟩:=(show VX P w H s.heap a (.tup J)from G a _ h);exact⟨Z,r,p.is⟩
theorem XB{s:Shared}(G:HOk P w H s.heap)(h:H a=some (.lst J)):∃Z:kj,Vals J Z/\s.heap.IsList a Z.toArray:=by
 obtain⟨_,Z,n,r,p⟩:=(show VX P w H s.heap a (.lst J)from G a _ h);exact⟨Z,r,_,p,rfl,n,rfl⟩
structure Cmp(A:Around)(s:Shared)(u v:Value)(b:Bool):Prop where
 eq:EqAt A s u v b
 rc:RcAt A s u v b
 ne:RcNeAt A s u v (!b)
theorem En{A:Around}{F es:kK}{L G:kF}{J Z:kj}(ih:∀(I q:Dat){x y:V}{u v:Value},I.dep<=m->Has H x I->Has H y q->RelV x u->RelV y v->EqAt A s u v (I.pq q))(b:Dat.deps F<=m)(R:HasL H L F)(O:HasL H G es)(r:Vals L J)(S:Vals G Z):∀j (Q:j<J.toArray.size) (P:j<Z.toArray.size),EqAt A s J.toArray[j] Z.toArray[j] ((λi=>((F[i]?).getD .non).pq ((es[i]?).getD .non)) j):=by
 intro j Q P;have l:=r.length;have w:=S.length;rw[ZM]at Q P;have C:j<L.length:=by omega
 have U:j<G.length:=by omega
 obtain⟨d,X,c⟩:=R.get (ZC C);obtain⟨f,E,D⟩:=O.get (ZC U);obtain⟨g,B,N⟩:=r.get (ZC C);obtain⟨t,T,M⟩:=S.get (ZC U);have p:J.toArray[j]=g:=by have z:=(ZE.mp B).2;simpa using z
 have k:Z.toArray[j]=t:=by have z:=(ZE.mp T).2;simpa using z
 dsimp only;rw[p,k,X,E];have e:=Dat.deps_get X;exact ih d f (by omega) c D N M
theorem N8(U:HOk P w H s.heap)(n:Nat)(ih:∀m,n=m+1->∀(C S:Dat)(A:Around){x y:V}{u v:Value},C.dep<=m->Has H x C->Has H y S->RelV x u->RelV y v->Vk (m+1) A->Cmp A s u v (C.pq S))(C S:Dat)(A:Around){x y:V}{u v:Value}(hn:C.dep<=n)(B:Has H x C)(Z:Has H y S)(j:RelV x u)(L:RelV y v)(i:Vk (n+1) A):Cmp A s u v (C.pq S):=by
 have G:=i.units0
 cases C with
 |non=>
  unfold Has at B;subst B;cases j
  cases S with
  |non=>unfold Has at Z;subst Z;cases L;unfold Dat.pq;exact⟨.same _,.none_none,.none_none⟩
  |bl b=>unfold Has at Z;subst Z;cases L;unfold Dat.pq;exact⟨.none_bool _,.none_bool _,.none_bool _⟩
  |int b=>unfold Has at Z;subst Z;obtain⟨Q,rfl⟩:=L;unfold Dat.pq;exact⟨.none_int _ _,.none_int _ _,.none_int _ _⟩
  |str b=>unfold Has at Z;subst Z;obtain⟨Q,rfl⟩:=L;unfold Dat.pq;exact⟨.none_str _ _,.none_str _ _,.none_str _ _⟩
  |tup O=>unfold Has at Z;obtain⟨p,X,rfl,R,_⟩:=Z;cases L;obtain⟨N,r,J⟩:=U1 U R;unfold Dat.pq;exact⟨.none_tuple J G,.none_tuple J G,.none_tuple J G⟩
  |lst O=>unfold Has at Z;obtain⟨p,X,rfl,R,_⟩:=Z;cases L;obtain⟨N,r,J⟩:=XB U R;unfold Dat.pq;exact⟨.none_list J G,.none_list J G,.none_list J G⟩
 |bl a=>
  unfold Has at B;subst B;cases j
  cases S with
  |non=>unfold Has at Z;subst Z;cases L;unfold Dat.pq;exact⟨.bool_none _,.bool_none _,.bool_none _⟩
  |bl b=>unfold Has at Z;subst Z;cases L;unfold Dat.pq;exact⟨.bool_bool _ _,.bool_bool _ _,.bool_bool _ _⟩
  |int b=>unfold Has at Z;subst Z;obtain⟨Q,rfl⟩:=L;unfold Dat.pq;exact⟨.bool_int _ _ _,.bool_int _ _ _,.bool_int _ _ _⟩
  |str b=>unfold Has at Z;subst Z;obtain⟨Q,rfl⟩:=L;unfold Dat.pq;exact⟨.bool_str _ _ _,.bool_str _ _ _,.bool_str _ _ _⟩
  |tup O=>unfold Has at Z;obtain⟨p,X,rfl,R,_⟩:=Z;cases L;obtain⟨N,r,J⟩:=U1 U R;unfold Dat.pq;exact⟨.bool_tuple _ J G,.bool_tuple _ J G,.bool_tuple _ J G⟩
  |lst O=>unfold Has at Z;obtain⟨p,X,rfl,R,_⟩:=Z;cases L;obtain⟨N,r,J⟩:=XB U R;unfold Dat.pq;exact⟨.bool_list _ J G,.bool_list _ J G,.bool_list _ J G⟩
 |int a=>
  unfold Has at B;subst B;obtain⟨t,rfl⟩:=j
  cases S with
  |non=>unfold Has at Z;subst Z;cases L;unfold Dat.pq;exact⟨.int_none _ _,.int_none _ _,.int_none _ _⟩
  |bl b=>unfold Has at Z;subst Z;cases L;unfold Dat.pq;exact⟨.int_bool _ _ _,.int_bool _ _ _,.int_bool _ _ _⟩
  |int b=>unfold Has at Z;subst Z;obtain⟨Q,rfl⟩:=L;unfold Dat.pq;exact⟨.int_int _ _ _ _,.int_int _ _ _ _,.int_int _ _ _ _⟩
  |str b=>unfold Has at Z;subst Z;obtain⟨Q,rfl⟩:=L;unfold Dat.pq;exact⟨.int_str _ _ _ _,.int_str _ _ _ _,.int_str _ _ _ _⟩
  |tup O=>unfold Has at Z;obtain⟨p,X,rfl,R,_⟩:=Z;cases L;obtain⟨N,r,J⟩:=U1 U R;unfold Dat.pq;exact⟨.int_tuple _ _ J G,.int_tuple _ _ J G,.int_tuple _ _ J G⟩
  |lst O=>unfold Has at Z;obtain⟨p,X,rfl,R,_⟩:=Z;cases L;obtain⟨N,r,J⟩:=XB U R;unfold Dat.pq;exact⟨.int_list _ _ J G,.int_list _ _ J G,.int_list _ _ J G⟩
 |str a=>
  unfold Has at B;subst B;obtain⟨t,rfl⟩:=j
  cases S with
  |non=>unfold Has at Z;subst Z;cases L;unfold Dat.pq;exact⟨.str_none _ _,.str_none _ _,.str_none _ _⟩
  |bl b=>unfold Has at Z;subst Z;cases L;unfold Dat.pq;exact⟨.str_bool _ _ _,.str_bool _ _ _,.str_bool _ _ _⟩
  |int b=>unfold Has at Z;subst Z;obtain⟨Q,rfl⟩:=L;unfold Dat.pq;exact⟨.str_int _ _ _ _,.str_int _ _ _ _,.str_int _ _ _ _⟩
  |str b=>unfold Has at Z;subst Z;obtain⟨Q,rfl⟩:=L;unfold Dat.pq;exact⟨.str_str _ _ _ _,.str_str _ _ _ _,.str_str _ _ _ _⟩
  |tup O=>unfold Has at Z;obtain⟨p,X,rfl,R,_⟩:=Z;cases L;obtain⟨N,r,J⟩:=U1 U R;unfold Dat.pq;exact⟨.str_tuple _ _ J G,.str_tuple _ _ J G,.str_tuple _ _ J G⟩
  |lst O=>unfold Has at Z;obtain⟨p,X,rfl,R,_⟩:=Z;cases L;obtain⟨N,r,J⟩:=XB U R;unfold Dat.pq;exact⟨.str_list _ _ J G,.str_list _ _ J G,.str_list _ _ J G⟩
 |tup D=>
  unfold Has at B;obtain⟨p,xs,rfl,R,F⟩:=B;cases j;obtain⟨N,r,J⟩:=U1 U R
  cases S with
  |non=>unfold Has at Z;subst Z;cases L;unfold Dat.pq;exact⟨.tuple_none J G,.tuple_none J G,.tuple_none J G⟩
  |bl b=>unfold Has at Z;subst Z;cases L;unfold Dat.pq;exact⟨.tuple_bool _ J G,.tuple_bool _ J G,.tuple_bool _ J G⟩
  |int b=>unfold Has at Z;subst Z;obtain⟨Q,rfl⟩:=L;unfold Dat.pq;exact⟨.tuple_int _ _ J G,.tuple_int _ _ J G,.tuple_int _ _ J G⟩
  |str b=>unfold Has at Z;subst Z;obtain⟨Q,rfl⟩:=L;unfold Dat.pq;exact⟨.tuple_str _ _ J G,.tuple_str _ _ J G,.tuple_str _ _ J G⟩
  |lst O=>unfold Has at Z;obtain⟨q,X,rfl,h,_⟩:=Z;cases L;obtain⟨T,g,M⟩:=XB U h;unfold Dat.pq;exact⟨.tuple_list J M G,.tuple_list J M G,.tuple_list J M G⟩
  |tup O=>
   unfold Has at Z;obtain⟨c,X,rfl,I,E⟩:=Z;cases L;obtain⟨T,g,M⟩:=U1 U I;have l1:=F.length;have l2:=E.length;have l3:=r.length;have l4:=g.length;have dd:Dat.deps D+1<=n:=by unfold Dat.dep at hn;omega
   obtain⟨m,rfl⟩:∃m,n=m+1:=⟨n-1,by omega⟩;have d:=En (A:=A.in1) (λC S {x y u v} z B Z j L=>(ih m rfl C S A.in1 z B Z j L i.in1).eq) (show Dat.deps D<=m by omega) F E r g;have f:N.toArray.size=D.length:=by rw[ZM];omega
   have o:T.toArray.size=O.length:=by rw[ZM];omega
   have q:=RcAt.tuples (A:=A) J M G d;have k:=RcNeAt.tuples (A:=A) J M G d;rw[f,o,Gy]at q k;have e0:(Dat.tup D).pq (Dat.tup O)=Dat.pqs D O:=by conv=>lhs;unfold Dat.pq
   rw[e0];refine⟨?_,q,k⟩
   by_cases e:p=c
   .subst e
    rw[R]at I;cases I;rw[HasL.inj D O F E,Dat.pqs_self];exact EqAt.same _
   .exact EqAt.of_refs e q
 |lst D=>
  unfold Has at B;obtain⟨p,xs,rfl,R,F⟩:=B;cases j;obtain⟨N,r,J⟩:=XB U R
  cases S with
  |non=>unfold Has at Z;subst Z;cases L;unfold Dat.pq;exact⟨.list_none J G,.list_none J G,.list_none J G⟩
  |bl b=>unfold Has at Z;subst Z;cases L;unfold Dat.pq;exact⟨.list_bool _ J G,.list_bool _ J G,.list_bool _ J G⟩
  |int b=>unfold Has at Z;subst Z;obtain⟨Q,rfl⟩:=L;unfold Dat.pq;exact⟨.list_int _ _ J G,.list_int _ _ J G,.list_int _ _ J G⟩
  |str b=>unfold Has at Z;subst Z;obtain⟨Q,rfl⟩:=L;unfold Dat.pq;exact⟨.list_str _ _ J G,.list_str _ _ J G,.list_str _ _ J G⟩
  |tup O=>unfold Has at Z;obtain⟨q,X,rfl,h,_⟩:=Z;cases L;obtain⟨T,g,M⟩:=U1 U h;unfold Dat.pq;exact⟨.list_tuple J M G,.list_tuple J M G,.list_tuple J M G⟩
  |lst O=>
   unfold Has at Z;obtain⟨c,X,rfl,I,E⟩:=Z;cases L;obtain⟨T,g,M⟩:=XB U I;have l1:=F.length;have l2:=E.length;have l3:=r.length;have l4:=g.length;have dd:Dat.deps D+1<=n:=by unfold Dat.dep at hn;omega
   obtain⟨m,rfl⟩:∃m,n=m+1:=⟨n-1,by omega⟩;have d:=En (A:=A.in1) (λC S {x y u v} z B Z j L=>(ih m rfl C S A.in1 z B Z j L i.in1).eq) (show Dat.deps D<=m by omega) F E r g;have f:N.toArray.size=D.length:=by rw[ZM];omega
   have o:T.toArray.size=O.length:=by rw[ZM];omega
   have e0:(Dat.lst D).pq (Dat.lst O)=Dat.pqs D O:=by conv=>lhs;unfold Dat.pq
   rw[e0]
   have l:RcAt A s (.ref p) (.ref c) (Dat.pqs D O)/\RcNeAt A s (.ref p) (.ref c) (!Dat.pqs D O):=by
    by_cases e:D.length=O.length
    .have q:=RcAt.lists (A:=A) J M (by omega) G d
     have k:=RcNeAt.lists (A:=A) J M (by omega) G d;rw[f,On e]at q k;exact⟨q,k⟩
    .have z:(N.toArray.size !=T.toArray.size)=true:=by rw[f,o];simp[e]
     rw[SD e];exact⟨RcAt.lists_lengths (A:=A) J M z G,RcNeAt.lists_lengths (A:=A) J M z G⟩
   refine⟨?_,l.1,l.2⟩
   by_cases e:p=c
   .subst e
    rw[R]at I;cases I;rw[HasL.inj D O F E,Dat.pqs_self];exact EqAt.same _
   .exact EqAt.of_refs e l.1
theorem NA(G:HOk P w H s.heap):∀(n:Nat)(Z J:Dat)(A:Around){x y:V}{u v:Value},Z.dep<=n->Has H x Z->Has H y J->RelV x u->RelV y v->Vk (n+1) A->Cmp A s u v (Z.pq J)
 |0,Z,J,A,_,_,_,_,hn,hx,hy,ru,rv,hr=>N8 G 0 (λ_ e=>nomatch e) Z J A hn hx hy ru rv hr
 |n+1,Z,J,A,_,_,_,_,hn,hx,hy,ru,rv,hr=>N8 G (n+1) (λ_ e Z J A {_ _ _ _}=>by cases e;exact NA G n Z J A) Z J A hn hx hy ru rv hr
section
def Ct(k:Nat):R2:=λx y H Q=>∃d e,Has H x d/\Has H y e/\d.dep<=k/\Q (.bl (d.pq e)) H
def Cr(k:Nat):R2:=λx y H Q=>∃d e,Has H x d/\Has H y e/\d.dep<=k/\Q (.bl (!d.pq e)) H
theorem Ks(L:Vk (k+1) X.A):OpR X (compareOp .Eq) (Ct k):=by
 intro Z s U H x y v u Q I G J h;obtain⟨d,e,O,N,M,q⟩:=h;exact(NA I.hok k d e X.A M O N G J L).rc _ _ _ _ ⟨.bl _,H,I,rfl,q⟩
theorem XW(L:Vk (k+1) X.A):OpR X (compareOp .NotEq) (Cr k):=by
 intro Z s U H x y v u Q I G J h;obtain⟨d,e,O,N,M,q⟩:=h;exact(NA I.hok k d e X.A M O N G J L).ne _ _ _ _ ⟨.bl _,H,I,rfl,q⟩
end
end L2
namespace L2
open PySem PySem.Spec PyProof.Rows
mutual
def Dat.st:Dat->Bool
 |.str _=>true
 |.tup ds=>Dat.sts ds
 |_=>false
def Dat.sts:List Dat->Bool
 |[]=>true
 |d::ds=>d.st && Dat.sts ds
end
end L2
namespace L2
open PySem
inductive Shp where
 |tags (ts:List Str)
 |pair (a b:Str)
abbrev kL:=List (Str×Shp)
def Shp.dat:Shp->Dat
 |.tags ts=>.tup [.str "tags",.tup (ts.map Dat.str)]
 |.pair a b=>.tup [.str "pair",.str a,.str b]
theorem TN:∀Z:kq,Dat.sts (Z.map Dat.str)=true
 |[]=>by unfold Dat.sts;rfl
 |t::Z=>by rw[ZT];unfold Dat.sts;rw[TN Z];unfold Dat.st;rfl
theorem Wd:∀Z:kq,Dat.deps (Z.map Dat.str)=0
 |[]=>by unfold Dat.deps;rfl
 |t::Z=>by rw[ZT];unfold Dat.deps;rw[Wd Z];unfold Dat.dep;rfl
theorem Shp.st:∀s:Shp,s.dat.st=true
 |.tags ts=>by simp[Shp.dat,Dat.st,Dat.sts,TN]
 |.pair a b=>by simp[Shp.dat,Dat.st,Dat.sts]
end L2
namespace K4
open PySem L2
theorem Wh:(Str.ofString "abcdefghijklmnopqrstuvwxyz")=alpha 97:=by decide +kernel
theorem W1:(Str.ofString "ABCDEFGHIJKLMNOPQRSTUVWXYZ")=alpha 65:=by decide +kernel
end K4
namespace L2
open PySem
def TK(H H':Hp):Prop:=∀b Z,H b=some (.tup Z)->H' b=some (.tup Z)
theorem Ue(h:H a=some u)(J:∀Z,u≠.tup Z):TK H (upd H a o):=λb Z e=>by
 rw[Yd (JR e h λz=>J Z z.symm)];exact e
mutual
theorem Jd{H Z:Hp}(b:TK H Z):∀(d:Dat){v:V},d.st=true->Has H v d->Has Z v d
 |.str _,_,_,h=>by unfold Has at h |-;exact h
 |.tup ds,_,t,h=>by
  unfold Has at h |-;obtain⟨a,J,M,L,G⟩:=h;unfold Dat.st at t;exact⟨a,J,M,b _ _ L,VS b ds t G⟩
 |.non,_,t,_=>by unfold Dat.st at t;cases t
 |.bl _,_,t,_=>by unfold Dat.st at t;cases t
 |.int _,_,t,_=>by unfold Dat.st at t;cases t
 |.lst _,_,t,_=>by unfold Dat.st at t;cases t
theorem VS{H L:Hp}(b:TK H L):∀(Z:kK){J:kF},Dat.sts Z=true->HasL H J Z->HasL L J Z
 |[],[],_,h=>Z4
 |[],_::_,_,h=>by unfold HasL at h;exact h.elim
 |_::_,[],_,h=>by unfold HasL at h;exact h.elim
 |d::Z,x::J,t,h=>by
  unfold HasL at h;unfold Dat.sts at t;have G:=yE.mp t;exact Z2 (Jd b d G.1 h.1) (VS b Z G.2 h.2)
end
def Vq(k:Str×Shp):Dat:=.tup [.str k.1,k.2.dat]
def KK1(top:Nat)(c d:kM)(ahead:kq)(y:Str):Shp->Prop
 |.tags ts=>1<=ts.length/\ts.length<=4/\c y=1+ts.length/\d y=0/\ts.Nodup
 |.pair a b=>a∈ahead/\b∈ahead/\c y=1+c a*c b/\c y<=top/\d y=1+max (d a) (d b)/\d y<=2
def KK(top:Nat)(c d:kM)(ks:kL):Prop:=∀(i:Nat)(y:Str)(s:Shp),ks[i]?=some (y,s)->KK1 top c d ((ks.take i).map (·.1)) y s
theorem KK1.of(h:KK1 top c d ahead y s)(L:∀z,z∈ahead\/z=y->T z=c z)(G:∀z,z∈ahead\/z=y->d' z=d z):KK1 top T d' ahead y s:=by
 cases s with
 |tags B=>
  obtain⟨J,Z,O,N,M⟩:=h;exact⟨J,Z,(L y (.inr rfl)).trans O,(G y (.inr rfl)).trans N,M⟩
 |pair a b=>
  obtain⟨J,Z,O,N,M,R⟩:=h;refine⟨J,Z,?_,?_,?_,?_⟩
  .rw [L y (.inr rfl),L a (.inl J),L b (.inl Z)];exact O
  .rw [L y (.inr rfl)];exact N
  .rw [G y (.inr rfl),G a (.inl J),G b (.inl Z)];exact M
  .rw [G y (.inr rfl)];exact R
theorem KK.snoc(h:KK top c d J)(O:(J.map (·.1)++[y]).Nodup)(T:KK1 top (λz=>if z=y then n else c z) (λz=>if z=y then m else d z) (J.map (·.1)) y s):KK top (λz=>if z=y then n else c z) (λz=>if z=y then m else d z) (J++[(y,s)]):=by
 have N:∀z∈J.map (·.1),z≠y:=λz Z e=>by
  have q:=yP.mp O;exact q.2.2 z Z y (by simp) e
 intro i G M e
 by_cases hi:i<J.length
 .rw [zn hi]at e
  rw[List.take_append_of_le_length (Zf hi)];have R:G∈J.map (·.1):=ZU.mpr ⟨(G,M),ZH e,rfl⟩
  have L:∀z,z∈(J.take i).map (·.1)\/z=G->z≠y:=λz Z=>by
   rcases Z with Z|Z
   .obtain ⟨k,hk,rfl⟩:=ZU.mp Z
    exact N _ (ZU.mpr ⟨k,Zi hk,rfl⟩)
   .rw [Z];exact N _ R
  exact(h i G M e).of (λz Z=>Zo (L z Z)) (λz Z=>Zo (L z Z))
 .have hl:i=J.length:=by
   have:=(ZE.mp e).1;rw[ZJ,zg]at this;omega
  subst hl;rw[zt (ZF _),jg]at e;have B:some (y,s)=some (G,M):=e;cases B;rw[List.take_left];exact T
structure KG(ks:List (Str×Shp)):Prop where
 nm:Wds 97 (ks.map (·.1))
 tw:∀(y:Str)(ts:List Str),(y,Shp.tags ts)∈ks->Wds 65 ts
 ap:∀(i j:Nat)(y z:Str)(ts us:List Str)(x:Str),ks[i]?=some (y,.tags ts)->ks[j]?=some (z,.tags us)->x∈ts->x∈us->i=j
 pr:∀(i1 i2:Nat)(y1 y2 a b:Str),ks[i1]?=some (y1,.pair a b)->ks[i2]?=some (y2,.pair a b)->i1=i2
theorem KG.tags(g:KG J)(h:(y,Shp.tags Z)∈J):Wds 65 Z:=g.tw y Z h
theorem take_snoc{α:Type}{l:List α}{a:α}(h:l[i]?=some a):l.take (i+1)=l.take i++[a]:=by
 have Z:=(ZE.mp h).1;rw[List.take_succ_eq_append_getElem Z,(ZE.mp h).2]
theorem Gf(h:u D (U.set k (some v)) H):Yh (BN (tC v) (Vu k)) u D U H:=h
theorem RM(Z:kF)(k:Nat)(h:k<=Z.length):XN Z none (some (k:Int))=Z.take k:=by
 unfold XN;rw[HT.sIx_none,HT.sIx_nat,vQ,Nat.sub_zero,zQ h]
theorem Jt(h:Has H x (Vq (y,s))):∃a v,x=.ref a/\H a=some (.tup [.str y,v])/\Has H v s.dat:=by
 unfold Vq Has at h;obtain⟨a,M,rfl,N,Z⟩:=h
 match M,Z with
 |[u,v],Z=>
  unfold HasL at Z;obtain⟨L,J⟩:=Z;unfold HasL at J;unfold Has at L;subst L;exact⟨a,v,rfl,N,J.1⟩
 |[],Z=>unfold HasL at Z;exact Z.elim
 |[x],Z=>unfold HasL at Z;obtain⟨_,J⟩:=Z;unfold HasL at J;exact J.elim
 |_::_::_::_,Z=>unfold HasL at Z;obtain⟨_,J⟩:=Z;unfold HasL at J;obtain⟨_,G⟩:=J;unfold HasL at G;exact G.elim
theorem V7(Z:kI)(L:∀J G,Z J G->u D J G)(main:∀N:kI,(∀J G,Z J G->N J G)->t {D with nx:=N} U H):Yh t u D U H:=main _ L
end L2
namespace K4
open PySem L2
end K4
namespace L2
open PySem
def VG(ks:kL)(y:Str):Option Shp:=(ks.find? λk=>decide (k.1=y)).map (·.2)
def VB(ks:kL):Nat->Str->List W
 |0,_=>[]
 |n+1,y=>match VG ks y with
  |none=>[]
  |some (.tags ts)=>.non::ts.map W.tag
  |some (.pair a b)=>.non::(VB ks n a).flatMap λu=>(VB ks n b).map λv=>.pair u v
theorem Jo(h:VG Z y=some s):(y,s)∈Z:=by
 unfold VG at h
 cases e:Z.find? λk=>decide (k.1=y)with
 |none=>rw[e]at h;cases h
 |some k=>
  rw[e]at h;have J:k.2=s:=ZP h;have q:=List.find?_some e;have m:=zw e;have z:k.1=y:=Zr q;rw[<-J,<-z];exact m
theorem JJ(h:y∈Z.map (·.1)):∃s,VG Z y=some s:=by
 obtain⟨k,J,rfl⟩:=ZU.mp h;unfold VG
 cases e:Z.find? λz=>decide (z.1=k.1)with
 |none=>
  have q:=vk.mp e k J;simp at q
 |some z=>exact⟨z.2,rfl⟩
theorem KK.at(h:KK top c d J)(e:VG J y=some s):KK1 top c d (J.map (·.1)) y s:=by
 obtain⟨i,M,N⟩:=y9.mp (Jo e);have q:=h i y s (by rw[ZC M,N])
 have Z:∀z,z∈(J.take i).map (·.1)->z∈J.map (·.1):=λz G=>by
  obtain⟨k,L,rfl⟩:=ZU.mp G;exact ZU.mpr ⟨k,Zi L,rfl⟩
 cases s with
 |tags O=>exact q
 |pair a b=>exact⟨Z a q.1,Z b q.2.1,q.2.2⟩
theorem Nx{α:Type}(f:α->List W)(k:Nat):∀(l:List α),(∀a∈l,(f a).length=k)->(l.flatMap f).length=l.length*k
 |[],_=>by simp
 |a::l,h=>by
  rw[vp,ZJ,h a (by simp),Nx f k l λb Z=>h b (by simp[Z]),Zd,yQ,Nat.add_comm]
theorem Ul(h:KK top c d J):∀(n:Nat)(y:Str),y∈J.map (·.1)->d y<n->(VB J n y).length=c y/\0<c y/\∀u∈VB J n y,u.dep<=d y
 |0,y,_,hd=>Zp hd (Zu _)
 |n+1,y,hy,hd=>by
  obtain⟨s,N⟩:=JJ hy;have M:=h.at N;unfold VB;rw[N]
  cases s with
  |tags L=>
   obtain⟨R,O,U,S,_⟩:=M;refine⟨?_,by omega,λu G=>?_⟩
   .show (W.non::L.map W.tag).length=c y
    rw[Zd,ZA];omega
   .have Z:u=.non\/u∈L.map W.tag:=Zb.mp G
    rcases Z with rfl|Z
    .exact Za _
    .obtain ⟨x,_,rfl⟩:=ZU.mp Z
     exact Za _
  |pair a b=>
   obtain⟨R,O,U,S,q,j⟩:=M;have E:=ye (d a) (d b);have D:=zY (d a) (d b);obtain⟨A,Q,X⟩:=Ul h n a R (by omega);obtain⟨F,P,C⟩:=Ul h n b O (by omega);refine⟨?_,by omega,λu G=>?_⟩
   .show (W.non::(VB J n a).flatMap λu=>(VB J n b).map λv=>.pair u v).length=c y
    rw[Zd,Nx _ (c b) _ (λa _=>by rw[ZA,F]),A];omega
   .have Z:u=.non\/u∈(VB J n a).flatMap λu=>(VB J n b).map λv=>.pair u v:=Zb.mp G
    rcases Z with rfl|Z
    .exact Za _
    .obtain ⟨x,hx,hu2⟩:=jm.mp Z
     obtain⟨z,I,rfl⟩:=ZU.mp hu2;have B:=X x hx;have T:=C z I;show 1+max x.dep z.dep<=d y;have:=vI.mpr ⟨ZZ B E,ZZ T D⟩;omega
theorem UY(h:KK top c d Z):∀(n m:Nat)(y:Str),y∈Z.map (·.1)->d y<n->d y<m->VB Z n y=VB Z m y
 |0,_,_,_,h1,_=>Zp h1 (Zu _)
 |_+1,0,_,_,_,h2=>Zp h2 (Zu _)
 |n+1,m+1,y,hy,h1,h2=>by
  obtain⟨s,J⟩:=JJ hy;have M:=h.at J;unfold VB;rw[J]
  cases s with
  |tags N=>rfl
  |pair a b=>
   obtain⟨L,G,B,T,R,O⟩:=M;have E:=ye (d a) (d b);have D:=zY (d a) (d b);show(W.non::_)=(W.non::_);rw[UY h n m a L (by omega) (by omega),UY h n m b G (by omega) (by omega)]
theorem Rg:∀{J:kq}{Z:kF},HasL H Z (J.map Dat.str)->Z=J.map V.str
 |[],[],_=>rfl
 |[],_::_,h=>by rw[yH]at h;unfold HasL at h;exact h.elim
 |_::_,[],h=>by rw[ZT]at h;unfold HasL at h;exact h.elim
 |t::J,z::Z,h=>by
  rw[ZT]at h;unfold HasL at h;obtain⟨G,L⟩:=h;unfold Has at G;rw[G,Rg L];rfl
def wOf(ks:kL)(n:Nat):Shp->List W
 |.tags ts=>.non::ts.map W.tag
 |.pair a b=>.non::(VB ks n a).flatMap λu=>(VB ks n b).map λv=>.pair u v
theorem Wb(h:VG Z y=some s):VB Z (n+1) y=wOf Z n s:=by
 conv=>lhs;unfold VB
 rw[h];cases s <;> rfl
theorem Fm{α:Type}(f:α->List W){l:List α}{a:α}(h:l[i]?=some a):(l.take (i+1)).flatMap f=(l.take i).flatMap f++ f a:=by
 rw[take_snoc h,vW];simp
theorem Jg(h:Has H v (Shp.tags M).dat):∃p l,v=.ref p/\H p=some (.tup [.str "tags",.ref l])/\H l=some (.tup (M.map V.str)):=by
 unfold Shp.dat Has at h;obtain⟨p,T,rfl,B,Z⟩:=h
 match T,Z with
 |[u,v],Z=>
  unfold HasL at Z;obtain⟨O,J⟩:=Z;unfold HasL at J;unfold Has at O;subst O;have G:=J.1;unfold Has at G;obtain⟨l,R,rfl,N,L⟩:=G;have e:R=M.map V.str:=Rg L;rw[e]at N;exact⟨p,l,rfl,B,N⟩
 |[],Z=>unfold HasL at Z;exact Z.elim
 |[x],Z=>unfold HasL at Z;obtain⟨_,J⟩:=Z;unfold HasL at J;exact J.elim
 |_::_::_::_,Z=>unfold HasL at Z;obtain⟨_,J⟩:=Z;unfold HasL at J;obtain⟨_,G⟩:=J;unfold HasL at G;exact G.elim
theorem X7(h:Has H v (Shp.pair a b).dat):∃p,v=.ref p/\H p=some (.tup [.str "pair",.str a,.str b]):=by
 unfold Shp.dat Has at h;obtain⟨p,N,rfl,O,Z⟩:=h
 match N,Z with
 |[u,v,w],Z=>
  unfold HasL at Z;obtain⟨M,J⟩:=Z;unfold HasL at J;obtain⟨J,G⟩:=J;unfold HasL at G;have G:=G.1;unfold Has at M J G;subst M J G;exact⟨p,rfl,O⟩
 |[],Z=>unfold HasL at Z;exact Z.elim
 |[x],Z=>unfold HasL at Z;obtain⟨_,J⟩:=Z;unfold HasL at J;exact J.elim
 |[x,y],Z=>unfold HasL at Z;obtain⟨_,J⟩:=Z;unfold HasL at J;obtain⟨_,G⟩:=J;unfold HasL at G;exact G.elim
 |_::_::_::_::_,Z=>unfold HasL at Z;obtain⟨_,J⟩:=Z;unfold HasL at J;obtain⟨_,G⟩:=J;unfold HasL at G;obtain⟨_,L⟩:=G;unfold HasL at L;exact L.elim
theorem NO:∀Z:kq,HasL H (Z.map V.str) ((Z.map W.tag).map W.dat)
 |[]=>Z4
 |t::Z=>Z2 (by show Has H (.str t) (W.dat (.tag t));unfold W.dat Has;rfl) (NO Z)
end L2
namespace L2
open PySem PySem.Spec PyProof.Rows
section
def NX(K:W.Frag):R2:=λx y H Q=>∃a b Z,x=.ref a/\y=.ref b/\SqT K H a []/\SqT K H b Z/\Q (.ref b) H
theorem Oz:OpR X (binaryOp .Add) (NX X.K):=by
 intro O s U H x y v u Q I E D h;obtain⟨a,b,m,rfl,rfl,z,j,q⟩:=h;cases E;cases D;obtain⟨P,F,S,_⟩:=I.tuple z;obtain⟨Z,g,A,_⟩:=I.tuple j;cases F;obtain⟨⟨p,t,data,sl⟩,R,B,n,T⟩:=id S;obtain⟨⟨k,N,data2,M⟩,J,L,C,G⟩:=id A;simp only at B T L G;subst B T L G;exact concat_meets ⟨_,R,rfl⟩ ⟨_,J,rfl⟩ noFill_tuple_add seq_tuple_add vH vA (vy _ _)
  (tuple_addW0 a b _ Z.toArray n C t N sl M rfl) ⟨R,J,.ref b,H,I,rfl,q⟩
theorem Jh:OpR X (binaryOp .Add) (λx y H Q=>NX X.K x y H Q\/GS X.K x y H Q):=Oz.or WS
end
theorem WX:plainId "dict.update.loop"=true:=by decide +kernel
theorem N3:entryFor table "dict.update.loop"=some Builtin.«dict.update.loop»:=entryFor_of_fast (by kernel_rfl)
def zH{prog:Program}{w:World}(h₀:Heap)(vs:List (Key×Value))(i:Nat)(v:Value):Prop:=
 ∃a k J Z,v=.ref a/\vs[i]?=some (k,Z)/\h₀.IsTuple a #[J,Z]/\(VP prog w).is k J=true
theorem Fs(Z:List (Key×Value))(T:(Z.map (·.1)).Nodup)(e:Z[i]?=some (k,u)):stored (Z.take i) k u=Z.take (i+1):=by
 obtain⟨A,F⟩:=ZE.mp e
 have L:(Z.take i).any (λG=>decide (G.1=k))=false:=by
  rw[Bool.eq_false_iff];intro J;obtain⟨G,B,D⟩:=jn.mp J;have M:G.1=k:=Zr D;obtain⟨j,E,R⟩:=y9.mp B;rw[ZL]at E;rw[List.getElem_take]at R;have N:j<(Z.map (·.1)).length:=by rw[ZA];omega
  have O:i<(Z.map (·.1)).length:=by rw[ZA];omega
  have q:(Z.map (·.1))[j]=(Z.map (·.1))[i]:=by
   rw[List.getElem_map,List.getElem_map,R,F,M]
  exact List.pairwise_iff_getElem.mp T j i N O (by omega) q
 unfold stored;rw[L,jh,e]
 rfl
section
variable{St:Nat->Heap->Prop}
theorem Pr(W:Walks prog w A.in1 I fp wr n P St)(E:vs.length=n)(hsz:vs.length<=sizeLine)(hn:(vs.map (·.1)).Nodup)(hP:∀i v,P i v->zH (prog:=prog) (w:=w) h₀ vs i v)(d:Addr)(U:d∉fp)(hw:∀b o,h₀.get? b=some o->b∉wr/\b≠d)(O:Value):
  ∀(k i:Nat)(s:Shared)(j:Int)(t:Tok),n-i=k->i<=n->St i s.heap->s.heap.DictOf (VP prog w) d (vs.take i)->(∀b o,h₀.get? b=some o->s.heap.get? b=some o)->
  (∀J N,J.DictOf (VP prog w) d vs->(∀b o,b∉wr->b≠d->s.heap.get? b=some o->J.get? b=some o)->R (.ok (.ret O)) {s with heap:=J,toks:=N})->
  codeAny (model prog w) A (.builtin "dict.update.loop" ⟨[.ref d,.ref I,.int j t,O],[]⟩) R s:=by
 have S:d∉wr:=λh=>U (W.sub _ h);intro k
 induction k with
 |zero=>
  intro i s j t hk hi G y h0 l;have f:i=n:=by omega
  subst f;refine codeAny_builtin N3 ?_;rw[Around.under_plainId WX _];refine Zj (m:=pyNext (.ref I)) (W.done s _ _ G λJ N Z=>Zj (Zk (Zk ?_)));refine l J N ?_ λb o M _ e=>Z b o M e;rw[<-E,zS]at y;obtain⟨o,es,ep,p,rest⟩:=y;exact⟨o,es,ep,Z d o S p,rest⟩
 |succ k ih=>
  intro i s j t hk hi G y h0 l;have D:i<n:=by omega
  refine codeAny_builtin N3 ?_;rw[Around.under_plainId WX _];refine Zj (m:=pyNext (.ref I)) (W.item i s _ _ D G λv J N x T Z=>?_);obtain⟨a,Z8,ku,vu,rfl,ev,ht,F⟩:=hP i v x;have Q:∀b o,h₀.get? b=some o->J.get? b=some o:=λb o e=>Z b o (hw b o e).1 (h0 b o e);obtain⟨o,p,hc,m,hdat⟩:=ht;have B:=Q a o p;have hT:({s with heap:=J,toks:=N}:Shared).TypeIs (.ref a) "tuple":=⟨o,B,hc⟩;refine Zj (wpAny_holding (Zj (wpAny_tryCatch ?_)));simp only[Builtin.Dict.pairItems];refine Zj (m:=typeOf (.ref a)) (yZ hT ?_);rw[Zn (by decide)];refine Zj (yh B hdat (Zk ?_));show wpAny _ A.in1 (holding [ku,vu] (dictSet d ku vu)) _ _ _
  have r:Heap.DictOf (VP prog w) J d (vs.take i):=by
   obtain⟨o1,es,ep,g,rest⟩:=y;exact⟨o1,es,ep,Z d o1 S g,rest⟩
  refine wpAny_holding (wpAny_dictSet_pairs (hsz:=by rw[ZL];omega) F r λh2 C L=>?_);rw[Fs vs hn ev]at C;refine Zk ⟨plainId_quiet WX _,ih (i+1) _ (j+1) 0 (by omega) D (W.frame _ _ _ T λb M o e=>?_) C (λb o e=>?_) λh3 q u c=>?_⟩
  .exact (L.2 b (λz=>U (z ▸ M))).trans e
  .exact (L.2 b (hw b o e).2).trans (Q b o e)
  .refine l h3 q u λb o M X e=>c b o M X ((L.2 b X).trans (Z b o M e))
end
section
def E3(K:W.Frag)(H:Hp)(ts:kA)(kvs:kE):Prop:=ts.length=kvs.length/\∀(i:Nat)(a:Addr)(k:Key)(y:V),ts[i]?=some a->kvs[i]?=some (k,y)->SqT K H a [kV k,y]
theorem NZ(h:Heap):∀(L:kA)(Z:kE),L.length=Z.length->(∀(i:Nat)(a:Addr)(k:Key)(y:V),L[i]?=some a->Z[i]?=some (k,y)->∃G J,h.IsTuple a #[G,J]/\RelV (kV k) G/\RelV y J)->
  ∃M,KV Z M/\∀(i:Nat)(a:Addr),L[i]?=some a->∃k G J,M[i]?=some (k,J)/\h.IsTuple a #[G,J]/\RelV (kV k) G
 |[],[],_,_=>⟨[],.nil,λi a e=>by simp at e⟩
 |[],_::_,e,_=>by simp at e
 |_::_,[],e,_=>by simp at e
 |t::L,kv::Z,e,hp=>by
  obtain⟨G,J,D,B,T⟩:=hp 0 t kv.1 kv.2 rfl rfl;obtain⟨M,r,R⟩:=NZ h L Z (by simpa using e) λi a k y F E=>hp (i+1) a k y F E;refine⟨(kv.1,J)::M,.cons ⟨rfl,T⟩ r,λi a O=>?_⟩
  cases i with
  |zero=>
   have N:some t=some a:=O;cases N;exact⟨kv.1,G,J,rfl,D,B⟩
  |succ i=>exact R i a O
end
end L2
namespace L2
open PySem
theorem KK.small(h:KK 30 c d G)(L:y∈G.map (·.1)):d y<=2/\c y<=30:=by
 obtain⟨s,M⟩:=JJ L;have Z:=h.at M
 cases s with
 |tags B=>obtain⟨T,R,O,J⟩:=Z;omega
 |pair a b=>obtain⟨T,R,O,J,D,N⟩:=Z;exact⟨N,J⟩
end L2
namespace L2
open PySem PySem.Spec PyProof.Rows
section
theorem Pq{i:Nat}{Q:kh}(t:IsEnum s.heap e it i old)(z:SI tp s.heap it l i xs)(nl:l≠it)(hx:xs[i]?=some x)(J:e≠it)(hQ:∀g,IsEnumOut g e it ((i:Int)+1) x s.heap.objs.size->SJ tp g it l (i+1)->g.get? s.heap.objs.size=some {cls:=.type "tuple",data:=.seq #[.int i s.toks,x]}->g.objs.size=s.heap.objs.size+1->
   (∀b o,b≠e->b≠it->s.heap.get? b=some o->g.get? b=some o)->Q (.ref s.heap.objs.size) {s with heap:=g,toks:=s.toks+1}):
  wpAny (model prog w) A (Builtin.«enumerate.__next__» ⟨[.ref e],[]⟩) (λf s'=>∃v,f=.done (.ret v)/\Q v s') E s:=by
 obtain⟨Z,g,d,R,os⟩:=s;refine Zj (m:=field (.ref e) 2) (Zm t rfl (x:=.ref it) rfl ?_);refine Zj (Gq z nl hx λU a N=>?_);replace N:Heap.SameBut it Z U:=N;have j:IsEnum U e it i old:=(N.2 e J).trans t;refine Zj (m:=field (.ref e) 3) (Zm j rfl (x:=rawInt i) rfl ?_);refine Zj (m:=field (.ref e) 4) (Zm j rfl (x:=.none) rfl ?_);refine Zj (m:=mkInt i) (wpAny_mkInt ?_);refine Zj (m:=setField (.ref e) 3 (rawInt ((i:Int)+1))) (zx j (by simp) λS P M=>?_);replace M:Heap.SameBut e U S:=M;replace P:IsEnum S e it ((i:Int)+1) old:=P;refine Zj (m:=setField (.ref e) 4 .none) (zx P (by simp) λO X L=>?_);replace L:Heap.SameBut e S O:=L;replace X:IsEnum O e it ((i:Int)+1) old:=X;refine Zj (m:=newTuple [.int i R,x]) (wpAny_newTuple ?_);have C:IsEnum (O.push {cls:=.type "tuple",data:=.seq #[.int i R,x]}) e it ((i:Int)+1) old:=ZD _ X;generalize q4:O.push {cls:=.type "tuple",data:=.seq #[.int i R,x]}=g4 at C;have T:O.objs.size=Z.objs.size:=by rw[L.1,M.1,N.1]
 have el:e<Z.objs.size:=ZN t;have t4:g4.get? Z.objs.size=some {cls:=.type "tuple",data:=.seq #[.int i R,x]}:=by rw[<-q4,<-T];exact ZW _ rfl
 have z4:g4.objs.size=Z.objs.size+1:=by rw[<-q4,zR,T]
 have k4:∀b o,b≠e->b≠it->Z.get? b=some o->g4.get? b=some o:=λb o G n k=>by
  rw[<-q4];exact ZD _ (L.extBut b o G (M.extBut b o G (N.extBut b o n k)))
 have j4:SJ tp g4 it l (i+1):=by
  rw[<-q4];exact a.sj.to λo ho=>ZD _ (L.extBut _ o (Zq J) (M.extBut _ o (Zq J) ho))
 show wpAny _ _ (Builtin.SmallTypes.ownedTupleIsFree (.ref e) >>=_) _ _ ⟨g4,g,d,R+1,os⟩;rw[T];clear q4 X L P M j N a T O S U;refine Zj (m:=Builtin.SmallTypes.ownedTupleIsFree (.ref e)) (Zj (m:=field (.ref e) 0) (Zm C rfl (x:=.none) rfl (Zk ?_)));simp only[if_true];refine Zj (vg (Zj (Zm C rfl (x:=old) rfl (Zj (zx C (by simp) λc h F=>?_)))));replace F:Heap.SameBut e g4 c:=F;replace h:IsEnum c e it ((i:Int)+1) x:=h;refine Zj (m:=Builtin.SmallTypes.ownedTupleHandOut (.ref e) (.ref Z.objs.size)) ?_;simp only[Builtin.SmallTypes.ownedTupleHandOut];refine Zj (zx h (by simp) λp r D=>?_);replace D:Heap.SameBut e c p:=D;replace r:IsEnumOut p e it ((i:Int)+1) x Z.objs.size:=r;refine zx r (by simp) λI u B=>?_;replace B:Heap.SameBut e p I:=B;replace u:IsEnumOut I e it ((i:Int)+1) x Z.objs.size:=u;have y:∀b o,b≠e->g4.get? b=some o->I.get? b=some o:=λb o G q=>B.extBut b o G (D.extBut b o G (F.extBut b o G q));refine Zj (wpAny_letGo (Zk ⟨_,rfl,hQ I u (j4.to λo q=>y _ o (Zq J) q) (y _ _ (yf el) t4) (by rw[B.1,D.1,F.1,z4]) λb o G n k=>y b o G (k4 b o G n k)⟩))
theorem PQ{i:Nat}(J:IsEnum s.heap e it i old)(z:SI M s.heap it l i L)(N:l≠it)(O:L[i]?=some x)(Z:e≠it)(R:∀g,IsEnumOut g e it ((i:Int)+1) x s.heap.objs.size->SJ M g it l (i+1)->g.get? s.heap.objs.size=some {cls:=.type "tuple",data:=.seq #[.int i s.toks,x]}->g.objs.size=s.heap.objs.size+1->
   (∀b o,b≠e->b≠it->s.heap.get? b=some o->g.get? b=some o)->Q (some (.ref s.heap.objs.size)) {s with heap:=g,toks:=s.toks+1}):wpAny (model prog w) A (pyNext (.ref e)) Q E s:=by
 have G:s.TypeIs (.ref e) "enumerate":=⟨_,J,rfl⟩;simp only[pyNext];exact Zj (yO (wpAny_callSpecial?_slot (name:=Str.ofString "__next__") G vf (yb vf G F.entry_enumerate_next
   (Pq J z N O Z λg a b c d k=>Zk (R g a b c d k)) (F.args_enumerate_next_1 _))))
theorem AA{i:Nat}(N:A.handled=none)(Z:IsEnum s.heap e it i old)(z:SI D s.heap it l i G)(L:G[i]?=none)(R:∀g,Heap.ExtBut it s.heap g->Q none {s with heap:=g}):wpAny (model prog w) A (pyNext (.ref e)) Q E s:=by
 have J:s.TypeIs (.ref e) "enumerate":=⟨_,Z,rfl⟩;simp only[pyNext];refine Zj (yO (wpAny_callSpecial?_slot (name:=Str.ofString "__next__") J vf (yb vf J F.entry_enumerate_next ?_ (F.args_enumerate_next_1 _))));refine Zj (m:=field (.ref e) 2) (Zm Z rfl (x:=.ref it) rfl (Zj (Ba N z L λg y B ⟨o,M,O⟩=>?_)));exact Zj (wpAny_isInstance (T:="StopIteration") (b:=true) ⟨o,M,O⟩ isSubtype_stop (Zk (R _ B)))
set_option tactic.hygienic true in
theorem Fp(J:Bool)(l:Addr)(N:kC):Meets (Builtin.«enumerate.__new__» ⟨[.type "enumerate",.ref l],[]⟩) (λ_ R s=>Wk J s.heap l N/\
   R (.ok (.ret (.ref (s.heap.push (Js J l)).objs.size))) {s with heap:=(s.heap.push (Js J l)).push {cls:=.type "enumerate",data:=.fields #[.none,.bool false,.ref s.heap.objs.size,rawInt 0,.none,.none]}}):=
 .of_wp λO w A R s h=>by
  obtain⟨D,g,d,F,I⟩:=s;obtain⟨L,h⟩:=h;have B:=sub_enumerate;have T:Wk J (Shared.heap ⟨D,g,d,F,I⟩) l N:=L
  obtain⟨G,Z,S⟩:∃G,D.get? l=some G/\(∃E n,G.data=.seq E n):=by
   cases J with
   |false=>obtain⟨o,e,_,n,M⟩:=L;exact⟨o,e,_,n,M⟩
   |true=>obtain⟨o,e,_,n,M⟩:=L;exact⟨o,e,_,n,M⟩
  wp_walk using AutoSeq1.wpAny_loadPart' Z
  refine wpAny_stack_any λU=>Zk ?_
  split
  .rename_i c _ _ _ _ _
   cases(c==Value.type "enumerate") <;> (wp_walk using AutoSeq1.wpAny_loadPart' Z,Gj T;exact⟨_,rfl,h⟩)
  .wp_walk using AutoSeq1.wpAny_loadPart' Z,Gj T
   exact⟨_,rfl,h⟩
theorem Py(N:Wk Z s.heap l L)(h:∀g,IsEnum g (s.heap.objs.size+1) s.heap.objs.size 0 .none->SJ Z g s.heap.objs.size l 0->(∀c o,s.heap.get? c=some o->g.get? c=some o)->Q (.ref (s.heap.objs.size+1)) {s with heap:=g}):
  wpAny (model prog w) A (call (.type "enumerate") [.ref l]) Q E s:=by
 refine callType_new F.called_enumerate (by decide) (F.typeCall_enumerate_1 _) (F.newCall_enumerate_1 _) (λG=>F.args_object_init_2 G _) F.entry_enumerate_new (Fp Z l L) ⟨N,?_⟩;have O:(s.heap.push (Js Z l)).objs.size=s.heap.objs.size+1:=zR ..;have J:((s.heap.push (Js Z l)).push {cls:=.type "enumerate",data:=.fields #[.none,.bool false,.ref s.heap.objs.size,rawInt 0,.none,.none]}).get? (s.heap.push (Js Z l)).objs.size=some _:=ZW _ rfl;have M:SJ Z ((s.heap.push (Js Z l)).push {cls:=.type "enumerate",data:=.fields #[.none,.bool false,.ref s.heap.objs.size,rawInt 0,.none,.none]}) s.heap.objs.size l 0:=(SJ.new Z s.heap l).to λo q=>ZD _ q;show _/\_;rw[O]at J |-;exact⟨⟨_,J,rfl⟩,h _ J M λc o q=>ZD _ (ZD _ q)⟩
end
structure ER(h:Heap)(e it:Addr)(tp:Bool)(l:Addr)(k:Nat):Prop where
 enu:∃old,IsEnum h e it k old
 one:SJ tp h it l k
def Ite(K:W.Frag)(tp:Bool)(l:Addr):It:=
 ⟨λi H=>∃Z x,Sq K tp H l Z/\Z[i]?=some x,λi H v J=>∃r x,v=.ref r/\H r=none/\J=upd H r (.tup [.int (i:Nat),x])/\∀Z,Sq K tp H l Z->Z[i]?=some x,λi H=>∃Z,Sq K tp H l Z/\Z.length<=i⟩
theorem OJ{P:Program}{w:World}{K:W.Frag}{O:kP}{x1}{Q:Pos}{e it l:Addr}{tp:Bool}(n1:e≠it)(n2:l≠it):Turn P w K (.Tuple O x1 Q) (Ite K tp l) [e,it] e (λi h=>ER h e it tp l i) where
 mem:=by simp
 obj:=λi h J b Z=>by
  have q:b=e\/b=it:=by simpa using Z
  rcases q with q|q <;> rw[q]
  .obtain ⟨L,N⟩:=J.enu
   exact⟨_,N,λv e=>nomatch e⟩
  .exact J.one.obj
 keep:=λi h h' J k=>⟨let⟨L,N⟩:=J.enu;⟨L,k e (by simp) _ N⟩,J.one.to λo q=>k it (by simp) o q⟩
 item:=by
  intro X r c n hc i G s U H E I M J u;subst r c n;obtain⟨xs,x,T,hx⟩:=u;obtain⟨p,C,D⟩:=I.sq T;obtain⟨F,d,S⟩:=C.get hx;obtain⟨L,B⟩:=J.enu;have R:e<s.heap.objs.size:=ZN B;refine PQ B (J.one.si D) n2 (x:=F) (by simpa using d) n1 λg ho hj ht sz m=>?_;have t:∀b o,b ∉ [e,it]->s.heap.get? b=some o->g.get? b=some o:=λb o Z q=>m b o (λz=>Z (by simp[z])) (λz=>Z (by simp[z])) q;have I1:Inv X G U H {s with heap:=g,toks:=s.toks+1}:=I.turnedL (t':=s.toks+1) t M;have f:H s.heap.objs.size=none:=I.hok.fresh (ZF _);refine⟨_,rfl,?_⟩;refine wpAny_letOwnedTupleGo_enum (s:={s with heap:=g,toks:=s.toks+1}) ho λa e2 A=>?_
  have I2:Inv X G U H {s with heap:=a,toks:=s.toks+1}:=I1.turnedL (s:={s with heap:=g,toks:=s.toks+1}) (t':=s.toks+1) (ch:=[e]) (λb o Z q=>A.extBut b o (λz=>Z (by simp[z])) q) λb Z=>by
   have q:b=e:=by simpa using Z
   rw[q];exact M e (by simp)
  have j:a.get? s.heap.objs.size=some {cls:=.type "tuple",data:=.seq #[.int i s.toks,F]}:=A.extBut _ _ (yf R) ht;have I3:Inv X G U (upd H s.heap.objs.size (.tup [.int (i:Nat),x])) {s with heap:=a,toks:=s.toks+1}:=I2.retrack f (I.fpOk (ZF _) f) ⟨sl 2,[.int i s.toks,F],.cons ⟨_,rfl⟩ (.cons S .nil),⟨_,j,rfl,rfl,_,rfl⟩⟩
  have y:∀b∈ [e,it],b<s.heap.objs.size:=λb Z=>by
   have q:b=e\/b=it:=by simpa using Z
   rcases q with q|q <;> rw[q]
   .exact R
   .obtain ⟨o,q,_⟩:=J.one.obj
    exact ZN q
  refine⟨.ref s.heap.objs.size,_,I3,rfl,⟨_,x,rfl,f,rfl,λzs h=>by rw[I.sq_inj h T];exact hx⟩,?_,λb Z=>?_⟩
  .exact ⟨⟨_,e2⟩,hj.to λo q=>A.extBut _ o (Zq n1) q⟩
  .rw [Yd (Zc (y b Z))]
   exact(M b Z).1
 done:=by
  intro X r c n hc i G s U H E I M J u;subst r c n;obtain⟨xs,T,Z8⟩:=u;obtain⟨p,C,D⟩:=I.sq T;have e1:=C.length;obtain⟨L,B⟩:=J.enu;refine AA (I.ok.hd hc) B (J.one.si D) (by simp;omega) λg m=>⟨rfl,?_⟩
  exact I.turnedL (t':=s.toks) (ch:=[it]) (λb o Z q=>m b o (λz=>Z (by simp[z])) q) λb Z=>M b (by
   have q:b=it:=by simpa using Z
   rw[q];simp)
 self:=λ_ _ _ _ _ J h=>let⟨_,N⟩:=J.enu;wpAny_pyIter_enum N h
theorem Dr:bootBuiltins "enumerate"=some (.type "enumerate"):=by decide +kernel
def CG(K:W.Frag)(ta:TA):TI:=λU H R=>ta U H λL J=>∃a Z G,L=[.ref a]/\Sq K Z J a G/\R (Ite K Z a) J
theorem U9(j:Gl X "enumerate")(P:X.mg "enumerate"=none)(t:PA X [a] ta)(C:starEach [a] X.env=[(false,eval a X.env)]:=by rfl):PI X (.Tuple elts x1 tpos) (.Call (.Name "enumerate" p) [a] [] pos) (CG X.K ta):=by
 intro J s U H R I h;refine Call_ (Wv I j P Dr (yu (thn (t pos J s U H _ I h) λd Z ⟨c,T,L,E,M⟩=>?_) (by rw[C];rfl) (by rfl)));obtain⟨l,f,k,e,M,q⟩:=M;subst e;obtain⟨u,rfl,B⟩:=vals1 E;cases B;obtain⟨S,D,N⟩:=L.sq M;have F:=N.lt;refine Py N λg O Q A=>?_;refine wpAny_pyIter_enum (s:={Z with heap:=g}) O ?_;have m:Inv X J U T {Z with heap:=g}:=L.kept (t':=Z.toks) A;refine⟨_,[Z.heap.objs.size+1,Z.heap.objs.size],_,_,T,rfl,m,OJ (Nat.succ_ne_self _) (Zc F),⟨⟨_,O⟩,Q⟩,λb y=>?_,q⟩
 have G:Z.heap.objs.size<=b:=by
  have z:b=Z.heap.objs.size+1\/b=Z.heap.objs.size:=by simpa using y
  rcases z with z|z <;> rw[z] <;> first|exact ZF _|exact vD _ _
 exact L.fpOk G (L.hok.fresh G)
end L2
namespace L2
open PySem PySem.Spec PyProof.Rows PySem.W PySem.Calls
end L2
namespace L2
open PySem PySem.Spec PyProof.Rows PySem.MeetsSeq
end L2
namespace L2
open PySem PySem.Spec PyProof.Rows
def Its(x:Str):It:=⟨λi _=>i<x.cps.size,λi H v Z=>Z=H/\∃c,x.cps[i]?=some c/\v=.str ⟨#[c]⟩,λi _=>x.cps.size<=i⟩
def SIt(it:Addr)(x:Str)(i:Nat)(h:Heap):Prop:=∃ty t,(ty="str_ascii_iterator" \/ ty="str_iterator")/\h.IsStrIter it ty x t i
theorem S1(h:Q () s):wpAny M A (letOwnedTupleGo tg it (.str y t)) Q E s:=by
 unfold letOwnedTupleGo;cases tg <;> cases it <;> exact Zk h
theorem IT{P:Program}{w:World}{K:W.Frag}{a:Expr}(it:Addr)(x:Str):Turn P w K a (Its x) [it] it (SIt it x) where
 mem:=by simp
 obj:=λi h ⟨ty,t,_,o,p,_,hd⟩ b M=>by
  cases ZO.mp M;exact⟨o,p,λv z=>by rw[hd]at z;cases z⟩
 keep:=λi h L ⟨ty,t,Z,o,p,r⟩ k=>⟨ty,t,Z,o,k it (by simp) o p,r⟩
 item:=by
  intro X d g f D i O s U H E I S ⟨ty,t,Z,N⟩ A;subst d g f;obtain⟨m,q,_,j,Q,C⟩:=S it (by simp);have F:∀(v:Value)(L:Heap)(R:Nat),SignAt x i v->SIt it x (i+1) L->(∀b o,b ∉ [it]->s.heap.get? b=some o->L.get? b=some o)->
    (∃u,some v=some u/\wpAny (model X.prog X.w) X.A (letOwnedTupleGo a (.ref it) u) (λ_ s2=>∃y n,Inv X O U n s2/\RelV y u/\(Its x).yld i H y n/\SIt it x (i+1) s2.heap/\∀b∈ [it],n b=none) E {s with heap:=L,toks:=R}):=λv L R B J T=>by
   obtain⟨c,u,hx,rfl⟩:=B;exact⟨_,rfl,S1 ⟨.str ⟨#[c]⟩,H,I.turned (λb o M e=>T b o (by simpa using M) e) m q j Q C,⟨_,rfl⟩,⟨rfl,c,hx,rfl⟩,J,λb M=>(S b M).1⟩⟩
  rcases Z with rfl|rfl
  .exact (Walks.strAscii (I.ok.hd D) it x t).item i s _ _ A N λv L R B J T=>F v L R B ⟨_,t,.inl rfl,J⟩ T
  .exact (Walks.strWide (I.ok.hd D) it x t).item i s _ _ A N λv L R B J T=>F v L R B ⟨_,t,.inr rfl,J⟩ T
 done:=by
  intro X d g f D i O s U H E I S ⟨ty,t,Z,N⟩ A;subst d g f;obtain⟨m,q,_,j,Q,C⟩:=S it (by simp)
  have G:x.cps[i]?=none:=by
   have z:x.cps.size<=i:=A;simp[z]
  rcases Z with rfl|rfl
  .exact wpAny_pyNext_ascii_end (I.ok.hd D) N G λL l=>⟨rfl,I.turned (t':=s.toks) (λb o M e=>l b o M e) m q j Q C⟩
  .exact wpAny_pyNext_wide_end (I.ok.hd D) N G λL l=>⟨rfl,I.turned (t':=s.toks) (λb o M e=>l b o M e) m q j Q C⟩
 self:=λ_ _ _ _ _ ⟨ty,t,Z,N⟩ h=>by
  rcases Z with rfl|rfl
  .exact wpAny_pyIter_striter_ascii N h
  .exact wpAny_pyIter_striter_wide N h
section
def C1(tl:TE):TI:=λU H R=>tl U H λv Z=>∃x,v=.str x/\R (Its x) Z
theorem SG(T:PE X l tl):PI X tg l (C1 tl):=by
 intro Z s U H R I h;refine thn (T Z s U H _ I h) λv J ⟨y,N,L,O,x,e,q⟩=>?_;subst e;obtain⟨t,rfl⟩:=O
 have D:∀b∈ [J.heap.objs.size],UI X Z N b:=λb B=>by
  cases ZO.mp B;exact L.fpOk (ZF _) (L.hok.fresh (ZF _))
 have M:∀(ty:String),(ty="str_ascii_iterator" \/ ty="str_iterator")->PIE X Z U tg R (.ref J.heap.objs.size) {J with heap:=J.heap.push {cls:=.type ty,data:=.fields #[.str x t,.int 0 0]}}:=λty G=>
  ⟨_,[J.heap.objs.size],_,_,N,rfl,L.kept (t':=J.toks) (λb o e=>ZD _ e),IT _ x,⟨ty,t,G,_,ZW _ rfl,rfl,rfl⟩,D,q⟩
 cases ha:x.cps.all (λc=>c<128)
 .exact wpAny_pyIter_wide ha (M _ (.inr rfl))
 .exact wpAny_pyIter_ascii ha (M _ (.inl rfl))
end
section
theorem V8{Z:Stmt}:PS X Z (λ_ _ _=>False):=λ_ _ _ _ _ _ h=>h.elim
end
end L2
namespace L2
open PySem
inductive Bd where
 |tag (t:Str)|name (x:Str)|pair (a b:Bd)|one (e:Bd)|other (e:Bd)
 |choose (e:Bd) (ts:List Str) (bs:List Bd)|ask (f:Str) (as:List Bd)|letb (x k:Str) (e b:Bd)
mutual
def Bd.dat:Bd->Dat
 |.tag t=>.tup [.str "tag",.str t]
 |.name x=>.tup [.str "name",.str x]
 |.pair a b=>.tup [.str "pair",a.dat,b.dat]
 |.one e=>.tup [.str "one",e.dat]
 |.other e=>.tup [.str "other",e.dat]
 |.choose e ts bs=>.tup [.str "choose",e.dat,.tup (Bd.brs bs ts)]
 |.ask f as=>.tup [.str "ask",.str f,.tup (Bd.dats as)]
 |.letb x k e b=>.tup [.str "let",.str x,.str k,e.dat,b.dat]
def Bd.dats:List Bd->List Dat
 |[]=>[]
 |b::bs=>b.dat::Bd.dats bs
def Bd.brs:List Bd->List Str->List Dat
 |[],_=>[]
 |b::bs,t::ts=>.tup [.str t,b.dat]::Bd.brs bs ts
 |_::_,[]=>[]
end
def Bd.parts:Bd->List Bd
 |.tag _=>[]
 |.name _=>[]
 |.pair a b=>[a,b]
 |.one e=>[e]
 |.other e=>[e]
 |.choose e _ bs=>e::bs
 |.ask _ as=>as
 |.letb _ _ e b=>[e,b]
mutual
def Bd.places:Bd->List (kz)
 |.tag _=>[[]]
 |.name _=>[[]]
 |.pair a b=>[]::(a.places.map λw=>(0:Int)::w)++ (b.places.map λw=>(1:Int)::w)
 |.one e=>[]::e.places.map λw=>(0:Int)::w
 |.other e=>[]::e.places.map λw=>(0:Int)::w
 |.choose e _ bs=>[]::(e.places.map λw=>(0:Int)::w)++ Bd.pls 1 bs
 |.ask _ as=>[]::Bd.pls 0 as
 |.letb _ _ e b=>[]::(e.places.map λw=>(0:Int)::w)++ (b.places.map λw=>(1:Int)::w)
def Bd.pls(k:Nat):List Bd->List (kz)
 |[]=>[]
 |b::bs=>(b.places.map λw=>(k:Int)::w)++ Bd.pls (k+1) bs
end
theorem Bd.places_eq:∀b:Bd,b.places=[]::Bd.pls 0 b.parts
 |.tag _=>by simp[Bd.places,Bd.parts,Bd.pls]
 |.name _=>by simp[Bd.places,Bd.parts,Bd.pls]
 |.pair a b=>by simp[Bd.places,Bd.parts,Bd.pls]
 |.one e=>by simp[Bd.places,Bd.parts,Bd.pls]
 |.other e=>by simp[Bd.places,Bd.parts,Bd.pls]
 |.choose e Z J=>by simp[Bd.places,Bd.parts,Bd.pls]
 |.ask f G=>by simp[Bd.places,Bd.parts]
 |.letb x k e b=>by simp[Bd.places,Bd.parts,Bd.pls]
end L2
namespace L2
open PySem PySem.W PyProof.Rows
end L2
namespace L2
open PySem PySem.Spec PyProof.Rows
theorem Lq:typeLookup (.type "tuple") (Str.ofString "keys")=pure none:=am_miss_of_fast (by decide +kernel)
section
theorem Lr(D:Gi s.heap a G)(C:A.handled=none)(h:∀L M,(∀b o,s.heap.get? b=some o->L.get? b=some o)->Q none {s with heap:=L,toks:=M}):
  wpAny (model prog w) A (getAttr? (.ref a) (Str.ofString "keys")) Q E s:=by
 obtain⟨⟨c,y,z,sl⟩,N,O,R,k,hdat⟩:=D;simp only at R hdat O;subst R hdat O;obtain⟨X,P,j,M,I⟩:=s;have Z:=F.slot_tuple_getattribute;have U:=Z.lookup;have q:=Z.bind (.ref a);have S:=am_tuple_getattr_none;have t:=sub_AttributeError;have T:∀n,(Shared.mk X P j n I).TypeIs (.ref a) "tuple":=λn=>⟨_,N,rfl⟩;simp only[getAttr?,getAttrBy?,getAttrBy]
 repeat (any_goals (first|assumption|exact T _|((with_reducible show wpAny _ _ (call (Value.builtin "tuple.__getattribute__") _ _) _ _ _);refine call_meets F.slot_tuple_getattribute (T _) am_entry_tuple_getattribute (F.args_tuple_getattribute_2 _ _) (meets_getattribute_miss_tuple a G k sl (Str.ofString "keys") _ Lq (by decide +kernel) (by size_fits)) ⟨N,C,λL B e J=>?_⟩)|wp_step))
 have there:=J.there;obtain⟨_,_,m⟩:=there;refine(?_:wpAny _ _ (getattributeRaised _ _ _ _ _ _ _) _ _ _);simp only[getattributeRaised]
 repeat any_goals first|assumption|wp_step
 exact h _ _ J.keeps
end
section
theorem Ux(hc:X.calm=true):UG X (.type "dict") (λxs H Q=>∃(p:Addr)(L:kA)(Z:kE),xs=[.ref p]/\H p=some (.tup (L.map V.ref))/\E3 X.K H L Z/\(Z.map (·.1)).Nodup/\∀l,H l=none->Q (.ref l) (upd H l (.dK Z))):=by
 intro J2 s U H xs us Q I r h;obtain⟨p,L,Z,rfl,x,C,hn,q⟩:=h;obtain⟨u,rfl,c⟩:=vals1 r;cases c;obtain⟨w,G,r',d⟩:=(show VX X.prog X.w H s.heap p (.tup (L.map V.ref))from I.hok p _ x);rw[ZA]at w
 have j:G.length=L.length:=by
  have:=r'.length;rw[ZA]at this;exact this.symm
 have Z9:∀(i:Nat)(a:Addr),L[i]?=some a->G[i]?=some (Value.ref a):=λi a e=>by
  obtain⟨u,hu,c⟩:=r'.get (show(L.map V.ref)[i]?=some (V.ref a) by rw[ZG,e];rfl);rw[hu,show u=Value.ref a from c]
 obtain⟨vs,M,n⟩:=NZ s.heap L Z C.1 λi a k y e1 e2=>by
  obtain⟨J4,r2,p2,_⟩:=I.tuple (C.2 i a k y e1 e2)
  cases r2 with
  |cons r1 t1=>
   cases t1 with
   |cons r3 t3=>
    cases t3;exact⟨_,_,p2,r1,r3⟩
 have Z8:vs.length=G.toArray.size:=by rw[ZM,j,C.1,<-M.length]
 have B:vs.map (·.1)=Z.map (·.1):=by
  have J1:∀{l:kE}{m:List (Key×Value)},KV l m->m.map (·.1)=l.map (·.1):=by
   intro l m q
   induction q with
   |nil=>rfl
   |cons x t ih=>rw[ZT,ZT,ih,x.1]
  exact J1 M
 have S:p<s.heap.objs.size:=by
  obtain⟨o,e,_⟩:=d;exact ZN e
 refine callType_codes (Q₁:=λob t=>ob=.ref s.heap.objs.size/\t={s with heap:=s.heap.push {cls:=.type "dict",data:=.dict #[]}}) F.kt_called_dict (F.kt_typeCall_dict_1 _) F.entry_dict_init (kt_code_dict_new _ ⟨rfl,rfl⟩) λob t g=>?_;obtain⟨rfl,rfl⟩:=g;have J:(s.heap.push {cls:=.type "dict",data:=.dict #[]}).DictOf (VP X.prog X.w) s.heap.objs.size []:=Heap.DictOf.new s.heap;have k0:∀b o,s.heap.get? b=some o->(s.heap.push {cls:=.type "dict",data:=.dict #[]}).get? b=some o:=λb o e=>ZD _ e;refine And.intro J.typeIs (And.intro (F.args_dict_init_2 _ _) ?_);delta Builtin.«dict.__init__» Builtin.Dict.selfAndRest;refine Zj (Zj (wpAny_notOrdered_dict J.typeIs (Zk (?_:wpAny _ _ (Builtin.Dict.updateFrom "dict.__init__" s.heap.objs.size (.ref p) [] .none) _ _ _))));delta Builtin.Dict.updateFrom;have R:=d.keeps k0;refine Zj (yZ (T:="tuple") (show Shared.TypeIs _ _ _ from let⟨o,O,_,h2,_⟩:=R;⟨o,O,h2⟩) ?_);rw[Zn (by decide)];refine Zj (Lr R (I.ok.hd hc) λO J5 N=>?_);simp only[Option.isNone_none,if_true];refine Zj (vg ?_);refine Zj (wpAny_pyIter_tuple (show Heap.IsTuple _ _ _ from(R.keeps N).is) ?_)
 have z:s.heap.objs.size<O.objs.size:=by
  obtain⟨o,es,ep,ho,_⟩:=J;exact ZN (N _ _ ho)
 have f:∀b o,s.heap.get? b=some o->(O.push {cls:=.type "tuple_iterator",data:=.fields #[.ref p,.int 0 0]}).get? b=some o:=λb o e=>ZD _ (N b o (k0 b o e));refine Zk ⟨plainId_quiet WX _,Pr (Walks.tuple (A:=X.A.in1.in1) (I.ok.hd hc) O.objs.size p (Zc (Nat.lt_trans S z)) G.toArray) (h₀:=s.heap) (vs:=vs) Z8 (by rw[<-M.length,<-C.1];exact w) (by rw[B];exact hn) ?_ s.heap.objs.size ?_ ?_ .none _ 0 _ 0 0 rfl (Za _) ?_ ?_ f ?_⟩
 .intro i v hv
  have hi:i<G.length:=by
   have:=(vj.mp hv).1
   rwa [ZM]at this
  have g:i<L.length:=by omega
  obtain⟨k,ku,vu,e1,e2,e3⟩:=n i L[i] (ZC g);refine⟨L[i],k,ku,vu,?_,e1,e2,Gb e3⟩;have:=Z9 i L[i] (ZC g);have E:G[i]?=some v:=by simpa using hv
  rw[this]at E;exact(ZP E).symm
 .intro P
  have two:s.heap.objs.size=O.objs.size\/s.heap.objs.size=p:=by simpa using P
  rcases two with e|e
  .exact Zp e (Zc z)
  .exact Zp e (yf S)
 .intro b o e
  have D:=ZN e;refine⟨λP=>?_,Zc D⟩;have e':b=O.objs.size:=by simpa using P
  rw[e']at D;exact Zp z (Nat.not_lt_of_lt D)
 .exact ⟨⟨_,ZW _ rfl,rfl,rfl⟩,(show Heap.IsTuple _ _ _ from(d.keeps f).is)⟩
 .obtain ⟨o,es,ep,ho,rest⟩:=J
  exact⟨o,es,ep,ZD _ (N _ _ ho),rest⟩
 .intro h' tk hd' hk'
  refine⟨rfl,.ref s.heap.objs.size,_,I.laid (a:=s.heap.objs.size) (o:=.dK Z) (λb o e=>?_) (ZF _) (Dn (by rw[<-C.1];exact w) (beq_eq_false_iff_ne.mpr (Zq (Zc I.big))) M hd'),rfl,q _ (I.hok.fresh (ZF _))⟩;have D:=ZN e;refine hk' b o (λP=>?_) (Zc D) (f b o e);have e':b=O.objs.size:=by simpa using P
  rw[e']at D;exact Zp z (Nat.not_lt_of_lt D)
end
end L2
namespace L2
open PySem
theorem Yz(h:Has H v (.tup J)):∃p Z,v=.ref p/\H p=some (.tup Z)/\HasL H Z J:=by unfold Has at h;exact h
theorem Yn(h:H p=some (.tup xs))(t:HasL H xs Z):Has H (.ref p) (.tup Z):=by unfold Has;exact⟨p,xs,rfl,h,t⟩
theorem has_str(h:Has H v (.str x)):v=.str x:=by unfold Has at h;exact h
theorem Yu:Has H (.str x) (.str x):=by unfold Has;rfl
theorem Yb(h:HasL H Z (d::J)):∃x r,Z=x::r/\Has H x d/\HasL H r J:=by
 match Z,h with
 |[],h=>unfold HasL at h;exact h.elim
 |x::r,h=>unfold HasL at h;exact⟨x,r,rfl,h.1,h.2⟩
theorem VD(h:HasL H Z []):Z=[]:=by
 match Z,h with
 |[],_=>rfl
 |_::_,h=>unfold HasL at h;exact h.elim
theorem Bd.dats_map:∀Z:List Bd,Bd.dats Z=Z.map Bd.dat
 |[]=>by unfold Bd.dats;rfl
 |b::Z=>by unfold Bd.dats;rw[Bd.dats_map Z];rfl
abbrev Z7:=@Bd.dats_map
theorem Bd.brs_len:∀{bs:List Bd}{ts:kq},bs.length=ts.length->(Bd.brs bs ts).length=ts.length
 |[],[],_=>by unfold Bd.brs;rfl
 |[],_::_,e=>by simp at e
 |_::_,[],e=>by simp at e
 |b::bs,t::ts,e=>by
  unfold Bd.brs;rw[Zd,Bd.brs_len (by simpa using e),Zd]
theorem Bd.brs_get:∀{bs:List Bd}{ts:kq}{j:Nat}{d:Dat},(Bd.brs bs ts)[j]?=some d->∃b t,bs[j]?=some b/\ts[j]?=some t/\d=.tup [.str t,b.dat]
 |[],ts,j,d,e=>by unfold Bd.brs at e;simp at e
 |_::_,[],j,d,e=>by unfold Bd.brs at e;simp at e
 |b::bs,t::ts,0,d,e=>by
  unfold Bd.brs at e;have Z:some _=some d:=e;cases Z;exact⟨b,t,rfl,rfl,rfl⟩
 |b::bs,t::ts,j+1,d,e=>by
  unfold Bd.brs at e;exact Bd.brs_get (bs:=bs) (ts:=ts) (j:=j) e
mutual
def Bd.ok:Bd->Prop
 |.tag _=>True
 |.name _=>True
 |.pair a b=>a.ok/\b.ok
 |.one e=>e.ok
 |.other e=>e.ok
 |.choose e ts bs=>e.ok/\bs.length=ts.length/\(1<=ts.length/\ts.length<=7)/\Bd.oks bs
 |.ask _ as=>as.length<=6/\Bd.oks as
 |.letb _ _ e b=>e.ok/\b.ok
def Bd.oks:List Bd->Prop
 |[]=>True
 |b::bs=>b.ok/\Bd.oks bs
end
theorem Bd.oks_mem:∀{Z:List Bd}{b:Bd},Bd.oks Z->b∈Z->b.ok
 |[],_,_,h=>nomatch h
 |c::Z,b,w,h=>by
  unfold Bd.oks at w;rcases Zb.mp h with rfl|h
  .exact w.1
  .exact Bd.oks_mem w.2 h
theorem Bd.ok_parts{b:Bd}(h:b.ok):∀c∈b.parts,c.ok:=by
 intro c Z
 cases b with
 |tag t=>cases Z
 |name x=>cases Z
 |pair a e=>
  unfold Bd.ok at h;simp only[Bd.parts,Zb,zT,or_false]at Z;rcases Z with rfl|rfl
  .exact h.1
  .exact h.2
 |one e=>unfold Bd.ok at h;simp only[Bd.parts,ZO]at Z;rw[Z];exact h
 |other e=>unfold Bd.ok at h;simp only[Bd.parts,ZO]at Z;rw[Z];exact h
 |choose e J G=>
  unfold Bd.ok at h;simp only[Bd.parts,Zb]at Z;rcases Z with rfl|Z
  .exact h.1
  .exact Bd.oks_mem h.2.2.2 Z
 |ask f L=>unfold Bd.ok at h;exact Bd.oks_mem h.2 Z
 |letb x k e g=>
  unfold Bd.ok at h;simp only[Bd.parts,Zb,zT,or_false]at Z;rcases Z with rfl|rfl
  .exact h.1
  .exact h.2
theorem Bd.few{b:Bd}(h:b.ok):b.parts.length<=8:=by
 cases b <;> (try (simp[Bd.parts];done)) <;> (unfold Bd.ok at h;simp only[Bd.parts,Zd,List.length_nil];omega)
end L2
namespace K4
open PySem L2
theorem ED:Yo ["body","word"] ["body"] (Yc Bk):=Y3
theorem QM:List.Nodup [("tag":Str),"branch"]:=by decide +kernel
section
def U3:Sp:=λJ H Q _=>∃(v:V)(b:Bd),J=[v]/\Has H v b.dat/\b.ok/\∀u Z,Same H Z->Has Z u (.tup (Bd.dats b.parts))->Q u Z
theorem ok_parts(B:Blt mg)(F:Fun K "parts" "parts" Bk f fd):Yk P w K mg base CX0 (n+1) f fd ["body"] U3:=by
 refine F.oq ED λR1 A J1 s H I Q E hr h=>?_;obtain⟨v,b,rfl,O,ok,q⟩:=h;refine⟨_,YW (Ym 1 ED.nd (Yi Yl (pv 0) YX))
  (YW (Y5 (Ys Xm (pv 1) (Yx (pa2 Y7 Y7)) (by rfl)) (YY (Yt (Yx Vi))) Yv)
  (YW (Y5 (Ys V9 (pv 1) Y7 (Yy _)) (YY (Yt (Y1 WS (Yx (pa1 (Yi Yl (pv 0) YX))) (VA VW rfl B.tuple Vm (pa1 (Vh ["tag","branch"] [] (JH (Yi Yl (pv 0) YX)) J3 (λcl C fp s H=>VE (n:=2) rfl (Ye (YZ 0 QM rfl (Or.inl rfl) (Or.inr rfl)) (Ye (YZ 1 QM rfl (Or.inl rfl) (Or.inr rfl)) Y6)))
     (λcl C fp s H=>pv 1))))))) Yv)
  (YW (Y5 (Ys V9 (pv 1) Y7 (Yy _)) (YY (Yt (Yi Yl (pv 0) YX))) Yv)
  (YW (Y5 (Ys V9 (pv 1) Y7 (Yy _)) (YY (Yt (VM MT (pv 0) (Va YX) Vb))) Yv)
  (YY (Yt (VM MT (pv 0) (Va YX) Vb))))))),?_⟩
 show let a:=_;let b:=_;let c:=Yh (VN _ b _) a;let d:=_;let e:=Yh (VN _ d _) c;let f:=_;let g:=Yh (VN _ f _) e;let h:=_;let i:=Yh (VN _ h _) g;Yh _ i _ _ _
 intros
 cases b with
 |tag t=>
  unfold Bd.dat at O;obtain⟨p,xs,rfl,M,T⟩:=Yz O;obtain⟨r,m,rfl,D,G⟩:=Yb T;obtain rfl:=has_str D;refine⟨_,_,Z0 M,Yq (j:=0) rfl,?_⟩;refine⟨sl 2,λN J=>?_⟩;refine⟨N,_,rfl,.inr (Z0 Ya),rfl,rfl,_,rfl,V1 (by decide +kernel) ?_⟩;exact⟨sl 0,λu Z=>q _ _ ((Yg J _).trans (Yg Z _)) (Yn Ya (by simp only[Bd.parts,Bd.dats];exact Z4))⟩
 |name x=>
  unfold Bd.dat at O;obtain⟨p,xs,rfl,M,T⟩:=Yz O;obtain⟨r,m,rfl,D,G⟩:=Yb T;obtain rfl:=has_str D;refine⟨_,_,Z0 M,Yq (j:=0) rfl,?_⟩;refine⟨sl 2,λN J=>?_⟩;refine⟨N,_,rfl,.inr (Z0 Ya),rfl,rfl,_,rfl,V1 (by decide +kernel) ?_⟩;exact⟨sl 0,λu Z=>q _ _ ((Yg J _).trans (Yg Z _)) (Yn Ya (by simp only[Bd.parts,Bd.dats];exact Z4))⟩
 |pair a e=>
  unfold Bd.dat at O;obtain⟨p,xs,rfl,M,T⟩:=Yz O;obtain⟨r,m,rfl,D,G⟩:=Yb T;obtain rfl:=has_str D;refine⟨_,_,Z0 M,Yq (j:=0) rfl,?_⟩;refine⟨sl 2,λN J=>?_⟩;have L:=Yg J (.tup [V.str "tag",V.str "name"]);refine⟨N,_,rfl,.inr (Z0 Ya),rfl,rfl,_,rfl,Y9 (by decide +kernel) ?_⟩;refine⟨rfl,_,rfl,Y9 (by decide +kernel) ?_⟩;refine⟨rfl,_,rfl,Y9 (by decide +kernel) ?_⟩;refine⟨rfl,_,rfl,Y9 (by decide +kernel) ?_⟩;refine⟨1,rfl,p,_,rfl,Z0 (L _ _ M),by simp[HT.sIx],λu Z=>q _ _ (L.trans (Yg Z _)) (Yn (xs:=m) (by rw[Ya];simp[XN,HT.sIx]) ?_)⟩;exact(G.mono L).mono (Yg Z _)
 |one e=>
  unfold Bd.dat at O;obtain⟨p,xs,rfl,M,T⟩:=Yz O;obtain⟨r,m,rfl,D,G⟩:=Yb T;obtain rfl:=has_str D;refine⟨_,_,Z0 M,Yq (j:=0) rfl,?_⟩;refine⟨sl 2,λN J=>?_⟩;have L:=Yg J (.tup [V.str "tag",V.str "name"]);refine⟨N,_,rfl,.inr (Z0 Ya),rfl,rfl,_,rfl,Y9 (by decide +kernel) ?_⟩;refine⟨rfl,_,rfl,Y9 (by decide +kernel) ?_⟩;refine⟨rfl,_,rfl,Y9 (by decide +kernel) ?_⟩;refine⟨rfl,_,rfl,Y9 (by decide +kernel) ?_⟩;refine⟨1,rfl,p,_,rfl,Z0 (L _ _ M),by simp[HT.sIx],λu Z=>q _ _ (L.trans (Yg Z _)) (Yn (xs:=m) (by rw[Ya];simp[XN,HT.sIx]) ?_)⟩;exact(G.mono L).mono (Yg Z _)
 |other e=>
  unfold Bd.dat at O;obtain⟨p,xs,rfl,M,T⟩:=Yz O;obtain⟨r,m,rfl,D,G⟩:=Yb T;obtain rfl:=has_str D;refine⟨_,_,Z0 M,Yq (j:=0) rfl,?_⟩;refine⟨sl 2,λN J=>?_⟩;have L:=Yg J (.tup [V.str "tag",V.str "name"]);refine⟨N,_,rfl,.inr (Z0 Ya),rfl,rfl,_,rfl,Y9 (by decide +kernel) ?_⟩;refine⟨rfl,_,rfl,Y9 (by decide +kernel) ?_⟩;refine⟨rfl,_,rfl,Y9 (by decide +kernel) ?_⟩;refine⟨rfl,_,rfl,Y9 (by decide +kernel) ?_⟩;refine⟨1,rfl,p,_,rfl,Z0 (L _ _ M),by simp[HT.sIx],λu Z=>q _ _ (L.trans (Yg Z _)) (Yn (xs:=m) (by rw[Ya];simp[XN,HT.sIx]) ?_)⟩;exact(G.mono L).mono (Yg Z _)
 |choose e ts bs=>
  unfold Bd.dat at O;obtain⟨p,xs,rfl,M,T⟩:=Yz O;obtain⟨r,m,rfl,D,G⟩:=Yb T;obtain rfl:=has_str D;obtain⟨o,r2,rfl,h2,X⟩:=Yb G;obtain⟨x3,r3,rfl,h3,U⟩:=Yb X;obtain rfl:=VD U;obtain⟨pz,zs,rfl,Z9,Z8⟩:=Yz h3;unfold Bd.ok at ok;obtain⟨o1,o2,o3,o4⟩:=ok;have lz:=Z8.length;rw[Bd.brs_len o2]at lz;refine⟨_,_,Z0 M,Yq (j:=0) rfl,?_⟩;refine⟨sl 2,λN J=>?_⟩;have L:=Yg J (.tup [V.str "tag",V.str "name"]);refine⟨N,_,rfl,.inr (Z0 Ya),rfl,rfl,_,rfl,Y9 (by decide +kernel) ?_⟩;refine⟨rfl,_,rfl,V1 (by decide +kernel) ?_⟩;refine⟨_,_,Z0 (L _ _ M),rfl,sl 1,λu Z=>?_⟩;have s2:=Yg Z (.tup [o]);have sA:=L.trans s2;refine⟨_,_,Z0 (sA _ _ M),rfl,⟨_,Z0 (sA _ _ Z9)⟩,?_⟩;have S:=sA _ _ Z9;refine JG zs.length (Yp (by omega)) (λj I H'=>H'=upd (upd H N (.tup [V.str "tag",V.str "name"])) u (.tup [o])/\I.length=j/\HasL H I ((bs.map Bd.dat).take j)) ⟨rfl,rfl,Z4⟩ (λj I H' z=>z.2.1) ?_ ?_ ?_ ?_
  .rintro j I H' hj ⟨rfl,_⟩
   exact⟨zs,zs[j],Z0 S,by simp[hj]⟩
  .rintro I H' ⟨rfl,_⟩
   exact⟨zs,Z0 S,ZF _⟩
  .rintro j I H' x H3 R hj ⟨rfl,z2,z3⟩ yl hR
   obtain⟨rfl,y⟩:=yl;obtain⟨d,hd,G1⟩:=Z8.get (y zs (Z0 S));obtain⟨b,t0,M2,N2,rfl⟩:=Bd.brs_get hd;obtain⟨pp,ys,rfl,G2,J2⟩:=Yz G1;obtain⟨y1,r4,rfl,h4,J5⟩:=Yb J2;obtain⟨y2,r5,rfl,h5,J4⟩:=Yb J5;obtain rfl:=VD J4;refine⟨_,Z0 (sA _ _ G2),rfl,?_⟩;refine hR _ _ ⟨rfl,by rw[ZJ,z2];rfl,?_⟩;rw[jh,ZG,M2];exact Z5 z3 (Z3 h5)
  .rintro I H' l ⟨rfl,z2,z3⟩ hl3
   have s3:=Yg hl3 (.lst I);refine⟨l,_,rfl,.inl ⟨Z1 Ya,λl4 L1=>?_⟩⟩;have s4:=Yg L1 (.tup I);have sB:=(sA.trans s3).trans s4;rw[Ze (by rw[ZA];omega)]at z3;have e1:Bd.dats (Bd.choose e ts bs).parts=e.dat::bs.map Bd.dat:=by rw[Z7];rfl
   refine⟨u,l4,[o],I,rfl,rfl,Z0 (s4 _ _ (s3 _ _ Ya)),Z0 Ya,by simp,Zf (Yp (by simp only[zg];omega)),λe0=>?_,λ_ p5 G3=>?_⟩
   .refine q _ _ sB ?_
    rw[e1];subst e0
    have hb:bs=[]:=by
     have:=z3.length;simpa using this.symm
    rw[hb];exact Yn (s4 _ _ (s3 _ _ Ya)) (Z3 (h2.mono sB))
   .have s5:=Yg G3 (.tup ([o]++ I))
    refine q _ _ (sB.trans s5) ?_;rw[e1];exact Yn Ya (Z2 (h2.mono (sB.trans s5)) (z3.mono (sB.trans s5)))
 |ask g as=>
  unfold Bd.dat at O;obtain⟨p,xs,rfl,M,T⟩:=Yz O;obtain⟨r,m,rfl,D,G⟩:=Yb T;obtain rfl:=has_str D;obtain⟨o,r2,rfl,h2,X⟩:=Yb G;obtain⟨x3,r3,rfl,h3,U⟩:=Yb X;refine⟨_,_,Z0 M,Yq (j:=0) rfl,?_⟩;refine⟨sl 2,λN J=>?_⟩;have L:=Yg J (.tup [V.str "tag",V.str "name"]);refine⟨N,_,rfl,.inr (Z0 Ya),rfl,rfl,_,rfl,Y9 (by decide +kernel) ?_⟩;refine⟨rfl,_,rfl,Y9 (by decide +kernel) ?_⟩;refine⟨rfl,_,rfl,V1 (by decide +kernel) ?_⟩;exact⟨_,_,Z0 (L _ _ M),Yq (j:=2) rfl,q _ _ L (h3.mono L)⟩
 |letb x k e g=>
  unfold Bd.dat at O;obtain⟨p,xs,rfl,M,T⟩:=Yz O;obtain⟨r,m,rfl,D,G⟩:=Yb T;obtain rfl:=has_str D;obtain⟨o,r2,rfl,h2,X⟩:=Yb G;obtain⟨x3,r3,rfl,h3,U⟩:=Yb X;have lr:=U.length;refine⟨_,_,Z0 M,Yq (j:=0) rfl,?_⟩;refine⟨sl 2,λN J=>?_⟩;have L:=Yg J (.tup [V.str "tag",V.str "name"]);refine⟨N,_,rfl,.inr (Z0 Ya),rfl,rfl,_,rfl,Y9 (by decide +kernel) ?_⟩;refine⟨rfl,_,rfl,Y9 (by decide +kernel) ?_⟩;refine⟨rfl,_,rfl,Y9 (by decide +kernel) ?_⟩;refine⟨rfl,_,rfl,V1 (by decide +kernel) ?_⟩;refine⟨3,rfl,p,_,rfl,Z0 (L _ _ M),by simp[HT.sIx],λu Z=>q _ _ (L.trans (Yg Z _)) (Yn (xs:=r3) (by rw[Ya];simp[XN,HT.sIx]) ?_)⟩;exact(U.mono L).mono (Yg Z _)
end
end K4
namespace L2
open PySem
def Bd.at:Bd->List Int->Option Bd
 |b,[]=>some b
 |b,i::r=>if 0<=i then(match b.parts[i.toNat]? with|some c=>Bd.at c r|none=>none)else none
end L2
namespace K4
open PySem L2
end K4
namespace L2
open PySem PySem.Spec PyProof.Rows
section
theorem Pd{Z:kz}(r:Vals (Z.map V.int) G){i:Nat}(e:G[i]?=some v):∃t,v=.int (Z.getD i 0) t:=by
 have M:=(ZE.mp e).1;have l:=r.length;rw[ZA]at l;have J:i<Z.length:=by omega
 obtain⟨u,L,t,rfl⟩:=r.get (show(Z.map V.int)[i]?=some (V.int Z[i]) by rw[ZG,ZC J];rfl);rw[L]at e;cases e;exact⟨t,by rw[zj,ZC J];rfl⟩
theorem Fv(S:X.calm=true):UG X (.builtin "sum") (λO H Q=>∃(p:Addr)(J:kz),O=[.ref p]/\SqL X.K H p (J.map V.int)/\PyProof.Rows.SumFits J/\Q (.int J.sum) H):=by
 intro T s U H O P Q I r h;obtain⟨p,J,rfl,E,N,q⟩:=h;obtain⟨u,rfl,D⟩:=vals1 r;cases D;obtain⟨G,R,L,y⟩:=I.list E
 have B:p<s.heap.objs.size:=by
  obtain⟨o,n,e,_⟩:=L;exact ZN e
 have Z:G.length=J.length:=by
  have:=R.length;rw[ZA]at this;exact this.symm
 refine call_sum_walk (yW L.isList ?_);refine⟨s.heap.objs.size,_,_,G.toArray.size,_,_,λi=>J.getD i 0,rfl,Walks.list (A:=X.A.in1) (I.ok.hd S) _ p (Zc B) G.toArray,?_,?_,?_,?_,?_⟩
 .exact ⟨⟨_,ZW _ rfl,rfl,rfl⟩,L.isList.push _⟩
 .intro b hb
  have e:b=s.heap.objs.size\/b=p:=by simpa using hb
  have M:∀o:Obj,(s.heap.push o).objs.size=s.heap.objs.size+1:=λo=>zR _ _;show b<(s.heap.push _).objs.size;rw[M];rcases e with e|e
  .rw [e];exact yG _
  .rw [e];exact Nat.lt_succ_of_lt B
 .intro i v hv
  exact Pd R (by simpa using hv)
 .intro j hj
  rw[ZM,Z]at hj;rw[preSum_getD];exact N j hj
 .intro h' tk t' hk
  rw[ZM,Z,preSum_getD,zS];refine⟨.int J.sum,H,I.kept λb o e=>hk b o (λF=>?_) (ZD _ e),⟨t',rfl⟩,q⟩;have C:b=s.heap.objs.size:=by simpa using F
  rw[C]at e;exact zJ _ (ZN e)
end
mutual
def Bd.size:Bd->Nat
 |.tag _=>1
 |.name _=>1
 |.pair a b=>1+(a.size+b.size)
 |.one e=>1+e.size
 |.other e=>1+e.size
 |.choose e _ bs=>1+(e.size+Bd.sizes bs)
 |.ask _ as=>1+Bd.sizes as
 |.letb _ _ e b=>1+(e.size+b.size)
def Bd.sizes:List Bd->Nat
 |[]=>0
 |b::bs=>b.size+Bd.sizes bs
end
mutual
def Bd.dep:Bd->Nat
 |.tag _=>0
 |.name _=>0
 |.pair a b=>1+max a.dep b.dep
 |.one e=>1+e.dep
 |.other e=>1+e.dep
 |.choose e _ bs=>1+max e.dep (Bd.deps bs)
 |.ask _ as=>1+Bd.deps as
 |.letb _ _ e b=>1+max e.dep b.dep
def Bd.deps:List Bd->Nat
 |[]=>0
 |b::bs=>max b.dep (Bd.deps bs)
end
theorem Bd.size_eq(b:Bd):b.size=1+Bd.sizes b.parts:=by
 cases b <;> simp[Bd.size,Bd.sizes,Bd.parts]
theorem Bd.deps_mem:∀{Z:List Bd}{b:Bd},b∈Z->b.dep<=Bd.deps Z
 |[],_,h=>nomatch h
 |c::Z,b,h=>by
  unfold Bd.deps;rcases Zb.mp h with rfl|h
  .exact ye _ _
  .exact ZZ (Bd.deps_mem h) (zY _ _)
theorem Bd.dep_mem{b c:Bd}(h:c∈b.parts):c.dep<b.dep:=by
 have Z:=Bd.deps_mem h;cases b <;> simp only[Bd.parts,Bd.deps,Bd.dep,zT]at * <;> first|exact h.elim|omega
theorem Bd.sizes_le:∀{bs:List Bd},(∀b∈bs,b.size<=m)->Bd.sizes bs<=bs.length*m
 |[],_=>by simp[Bd.sizes]
 |b::bs,h=>by
  have G:=h b (by simp);have J:=Bd.sizes_le (m:=m) (bs:=bs) λc Z=>h c (ZK _ Z);unfold Bd.sizes;rw[Zd,yQ];omega
theorem Bd.size_le:∀(n:Nat)(b:Bd),b.dep<=n->b.ok->b.size<=9 ^ n
 |0,b,h,ok=>by
  cases b <;> simp[Bd.dep]at h <;> simp[Bd.size]
 |n+1,b,h,ok=>by
  have G:∀c∈b.parts,c.size<=9 ^ n:=λc Z=>Bd.size_le n c (by have:=Bd.dep_mem Z;omega) (Bd.ok_parts ok c Z);have N:=Bd.sizes_le G;have J:=Bd.few ok;have M:b.parts.length*9 ^ n<=8*9 ^ n:=yF _ J;have L:1<=9 ^ n:=Nat.one_le_pow _ _ (by decide);rw[Bd.size_eq,Nat.pow_succ];omega
end L2
namespace K4
open PySem L2
theorem Fz:bootBuiltins "sum"=some (.builtin "sum"):=by decide +kernel
end K4
namespace L2
open PySem
theorem UH(J:(Z.map (·.1)).Nodup)(h:(y,s)∈Z):VG Z y=some s:=by
 induction Z with
 |nil=>simp at h
 |cons k Z ih=>
  rw[ZT,zO]at J;unfold VG;rw[zK];rcases Zb.mp h with e|e
  .subst e;simp
  .have ne:¬k.1=y:=λq=>J.1 (by rw[q];exact ZU.mpr ⟨_,e,rfl⟩)
   rw[Zw ne];exact ih J.2 e
abbrev Hds:=Str->Option (List (Str×Str)×Str)
inductive Kd(ks:List (Str×Shp))(hd:Hds):List (Key×V)->Str->Bd->Prop
 |tag {g:List (Key×V)}{y t:Str}{ts:List Str}:VG ks y=some (.tags ts)->t∈ts->Kd ks hd g y (.tag t)
 |name {g:List (Key×V)}{y x:Str}:VH g (Sum.inr x)=some (.str y)->Kd ks hd g y (.name x)
 |pair {g:List (Key×V)}{y a b:Str}{A B:Bd}:VG ks y=some (.pair a b)->Kd ks hd g a A->Kd ks hd g b B->Kd ks hd g y (.pair A B)
 |one {g:List (Key×V)}{y z b:Str}{e:Bd}:VG ks z=some (.pair y b)->Kd ks hd g z e->Kd ks hd g y (.one e)
 |other {g:List (Key×V)}{y z a:Str}{e:Bd}:VG ks z=some (.pair a y)->Kd ks hd g z e->Kd ks hd g y (.other e)
 |choose {g:List (Key×V)}{y z:Str}{ts:List Str}{e:Bd}{bs:List Bd}:VG ks z=some (.tags ts)->Kd ks hd g z e->bs.length=ts.length->(∀b∈bs,Kd ks hd g y b)->Kd ks hd g y (.choose e ts bs)
 |ask {g:List (Key×V)}{y f:Str}{ps:List (Str×Str)}{as:List Bd}:hd f=some (ps,y)->as.length=ps.length->(∀(i:Nat)(a:Bd)(p:Str×Str),as[i]?=some a->ps[i]?=some p->Kd ks hd g p.2 a)->Kd ks hd g y (.ask f as)
 |letb {g:List (Key×V)}{y x z:Str}{e b:Bd}:VH g (Sum.inr x)=none->z∈ks.map (·.1)->Kd ks hd (putK g (Sum.inr x) (.str z)) z e->Kd ks hd (putK g (Sum.inr x) (.str z)) y b->Kd ks hd g y (.letb x z e b)
def hdD(ps:List (Str×Str))(k:Str):Dat:=.tup [.tup (ps.map λp=>.tup [.str p.1,.str p.2]),.str k]
theorem Sy(Z:List (Str×Str))(k:Str):(hdD Z k).st=true:=by
 have:∀Z:List (Str×Str),Dat.sts (Z.map λp=>Dat.tup [.str p.1,.str p.2])=true:=by
  intro Z
  induction Z with
  |nil=>unfold List.map Dat.sts;rfl
  |cons p Z ih=>rw[ZT];unfold Dat.sts;rw[ih];simp[Dat.st,Dat.sts]
 simp[hdD,Dat.st,Dat.sts,this]
theorem Ep:∀{Z:List Bd}{J:kq},Dat.sts (Bd.dats Z)=true->Dat.sts (Bd.brs Z J)=true
 |[],_,_=>by unfold Bd.brs Dat.sts;rfl
 |b::Z,[],_=>by unfold Bd.brs Dat.sts;rfl
 |b::Z,t::J,h=>by
  unfold Bd.dats Dat.sts at h;rw[ZX]at h;unfold Bd.brs Dat.sts;rw[Ep h.2];simp[Dat.st,Dat.sts,h.1]
mutual
theorem Bd.st:∀b:Bd,b.dat.st=true
 |.tag t=>by simp[Bd.dat,Dat.st,Dat.sts]
 |.name t=>by simp[Bd.dat,Dat.st,Dat.sts]
 |.pair a b=>by simp[Bd.dat,Dat.st,Dat.sts,Bd.st a,Bd.st b]
 |.one a=>by simp[Bd.dat,Dat.st,Dat.sts,Bd.st a]
 |.other a=>by simp[Bd.dat,Dat.st,Dat.sts,Bd.st a]
 |.choose e G Z=>by simp[Bd.dat,Dat.st,Dat.sts,Bd.st e,Ep (Bd.sts Z)]
 |.ask f J=>by simp[Bd.dat,Dat.st,Dat.sts,Bd.sts J]
 |.letb x k e b=>by simp[Bd.dat,Dat.st,Dat.sts,Bd.st e,Bd.st b]
theorem Bd.sts:∀Z:List Bd,Dat.sts (Bd.dats Z)=true
 |[]=>by unfold Bd.dats Dat.sts;rfl
 |b::Z=>by unfold Bd.dats Dat.sts;rw[Bd.st b,Bd.sts Z];rfl
end
theorem IR{Z:kE}(h:VH Z k=some v):∃J∈Z,J.1=k/\J.2=v:=by
 unfold VH at h
 cases e:Z.find? (λJ=>decide (J.1=k))with
 |none=>rw[e]at h;cases h
 |some J=>
  rw[e]at h;exact⟨J,zw e,by simpa using List.find?_some e,ZP h⟩
theorem VZ:∀Z:kq,HasL H (Z.map V.str) (Z.map Dat.str)
 |[]=>Z4
 |n::Z=>Z2 Yu (VZ Z)
theorem Sg{Z:kq}(h:H a=some (.lst (Z.map V.str))):Has H (.ref a) (.lst (Z.map Dat.str)):=VQ h (VZ Z)
theorem TQ(Z:kq):(Dat.lst (Z.map Dat.str)).dep<=1:=by
 have:∀Z:kq,Dat.deps (Z.map Dat.str)=0:=by
  intro Z
  induction Z with
  |nil=>unfold List.map Dat.deps;rfl
  |cons n Z ih=>rw[ZT];unfold Dat.deps;rw[ih];unfold Dat.dep;rfl
 unfold Dat.dep;rw[this];decide
theorem Kj(Z:kK):(Dat.lst Z).pq (.lst [])=Z.isEmpty:=by
 unfold Dat.pq
 cases Z with
 |nil=>unfold Dat.pqs;rfl
 |cons d Z=>unfold Dat.pqs;rfl
theorem U0(h:H r=some (.tup [.str a,.str b])):Has H (.ref r) (.tup [.str a,.str b]):=Yn h (Z2 Yu (Z2 Yu Z4))
end L2
namespace K4
open PySem L2
section
variable{P:Program}{w:World}{K:W.Frag}{mg:Str->Option Value}{base:Heap}
def Df(P:Program)(w:World)(K:W.Frag)(mg:Str->Option Value)(base:Heap)(n:Nat)(x:Str)(ps:kq)(sp:Sp):Prop:=
 ∃(g:Addr)(Z:FuncData),mg x=some (.ref g)/\W.keepIn K (.ref g)=true/\Binds K Z ps []/\Yk P w K mg base CX0 n g Z ps sp
theorem Yw{X:Cx}(D:Df X.prog X.w X.K X.mg X.base k x T L)(M:Vk k X.A)(R:PA X (e::es) t)(N:Gl X x:=by exact rfl)(J:(x==("__debug__":Str))=false:=by decide)(O:starEach (e::es) X.env=(false,eval e X.env)::starEach es X.env:=by rfl)(Z:(backTo pos (starEach es X.env)).any (·.1)=false:=by rfl):
  PE X (.Call (.Name x p) (e::es) [] pos) (Ic L [] E0 t):=let⟨_,_,m,k,b,G⟩:=D;WP G M N m k b .nil VI R J O Z
theorem Df.up(d:Df P w K mg base n x J Z)(h:n<=m):Df P w K mg base m x J Z:=
 let⟨g,O,N,M,L,G⟩:=d;⟨g,O,N,M,L,G.mono h⟩
end
end K4
namespace L2
open PySem
end L2
namespace K4
open PySem L2
end K4
namespace L2
open PySem
theorem Xp(h:Has H v (.tup [.str a,.str b])):∃t,v=.ref t/\H t=some (.tup [.str a,.str b]):=by
 obtain⟨t,O,rfl,G,L⟩:=Yz h;obtain⟨T,D,rfl,N,J⟩:=Yb L;obtain⟨R,B,rfl,M,Z⟩:=Yb J;obtain rfl:=VD Z;obtain rfl:=has_str N;obtain rfl:=has_str M;exact⟨t,rfl,G⟩
end L2
namespace K4
open PySem L2
end K4
namespace L2
open PySem
theorem Same.putN(s:Same H0 H)(h:H0 p=none):Same H0 (upd H p o):=λb u e=>by
 rw[Yd (Yf e h)];exact s b u e
end L2
namespace K4
open PySem L2
end K4
namespace L2
open PySem PySem.Spec PyProof.Rows
section
theorem Dq:UG X (.type "dict") (λL H Q=>∃a Z,L=[.ref a]/\Rd H a (.dK Z)/\∀l,H l=none->Q (.ref l) (upd H l (.dK Z))):=by
 intro N s U H L A Q I r h;obtain⟨a,Z,rfl,E,q⟩:=h;obtain⟨u,rfl,T⟩:=vals1 r;cases T;obtain⟨O,B,F,M,D⟩:=Gc I.hok E;have J:=M.length;refine kt_call_dict (knd:=VP X.prog X.w) B D (by rw[<-J];exact O) λS G R=>?_;refine⟨.ref s.heap.objs.size,_,I.laid (a:=s.heap.objs.size) (o:=.dK Z) (λb o e=>?_) (ZF _) (Dn O (beq_eq_false_iff_ne.mpr (Zq (Zc I.big))) M G),rfl,q _ (I.hok.fresh (ZF _))⟩;exact(R.2 b (Zc (ZN e))).trans (ZD _ e)
end
end L2
namespace L2
open PySem
theorem Kg{Z:kE}(h:J∈putK Z k v):J∈Z\/J=(k,v):=by
 unfold putK at h
 split at h
 .obtain ⟨q,hq,e⟩:=ZU.mp h
  by_cases z:q.1=k
  .rw [Zn z]at e;exact .inr (by rw[<-e,z])
  .rw [Zo z]at e;exact .inl (by rw[<-e];exact hq)
 .rcases ZV.mp h with h|h
  .exact .inl h
  .exact .inr (ZO.mp h)
theorem NY(Z:kE)(k:Key)(v:V):(putK Z k v).length<=Z.length+1:=by
 unfold putK
 split
 .rw [ZA];omega
 .rw [ZJ];exact ZF _
end L2
namespace K4
open PySem L2
end K4
namespace L2
open PySem
abbrev Hd:=Str×List (Str×Str)×Str
def WdS(y:Str):Prop:=1<=y.length/\y.length<=8/\∀c∈y.cps.toList,97<=c/\c<97+26
def Vy(c:kM)(ps:List (Str×Str)):Nat:=ps.foldl (λr p=>r*c p.2) 1
theorem X0(c:kM)(Z:List (Str×Str))(p:Str×Str):Vy c (Z++[p])=Vy c Z*c p.2:=by unfold Vy;rw[ji];rfl
structure UW(ns:List Str)(c:Str->Nat)(top:Nat)(h:Hd):Prop where
 len:h.2.1.length<=3
 kin:∀p∈h.2.1,p.2∈ns
 own:h.2.2∈ns
 nd:(h.2.1.map (·.1)).Nodup
 spl:∀p∈h.2.1,WdS p.1
 rows:Vy c h.2.1<=top
theorem Uz{Z:kE}(h:k∉Z.map (·.1)):VH Z k=none:=by
 unfold VH
 rw[vk.mpr (λJ G=>by
  intro z;exact h (ZU.mpr ⟨J,G,Zr z⟩))]
 rfl
theorem Ws{Z:kq}(J:Z.Nodup)(h:Z[i]?=some y):y∉Z.take i:=by
 have e:=take_snoc h;have s:(Z.take i++[y]).Nodup:=by rw[<-e];exact J.sublist (zU _ _)
 exact λz=>(yP.mp s).2.2 y z y (ZO.mpr rfl) rfl
theorem WE{Z:kq}{m:Nat}(h:(Z.map V.str)[m]?=some v):∃y,Z[m]?=some y/\v=.str y:=by
 rw[ZG]at h
 cases e:Z[m]? with
 |none=>rw[e]at h;cases h
 |some y=>rw[e]at h;exact⟨y,rfl,(ZP h).symm⟩
theorem Wds.wdS(w:Wds 97 Z)(h:y∈Z):WdS y:=⟨(w.len y h).1,(w.len y h).2,w.abc y h⟩
end L2
namespace K4
open PySem L2
end K4
namespace L2
open PySem
theorem B3:∀{G:List (Str×Str)}{Z:kF},HasL H Z (G.map λp=>.tup [.str p.1,.str p.2])->∃(J:kA),Z=J.map V.ref/\E3 K H J (G.map λp=>((Sum.inr p.1:Key),V.str p.2))
 |[],Z,h=>by
  obtain rfl:=VD h;exact⟨[],rfl,rfl,λi a k y e=>by simp at e⟩
 |q::G,Z,h=>by
  rw[ZT]at h;obtain⟨x,r,rfl,E,D⟩:=Yb h;obtain⟨t,rfl,B⟩:=Xp E;obtain⟨J,rfl,T,R⟩:=B3 (K:=K) D;refine⟨t::J,rfl,by simp[T],λi b k y O N=>?_⟩
  cases i with
  |zero=>
   have M:some t=some b:=O;have L:some ((Sum.inr q.1:Key),V.str q.2)=some (k,y):=N;cases M;cases L;exact Z0 B
  |succ i=>exact R i b k y O N
abbrev Dd:=Hd×Bd
def N5(x:Dd):Dat:=.tup [.str x.1.1,.tup (x.1.2.1.map λp=>.tup [.str p.1,.str p.2]),.str x.1.2.2,x.2.dat]
def kvP(ps:List (Str×Str)):kE:=ps.map λp=>((Sum.inr p.1:Key),V.str p.2)
def Y2(hs:List Hd):Hds:=λf=>(hs.find? λh=>decide (h.1=f)).map (·.2)
theorem Gx(J:List (Str×Str)):Dat.sts (J.map λp=>Dat.tup [.str p.1,.str p.2])=true:=by
 have:=Sy J "";unfold hdD Dat.st Dat.sts at this;rw[ZX]at this;have Z:=this.1;unfold Dat.st at Z;exact Z
theorem Ps(x:Dd):(N5 x).st=true:=by
 unfold N5;simp[Dat.st,Dat.sts,Gx,Bd.st]
theorem Xe(J:(Z.map (·.1)).Nodup)(m:h∈Z):Y2 Z h.1=some h.2:=by
 induction Z with
 |nil=>exact nomatch m
 |cons g Z ih=>
  rw[ZT,zO]at J;unfold Y2;rw[zK];rcases Zb.mp m with e|e
  .subst e;simp
  .have ne:¬g.1=h.1:=λq=>J.1 (by rw[q];exact ZU.mpr ⟨_,e,rfl⟩)
   rw[Zw ne];exact ih J.2 e
theorem Gk:∀{Z:kE},(Z.map (·.1)).Nodup->∀{kv:Key×V},kv∈Z->VH Z kv.1=some kv.2
 |[],_,kv,m=>nomatch m
 |g::Z,nd,kv,m=>by
  rw[ZT,zO]at nd;unfold VH;rw[zK];rcases Zb.mp m with e|e
  .subst e;simp
  .have ne:¬g.1=kv.1:=λq=>nd.1 (by rw[q];exact ZU.mpr ⟨_,e,rfl⟩)
   rw[Zw ne];exact Gk nd.2 e
end L2
namespace K4
open PySem L2
section
theorem F0:bootBuiltins "min"=some (.builtin "min"):=by decide +kernel
end
end K4
namespace L2
open PySem
def Kr(ks:kL)(hd:Hds)(kv:kE)(y:Str):Bd->List Str->Prop
 |.tag t,zs=>zs=[]/\∃ts,VG ks y=some (.tags ts)/\t∈ts
 |.name x,zs=>zs=[]/\VH kv (Sum.inr x)=some (.str y)
 |.pair _ _,zs=>∃a b,zs=[a,b]/\VG ks y=some (.pair a b)
 |.one _,zs=>∃z b,zs=[z]/\VG ks z=some (.pair y b)
 |.other _,zs=>∃z a,zs=[z]/\VG ks z=some (.pair a y)
 |.choose _ ts bs,zs=>∃z,zs=z::List.replicate bs.length y/\VG ks z=some (.tags ts)/\bs.length=ts.length
 |.ask f _,zs=>∃ps:List (Str×Str),hd f=some (ps,y)/\zs=ps.map (·.2)
 |.letb x z _ _,zs=>zs=[z,y]/\VH kv (Sum.inr x)=none/\z∈ks.map (·.1)
def wth(kv:kE):Bd->List (Key×V)
 |.letb x z _ _=>putK kv (Sum.inr x) (.str z)
 |_=>kv
theorem Kd.inv(h:Kd T B R y b):
  ∃N,Kr T B R y b N/\N.length=b.parts.length/\∀(i:Nat)(p:Bd)(z:Str),b.parts[i]?=some p->N[i]?=some z->Kd T B (wth R b) z p:=by
 cases h with
 |tag G L=>exact⟨[],⟨rfl,_,G,L⟩,rfl,λi p z e=>nomatch e⟩
 |name G=>exact⟨[],⟨rfl,G⟩,rfl,λi p z e=>nomatch e⟩
 |pair G L M=>
  refine⟨_,⟨_,_,rfl,G⟩,rfl,λi p z J Z=>?_⟩;rcases i with _|_|i
  .cases J;cases Z;exact L
  .cases J;cases Z;exact M
  .exact nomatch J
 |one G L=>
  refine⟨_,⟨_,_,rfl,G⟩,rfl,λi p z J Z=>?_⟩;rcases i with _|i
  .cases J;cases Z;exact L
  .exact nomatch J
 |other G L=>
  refine⟨_,⟨_,_,rfl,G⟩,rfl,λi p z J Z=>?_⟩;rcases i with _|i
  .cases J;cases Z;exact L
  .exact nomatch J
 | @choose _ _ I S e D G L M O=>
  refine⟨_,⟨_,rfl,G,M⟩,by simp[Bd.parts],λi p z J Z=>?_⟩;rcases i with _|i
  .cases J;cases Z;exact L
  .have m:=ZH (show D[i]?=some p from J)
   have A:(List.replicate D.length y)[i]?=some z:=Z;have F:=ZH A;cases List.eq_of_mem_replicate F;exact O p m
 | @ask _ _ f E U G L M=>
  refine⟨_,⟨_,G,rfl⟩,by rw[ZA];exact L.symm,λi p z J Z=>?_⟩;rw[ZG]at Z
  cases ep:E[i]? with
  |none=>rw[ep]at Z;cases Z
  |some q=>
   rw[ep]at Z;cases Z;exact M i p q J ep
 |letb G L M O=>
  refine⟨_,⟨rfl,G,L⟩,rfl,λi p z J Z=>?_⟩;rcases i with _|_|i
  .cases J;cases Z;exact M
  .cases J;cases Z;exact O
  .exact nomatch J
end L2
namespace L2
open PySem
end L2
namespace K4
open PySem L2
section
def Gm:Sp:=λJ H Q _=>∃(x:Str)(o:Nat),J=[.str x,.str (alpha o)]/\(o=97\/o=65)/\1<=x.length/\x.length<=8/\(∀c∈x.cps.toList,o<=c/\c<o+26)/\∀Z,Same H Z->Q (.bl true) Z
theorem OS:Yo ["text","letters"] ["text","letters"] (Yc Bg):=Y3
theorem A0:List.Nodup [("sign":Str),"letters"]:=by decide +kernel
theorem Ku(B:Blt M)(F:Fun K "is_spelt" "is_spelt" Bg f y)(X:M "LONGEST"=some u)(N:RelV (.int 8) u):Yk P w K M base CX0 (n+1) f y ["text","letters"] Gm:=by
 refine F.oq OS λk A G s H Z Q E b h=>?_;obtain⟨x,o,rfl,I,l,r,U,q⟩:=h;refine⟨_,YW (Y5 (Ja (JZ (Mt rfl B.isi rfl B.str Ru (pv 0)))) (YY (Yt GU)) Yv)
  (YY (Yt (Tq (Kn GX GX YX (Yr XH rfl B.len Zs (pa1 (pv 0))) (JL rfl X N))
   (To (Yr (WY rfl) rfl B.all Xu (pa1 (Vh ["sign"] [1] (SG (pv 0)) (VR (i:=0) (by decide))
    (λg C j s H=>YZ 0 A0 rfl (Or.inl rfl) (Or.inr rfl)) (λg C j s H=>XA FN (pv 0) (pv 1) rfl)))))))),?_⟩
 refine⟨_,_,_,_,rfl,.str x,Tz K "str",_,rfl,?_⟩;refine Y9 (by simp) ?_;have T:x.length<=sizeLine:=Zf (Yp (by omega));refine⟨x,rfl,T,_,rfl,?_⟩;refine V1 (by simp;omega) ?_;refine⟨_,rfl,?_⟩;refine V1 (by simp;omega) ?_;refine⟨x,rfl,?_⟩;have d:x.cps.size=x.length:=rfl;refine JG x.length (Yp (by omega)) (λi Z J=>Same H J/\Z=List.replicate i (V.bl true)) ⟨Z6 _,rfl⟩ (λi Z J z=>by rw[z.2];simp) ?_ ?_ ?_ ?_
 .intro i Z J hi z
  exact hi
 .intro Z J z
  exact ZF _
 .intro i Z J v H'' R hi z yl hR
  obtain⟨rfl,c,L,rfl⟩:=yl;refine⟨_,_,rfl,rfl,?_⟩
  have S:c∈x.cps.toList:=by
   have:=Array.mem_of_getElem? L;exact Array.mem_toList_iff.mpr this
  obtain⟨D,O,m⟩:=SW I (U c S);have t:Builtin.Str.occurrences (alpha o) ⟨#[c]⟩ 0 (alpha o).length 1=D::O:=m;rw[t];exact hR _ _ ⟨z.1,by rw[z.2,List.replicate_succ'];rfl⟩
 .intro Z J p z hp
  refine⟨p,List.replicate x.length true,rfl,Z1 (by rw[Ya,z.2,List.map_replicate]),?_⟩;rw[show(List.replicate x.length true).all id=true by simp];exact q _ (z.1.trans (Yg hp _))
def Uh(o:Nat):Sp:=λJ H Q _=>∃(x:Str),J=[.str x]/\1<=x.length/\x.length<=8/\(∀c∈x.cps.toList,o<=c/\c<o+26)/\∀Z,Same H Z->Q (.bl true) Z
theorem KJ:Yo ["text"] ["text"] (Yc Mf):=Y3
theorem FX(F:Fun K "is_name" "is_name" Mf f S)(G:Yk P w K J base CX0 n g I ["text","letters"] Gm)(C:Binds K I ["text","letters"] [])(R:W.keepIn K (.ref g)=true)(M:J "is_spelt"=some (.ref g))(D:J "SMALL"=some u)(L:RelV (.str (Str.ofString "abcdefghijklmnopqrstuvwxyz")) u):Yk P w K J base CX0 (n+1) f S ["text"] (Uh 97):=by
 refine F.oq KJ λU A Z s H X Q E T h=>?_;obtain⟨x,rfl,O,N,B,q⟩:=h;refine⟨_,YY (Yt (WP G T rfl M R C .nil VI (pa2 (pv 0) (JL rfl D L)))),?_⟩;refine⟨x,97,?_,.inl rfl,O,N,B,q⟩;rw[<-Wh];rfl
theorem OZ:Yo ["text"] ["text"] (Yc Bs):=Y3
theorem K3(F:Fun K "is_tag" "is_tag" Bs f S)(G:Yk P w K J base CX0 n g I ["text","letters"] Gm)(C:Binds K I ["text","letters"] [])(R:W.keepIn K (.ref g)=true)(M:J "is_spelt"=some (.ref g))(D:J "GREAT"=some u)(L:RelV (.str (Str.ofString "ABCDEFGHIJKLMNOPQRSTUVWXYZ")) u):Yk P w K J base CX0 (n+1) f S ["text"] (Uh 65):=by
 refine F.oq OZ λU A Z s H X Q E T h=>?_;obtain⟨x,rfl,O,N,B,q⟩:=h;refine⟨_,YY (Yt (WP G T rfl M R C .nil VI (pa2 (pv 0) (JL rfl D L)))),?_⟩;refine⟨x,65,?_,.inr rfl,O,N,B,q⟩;rw[<-W1];rfl
end
end K4
namespace L2
open PySem
def X6(ks:kL):Nat->Str->Nat
 |0,_=>0
 |n+1,y=>match VG ks y with
  |none=>0
  |some (.tags _)=>1
  |some (.pair a b)=>1+X6 ks n a+X6 ks n b
def Je(t:Str):Shp->Bool
 |.tags ts=>decide (t∈ts)
 |.pair _ _=>false
def JI(a b:Str):Shp->Bool
 |.tags _=>false
 |.pair c e=>decide (c=a) && decide (e=b)
def JB(ks:kL)(t:Str):Option Str:=(ks.find? λk=>Je t k.2).map (·.1)
def V0(ks:kL)(a b:Str):Option Str:=(ks.find? λk=>JI a b k.2).map (·.1)
theorem Xr{α:Type}(p:α->Bool)(l:List α)(x:α):(l++[x]).find? p=(l.find? p).or (if p x=true then some x else none):=by
 rw[List.find?_append]
 congr 1
 rw[zK];cases p x <;> simp
theorem Wj(h:z∈Z.map (·.1)):VG (Z++[x]) z=VG Z z:=by
 obtain⟨s,J⟩:=JJ h;unfold VG at J |-;rw[Xr]
 cases e:Z.find? λk=>decide (k.1=z)with
 |none=>rw[e]at J;cases J
 |some k=>rfl
theorem FC(h:z∉Z.map (·.1)):VG Z z=none:=by
 cases e:VG Z z with
 |none=>rfl
 |some s=>exact Zp (ZU.mpr ⟨_,Jo e,rfl⟩) h
theorem TZ(h:z∉Z.map (·.1)):VG (Z++[(z,s)]) z=some s:=by
 have q:=FC h;unfold VG at q |-;rw[Xr]
 cases e:Z.find? λk=>decide (k.1=z)with
 |none=>simp
 |some k=>rw[e]at q;cases q
theorem J6(h:KK top c d Z)(x:Str×Shp):∀(n:Nat)(z:Str),z∈Z.map (·.1)->VB (Z++[x]) n z=VB Z n z
 |0,_,_=>rfl
 |n+1,z,hz=>by
  obtain⟨s,J⟩:=JJ hz;rw[Wb J,Wb ((Wj hz).trans J)]
  cases s with
  |tags M=>rfl
  |pair a b=>
   obtain⟨L,G,_⟩:=h.at J;show(W.non::_)=(W.non::_);rw[J6 h x n a L,J6 h x n b G]
def hOf(ks:kL)(n:Nat):Shp->Nat
 |.tags _=>1
 |.pair a b=>1+X6 ks n a+X6 ks n b
theorem WU(h:VG Z y=some s):X6 Z (n+1) y=hOf Z n s:=by
 conv=>lhs;unfold X6
 rw[h];cases s <;> rfl
theorem Us(h:KK top c d Z)(x:Str×Shp):∀(n:Nat)(z:Str),z∈Z.map (·.1)->X6 (Z++[x]) n z=X6 Z n z
 |0,_,_=>rfl
 |n+1,z,hz=>by
  obtain⟨s,J⟩:=JJ hz;rw[WU J,WU ((Wj hz).trans J)]
  cases s with
  |tags M=>rfl
  |pair a b=>
   obtain⟨L,G,_⟩:=h.at J;show 1+_+_=1+_+_;rw[Us h x n a L,Us h x n b G]
theorem Xo(h:KK top c d Z):∀(n m:Nat)(y:Str),y∈Z.map (·.1)->d y<n->d y<m->X6 Z n y=X6 Z m y
 |0,_,_,_,h1,_=>Zp h1 (Zu _)
 |_+1,0,_,_,_,h2=>Zp h2 (Zu _)
 |n+1,m+1,y,hy,h1,h2=>by
  obtain⟨s,J⟩:=JJ hy;have M:=h.at J;rw[WU J,WU J]
  cases s with
  |tags N=>rfl
  |pair a b=>
   obtain⟨L,G,B,T,R,O⟩:=M;have E:=ye (d a) (d b);have D:=zY (d a) (d b);show 1+_+_=1+_+_;rw[Xo h n m a L (by omega) (by omega),Xo h n m b G (by omega) (by omega)]
structure KA6 where
 t:Addr
 dx:Addr
 sh:Addr
 wo:Addr
 he:Addr
 pd:Addr
 tk:Addr
 pk:Addr
structure KC where
 sh:List (Key×V)
 wo:List (Key×V)
 he:List (Key×V)
 pd:List (Key×V)
 tk:List (Key×V)
 pk:List (List Key×V)
def Gh(A:KA6):List (Str×V):=[("shapes",.ref A.sh),("worths",.ref A.wo),("heights",.ref A.he),("pairs_deep",.ref A.pd),("tag_kinds",.ref A.tk),("pair_kinds",.ref A.pk)]
def KA6.ds(A:KA6):kA:=[A.sh,A.wo,A.he,A.pd,A.tk,A.pk]
structure KD(H:Hp)(C:Addr)(A:KA6)(S:KC):Prop where
 ins:H A.t=some (.ins C A.dx (Gh A))
 sh:H A.sh=some (.dK S.sh)
 wo:H A.wo=some (.dK S.wo)
 he:H A.he=some (.dK S.he)
 pd:H A.pd=some (.dK S.pd)
 tk:H A.tk=some (.dK S.tk)
 pk:H A.pk=some (.dT S.pk)
 nd:A.ds.Nodup
structure KR(H:Hp)(S:KC)(ks:List (Str×Shp))(d:Str->Nat):Prop where
 ke:S.sh.map (·.1)=ks.map (λk=>Sum.inr k.1)
 sh:∀y s,VG ks y=some s->∃v,VH S.sh (Sum.inr y)=some v/\Has H v s.dat
 wo:∀y∈ks.map (·.1),∃l xs,VH S.wo (Sum.inr y)=some (.ref l)/\H l=some (.lst xs)/\HasL H xs ((VB ks 3 y).map W.dat)
 he:∀y∈ks.map (·.1),VH S.he (Sum.inr y)=some (.int (X6 ks 3 y:Nat))
 pd:∀y∈ks.map (·.1),VH S.pd (Sum.inr y)=some (.int (d y:Nat))
 tk:∀x:Str,VH S.tk (Sum.inr x)=(JB ks x).map V.str
 pk:∀a b:Str,VH S.pk [Sum.inr a,Sum.inr b]=(V0 ks a b).map V.str
 ln:S.sh.length<=4*ks.length/\S.wo.length<=4*ks.length/\S.he.length<=4*ks.length/\S.pd.length<=4*ks.length/\S.tk.length<=4*ks.length/\S.pk.length<=4*ks.length
def KI(H:Hp)(C t:Addr)(ks:kL)(d:kM):Prop:=∃A S,A.t=t/\KD H C A S/\KR H S ks d
theorem KD.mono(k:KD H C A S)(e:Same H Z):KD Z C A S:=⟨e _ _ k.ins,e _ _ k.sh,e _ _ k.wo,e _ _ k.he,e _ _ k.pd,e _ _ k.tk,e _ _ k.pk,k.nd⟩
def TL(H H':Hp):Prop:=(∀b Z,H b=some (.tup Z)->H' b=some (.tup Z))/\∀b Z,H b=some (.lst Z)->H' b=some (.lst Z)
theorem Same.tl(e:Same H J):TL H J:=⟨λb Z h=>e _ _ h,λb Z h=>e _ _ h⟩
theorem TL.trans(a:TL H G)(b:TL G J):TL H J:=⟨λc Z h=>b.1 _ _ (a.1 _ _ h),λc Z h=>b.2 _ _ (a.2 _ _ h)⟩
mutual
theorem Has.tl{H M:Hp}(e:TL H M):∀(d:Dat){v:V},Has H v d->Has M v d
 |.non,_,h=>by unfold Has at h |-;exact h
 |.bl _,_,h=>by unfold Has at h |-;exact h
 |.int _,_,h=>by unfold Has at h |-;exact h
 |.str _,_,h=>by unfold Has at h |-;exact h
 |.tup ds,_,h=>by
  unfold Has at h |-;obtain⟨a,Z,L,G,J⟩:=h;exact⟨a,Z,L,e.1 _ _ G,HasL.tl e ds J⟩
 |.lst ds,_,h=>by
  unfold Has at h |-;obtain⟨a,Z,L,G,J⟩:=h;exact⟨a,Z,L,e.2 _ _ G,HasL.tl e ds J⟩
theorem HasL.tl{H G:Hp}(e:TL H G):∀(Z:kK){J:kF},HasL H J Z->HasL G J Z
 |[],[],h=>by unfold HasL;trivial
 |[],_::_,h=>by unfold HasL at h;exact h.elim
 |_::_,[],h=>by unfold HasL at h;exact h.elim
 |d::Z,x::J,h=>by
  unfold HasL at h |-;exact⟨Has.tl e d h.1,HasL.tl e Z h.2⟩
end
theorem KR.tl(k:KR H S L d)(e:TL H N):KR N S L d:=
 ⟨k.ke,λy s h=>let⟨v,J,Z⟩:=k.sh y s h;⟨v,J,Has.tl e _ Z⟩,λy h=>let⟨l,G,J,Z,M⟩:=k.wo y h;⟨l,G,J,e.2 _ _ Z,HasL.tl e _ M⟩,k.he,k.pd,k.tk,k.pk,k.ln⟩
theorem KI.mono(k:KI H C t Z d)(e:Same H M):KI M C t Z d:=by
 obtain⟨A,S,L,G,J⟩:=k;exact⟨A,S,L,G.mono e,J.tl e.tl⟩
theorem UA(x:Str)(Z:kq):inV (.str x) (Z.map V.str)=decide (x∈Z):=by
 induction Z with
 |nil=>rfl
 |cons t Z ih=>
  have e:inV (.str x) ((t::Z).map V.str)=((t==x) || inV (.str x) (Z.map V.str)):=rfl;rw[e,ih]
  by_cases h:t=x
  .subst h;simp
  .have h':¬x=t:=λq=>h q.symm
   simp[h,h']
theorem Jm(Z:kq):(Z.map V.str).all WW=true:=by
 induction Z with
 |nil=>rfl
 |cons t Z ih=>simp only[ZT,vZ,ih];rfl
structure KCl(K:W.Frag)(C:Addr):Prop where
 cl:Cls K C
 sh:JD K C "shapes"
 wo:JD K C "worths"
 he:JD K C "heights"
 pd:JD K C "pairs_deep"
 tk:JD K C "tag_kinds"
 pk:JD K C "pair_kinds"
theorem Dl(A:KA6):(Gh A).lookup ("shapes":Str)=some (V.ref A.sh):=rfl
theorem Lm(A:KA6):(Gh A).lookup ("worths":Str)=some (V.ref A.wo):=rfl
theorem Pp(A:KA6):(Gh A).lookup ("heights":Str)=some (V.ref A.he):=rfl
theorem Po(A:KA6):(Gh A).lookup ("pairs_deep":Str)=some (V.ref A.pd):=rfl
theorem S7(A:KA6):(Gh A).lookup ("tag_kinds":Str)=some (V.ref A.tk):=rfl
theorem S8(A:KA6):(Gh A).lookup ("pair_kinds":Str)=some (V.ref A.pk):=rfl
theorem FB(k:KD H C A S)(r:KR H S Z d)(h:VG Z y=some s):∃v,Vx H A.sh (.str y) (some v)/\Has H v s.dat:=by
 obtain⟨v,G,J⟩:=r.sh y s h;exact⟨v,by rw[<-G];exact Vx.k (k:=Sum.inr y) k.sh,J⟩
end L2
namespace K4
open PySem L2
section
variable{f g C:Addr}
def U4(C:Addr):Sp:=λG H Q _=>∃(t:Addr)(J:kL)(d:kM),G=[.ref t]/\KI H C t J d/\∀l Z,Same H Z->H l=none->Z l=some (.lst (J.map λk=>V.str k.1))->Q (.ref l) Z
theorem OU:Yo ["self"] ["self"] (Yc Bm):=Y3
theorem Kx(B:Blt L)(T:KCl K C)(F:Fun K "names" "Kinds.names" Bm f O):Yk P w K L base CX0 (n+1) f O ["self"] (U4 C):=by
 refine F.oq OU λR A Z s H D Q E U h=>?_;obtain⟨t,I,d,rfl,⟨X,S,rfl,J,N⟩,q⟩:=h;refine⟨_,YY (Yt (VA (UU rfl) rfl B.list Vw (pa1 (Y8 (pv 0) rfl)))),?_⟩;refine⟨C,_,_,_,J.ins,T.cl,T.sh,Dl _,_,_,rfl,J.sh,λl G=>?_⟩;refine q l _ (Yg G _) G ?_;rw[Ya];have e:(S.sh.map λM=>kV M.1)=(S.sh.map (·.1)).map kV:=by rw[za];rfl
 rw[e,N.ke,za]
 rfl
def Jy(C:Addr):Sp:=λJ H Q _=>∃(t:Addr)(Z:kL)(d:kM)(y:Str)(s:Shp),J=[.ref t,.str y]/\KI H C t Z d/\VG Z y=some s/\∀v,Has H v s.dat->Q v H
theorem FE:Yo ["self","kind"] ["self","kind"] (Yc Tc):=Y3
theorem B9(T:KCl K C)(F:Fun K "shape_of" "Kinds.shape_of" Tc f B):Yk P w K U base CX0 (n+1) f B ["self","kind"] (Jy C):=by
 refine F.oq FE λD A Z s H I Q E N h=>?_;obtain⟨t,X,d,y,s,rfl,⟨j,S,rfl,J,G⟩,M,q⟩:=h;have L:=Jl N;obtain⟨v,R,O⟩:=FB J G M;refine⟨_,YY (Yt (JM L (Y8 (pv 0) rfl) (pv 1) (λ_ _=>rfl))),?_⟩;exact⟨C,_,_,_,J.ins,T.cl,T.sh,Dl _,v,R,q v O⟩
def TV(C:Addr):Sp:=λJ H Q _=>∃(t:Addr)(Z:kL)(d:kM)(x:Str),J=[.ref t,.str x]/\KI H C t Z d/\Q (((JB Z x).map V.str).getD .non) H
theorem KH:Yo ["self","tag"] ["self","tag"] (Yc Me):=Y3
theorem FW(T:KCl K C)(F:Fun K "kind_of_tag" "Kinds.kind_of_tag" Me f N):Yk P w K B base CX0 (n+1) f N ["self","tag"] (TV C):=by
 refine F.oq KH λO A Z s H R Q E M h=>?_;obtain⟨t,D,d,x,rfl,⟨I,S,rfl,J,G⟩,q⟩:=h;have L:=Jl M;refine⟨_,YY (Yt (Tp L (Y8 (pv 0) rfl) (pv 1) ⟨rfl,rfl,rfl,rfl⟩)),?_⟩;exact⟨C,_,_,_,J.ins,T.cl,T.tk,S7 _,.inl ⟨_,.inl J.tk⟩,_,by rw[<-G.tk x];exact Vx.k (k:=Sum.inr x) J.tk,q⟩
def Wg(C:Addr):Sp:=λG H Q _=>∃(t:Addr)(Z:kL)(d:kM)(a b:Str),G=[.ref t,.str a,.str b]/\KI H C t Z d/\∀J,Same H J->Q (((V0 Z a b).map V.str).getD .non) J
theorem FH:Yo ["self","one","other"] ["self","one","other"] (Yc Tg):=Y3
theorem DJ(T:KCl K C)(F:Fun K "kind_of_pair" "Kinds.kind_of_pair" Tg f R):Yk P w K I base CX0 (n+1) f R ["self","one","other"] (Wg C):=by
 refine F.oq FH λB A Z s H D Q E N h=>?_;obtain⟨t,U,d,a,b,rfl,⟨X,S,rfl,J,L⟩,q⟩:=h;have M:=Jl N;refine⟨_,YY (Yt (Tp M (Y8 (pv 0) rfl) (Yx (pa2 (pv 1) (pv 2))) ⟨rfl,rfl,rfl,rfl⟩)),?_⟩;refine⟨C,_,_,_,J.ins,T.cl,T.pk,S8 _,.inr ⟨_,.inl J.pk⟩,sl 2,λp O=>?_⟩;have G:=Yg O (.tup [.str a,.str b]);exact⟨_,by rw[<-L.pk a b];exact Vx.t (k:=[Sum.inr a,Sum.inr b]) (G _ _ J.pk) Ya,q _ G⟩
def UK(C:Addr):Sp:=λL H Q _=>∃(t:Addr)(J:kL)(d:kM)(y:Str),L=[.ref t,.str y]/\KI H C t J d/\y∈J.map (·.1)/\
 ∀l G Z,Same H Z->H l=none->Z l=some (.lst G)->HasL Z G ((VB J 3 y).map W.dat)->Q (.ref l) Z
theorem Bc:Yo ["self","kind"] ["self","kind"] (Yc Wn):=Y3
theorem Nd(B:Blt N)(T:KCl K C)(F:Fun K "worths_of" "Kinds.worths_of" Wn f z):Yk P w K N base CX0 (n+1) f z ["self","kind"] (UK C):=by
 refine F.oq Bc λm A G s H p Q E I h=>?_;obtain⟨t,c,d,y,rfl,⟨u,S,rfl,M,O⟩,R,q⟩:=h;have D:=Jl I;obtain⟨l,J,j,X,U⟩:=O.wo y R;refine⟨_,YY (Yt (VA V3 rfl B.list Vw (pa1 (JM D (Y8 (pv 0) rfl) (pv 1) (λ_ _=>rfl))))),?_⟩;refine⟨C,_,_,_,M.ins,T.cl,T.wo,Lm _,_,by rw[<-j];exact Vx.k (k:=Sum.inr y) M.wo,l,J,rfl,.inl (Z1 X),λr Z=>?_⟩;have L:=Yg Z (.lst J);exact q r J _ L Z Ya (U.mono L)
end
end K4
namespace L2
open PySem
def KFr(A:KA6)(H H':Hp):Prop:=∀b o,b∉A.ds->H b=some o->H' b=some o
theorem KFr.refl(A:KA6)(H:Hp):KFr A H H:=λ_ _ _ h=>h
theorem KFr.trans(a:KFr A H G)(b:KFr A G J):KFr A H J:=λc o Z h=>b c o Z (a c o Z h)
theorem Same.kfr(e:Same H Z):KFr A H Z:=λb o _ h=>e b o h
theorem KFr.put(a:KFr A H L)(G:x∈A.ds)(o:HO):KFr A H (upd L x o):=λb u Z h=>by
 have J:b≠x:=λz=>by rw[z]at Z;exact Z G
 rw[Yd J];exact a b u Z h
theorem KFr.tl(a:KFr A H O)(k:KD H C A S):TL H O:=by
 have G:∀b u,H b=some u->(∀l,u≠.dK l)->(∀l,u≠.dT l)->b∉A.ds:=λb u Z J N L=>by
  simp only[KA6.ds,Zb,yp,or_false]at L;rcases L with z|z|z|z|z|z
  .rw [z,k.sh]at Z;exact J _ (ZP Z).symm
  .rw [z,k.wo]at Z;exact J _ (ZP Z).symm
  .rw [z,k.he]at Z;exact J _ (ZP Z).symm
  .rw [z,k.pd]at Z;exact J _ (ZP Z).symm
  .rw [z,k.tk]at Z;exact J _ (ZP Z).symm
  .rw [z,k.pk]at Z;exact N _ (ZP Z).symm
 exact⟨λb M h=>a b _ (G b _ h (λl=>by intro z;cases z) (λl=>by intro z;cases z)) h,λb M h=>a b _ (G b _ h (λl=>by intro z;cases z) (λl=>by intro z;cases z)) h⟩
theorem KA6.apart{A:KA6}(n:A.ds.Nodup):(A.sh≠A.wo/\A.sh≠A.he/\A.sh≠A.pd/\A.sh≠A.tk/\A.sh≠A.pk)/\(A.wo≠A.he/\A.wo≠A.pd/\A.wo≠A.tk/\A.wo≠A.pk)/\(A.he≠A.pd/\A.he≠A.tk/\A.he≠A.pk)/\(A.pd≠A.tk/\A.pd≠A.pk)/\A.tk≠A.pk:=by
 simpa[KA6.ds]using n
section
theorem KD.put_sh(k:KD H C A S)(l:kE):KD (upd H A.sh (.dK l)) C A {S with sh:=l}:=by
 obtain⟨⟨M,L,G,J,Z⟩,_⟩:=KA6.apart k.nd;exact⟨(Yd (JR k.ins k.sh (by intro z;cases z))).trans k.ins,Ya,(Yd M.symm).trans k.wo,(Yd L.symm).trans k.he,(Yd G.symm).trans k.pd,(Yd J.symm).trans k.tk,(Yd Z.symm).trans k.pk,k.nd⟩
theorem KD.put_wo(k:KD H C A S)(l:kE):KD (upd H A.wo (.dK l)) C A {S with wo:=l}:=by
 obtain⟨⟨M,_⟩,⟨L,G,J,Z⟩,_⟩:=KA6.apart k.nd;exact⟨(Yd (JR k.ins k.wo (by intro z;cases z))).trans k.ins,(Yd M).trans k.sh,Ya,(Yd L.symm).trans k.he,(Yd G.symm).trans k.pd,(Yd J.symm).trans k.tk,(Yd Z.symm).trans k.pk,k.nd⟩
theorem KD.put_he(k:KD H C A S)(l:kE):KD (upd H A.he (.dK l)) C A {S with he:=l}:=by
 obtain⟨⟨_,M,_⟩,⟨L,_⟩,⟨G,J,Z⟩,_⟩:=KA6.apart k.nd;exact⟨(Yd (JR k.ins k.he (by intro z;cases z))).trans k.ins,(Yd M).trans k.sh,(Yd L).trans k.wo,Ya,(Yd G.symm).trans k.pd,(Yd J.symm).trans k.tk,(Yd Z.symm).trans k.pk,k.nd⟩
theorem KD.put_pd(k:KD H C A S)(l:kE):KD (upd H A.pd (.dK l)) C A {S with pd:=l}:=by
 obtain⟨⟨_,_,M,_⟩,⟨_,L,_⟩,⟨G,_⟩,⟨J,Z⟩,_⟩:=KA6.apart k.nd;exact⟨(Yd (JR k.ins k.pd (by intro z;cases z))).trans k.ins,(Yd M).trans k.sh,(Yd L).trans k.wo,(Yd G).trans k.he,Ya,(Yd J.symm).trans k.tk,(Yd Z.symm).trans k.pk,k.nd⟩
theorem KD.put_tk(k:KD H C A S)(l:kE):KD (upd H A.tk (.dK l)) C A {S with tk:=l}:=by
 obtain⟨⟨_,_,_,M,_⟩,⟨_,_,L,_⟩,⟨_,G,_⟩,⟨J,_⟩,Z⟩:=KA6.apart k.nd;exact⟨(Yd (JR k.ins k.tk (by intro z;cases z))).trans k.ins,(Yd M).trans k.sh,(Yd L).trans k.wo,(Yd G).trans k.he,(Yd J).trans k.pd,Ya,(Yd Z.symm).trans k.pk,k.nd⟩
theorem KD.put_pk(k:KD H C A S)(l:List (List Key×V)):KD (upd H A.pk (.dT l)) C A {S with pk:=l}:=by
 obtain⟨⟨_,_,_,_,M⟩,⟨_,_,_,L⟩,⟨_,_,G⟩,⟨_,J⟩,Z⟩:=KA6.apart k.nd;exact⟨(Yd (JR k.ins k.pk (by intro z;cases z))).trans k.ins,(Yd M).trans k.sh,(Yd L).trans k.wo,(Yd G).trans k.he,(Yd J).trans k.pd,(Yd Z).trans k.tk,Ya,k.nd⟩
end
theorem Uj{α:Type}{l:List α}{x a:α}(h:l[i]?=some a):x∈l.take (i+1)↔x∈l.take i\/x=a:=by
 rw[take_snoc h,ZV,ZO]
end L2
namespace K4
open PySem L2
section
variable{f g C:Addr}
def BP(C:Addr):Sp:=λL H Q _=>∃(A:KA6)(S:KC)(y:Str)(l:Addr)(Z:kq),L=[.ref A.t,.str y,.ref l]/\KD H C A S/\H l=some (.tup (Z.map V.str))/\1<=Z.length/\Z.length<=4/\Wds 65 Z/\(∀x∈Z,VH S.tk (Sum.inr x)=none)/\
 S.tk.length<=100/\S.wo.length<=100/\S.he.length<=100/\S.pd.length<=100/\
 ∀G J r,KFr A H G->KD G C A ⟨S.sh,putK S.wo (Sum.inr y) (.ref r),putK S.he (Sum.inr y) (.int 1),putK S.pd (Sum.inr y) (.int 0),J,S.pk⟩->
  (∀x:Str,VH J (Sum.inr x)=if x∈Z then some (.str y)else VH S.tk (Sum.inr x))->J.length<=S.tk.length+4->G r=some (.lst (.non::Z.map V.str))->Q .non G
theorem Iv:Yo ["self","name","tags","tag"] ["self","name","tags"] (Yc KN):=Y3
theorem O2(B:Blt mg)(T:KCl K C)(F:Fun K "take_tags" "Kinds.take_tags" KN f fd)(hM:mg "MOST_TAGS"=some u)(rM:RelV (.int 4) u)(G:Yk P w K mg base CX0 n g gd ["text"] (Uh 65))(bG:Binds K gd ["text"] [])(kG:W.keepIn K (.ref g)=true)(mG:mg "is_tag"=some (.ref g)):Yk P w K mg base CX0 (n+1) f fd ["self","name","tags"] (BP C):=by
 refine F.oq Iv λJ5 A Z8 s H vs Q E hr h=>?_;obtain⟨D,S,y,l,J,rfl,kd,hl,l1,l4,wt,tn,b1,b2,b3,b4,q⟩:=h;have t:=Jl hr;refine⟨_,YW (Y5 (Ja (Tl GX GX YX (Yr Yj rfl B.len Zs (pa1 (pv 2))) (JL rfl hM rM))) (YY V8) Yv)
  (YW (Vo Zt rfl (JH (pv 2)) (YZ 3 Iv.nd)
   (YW (Y5 (Ja (JZ (WP G hr rfl mG kG bG .nil VI (pa1 (pv 3))))) (YY V8) Yv)
   (YW (Y5 (UB (X4 t (pv 3) (Y8 (pv 0) rfl))) (YY V8) Yv)
   (YY (JK t (Y8 (pv 0) rfl) (pv 3) (pv 1) rfl)))))
  (YW (JK t (Y8 (pv 0) rfl) (pv 1) (Y1 Mv (Vs (pa1 V4)) (VA V3 rfl B.list Vw (pa1 (pv 2)))) rfl)
  (YW (JK t (Y8 (pv 0) rfl) (pv 1) YX rfl)
  (YY (JK t (Y8 (pv 0) rfl) (pv 1) YX rfl))))),?_⟩
 show let a:=_;let b:=Yh _ a;let c:=Yh _ b;let d:=_;let e:=_;let f:=Yh (VN _ e _) d;let g:=_;let h:=Yh (VN _ g _) f;let i:=Yh (Jx _ _ h) c;let j:=_;Yh (VN _ j _) i _ _ _
 intros
 have lt:(J.map V.str).length=J.length:=ZA _;refine⟨l,_,rfl,.inr (Z0 hl),_,rfl,?_⟩;refine V1 (by simp;omega) ?_;refine⟨_,rfl,?_⟩;refine Y9 (by simp;omega) ?_;refine⟨⟨_,Z0 hl⟩,?_⟩
 let I:kH:=λi U R=>KFr D H R/\∃L z,KD R C D {S with tk:=L}/\(∀x:Str,VH L (Sum.inr x)=if x∈J.take i then some (.str y)else VH S.tk (Sum.inr x))/\L.length<=S.tk.length+i/\R l=some (.tup (J.map V.str))/\
  U=[some (.ref D.t),some (.str y),some (.ref l),z]
 refine RF (xs:=J.map V.str) I ⟨KFr.refl _ _,S.tk,_,kd,λx=>by simp,ZF _,hl,rfl⟩ ?_ ?_ ?_
 .rintro i U R _ ⟨_,L,z,_,_,_,hl',_⟩
  exact Z0 hl'
 .rintro BB RR i v U R hv ⟨fr,L,z,kd',tv,tl,hl',rfl⟩
  rw[ZG]at hv
  cases hx:J[i]? with
  |none=>rw[hx]at hv;cases hv
  |some x=>
   rw[hx]at hv;cases hv;have mx:x∈J:=ZH hx
   have nx:x∉J.take i:=λhm=>by
    have q':(J.take i++[x]).Nodup:=by rw[<-take_snoc hx];exact wt.nd.sublist (zU _ _)
    exact(yP.mp q').2.2 x hm x (by simp) rfl
   have J4:=(ZE.mp hx).1;obtain⟨w1,w8⟩:=wt.len x mx;refine⟨x,rfl,w1,w8,wt.abc x mx,λH2 s2=>⟨_,rfl,?_⟩⟩;refine Y9 (by simp) ?_;have Z:=kd'.mono s2
   have gx:Vx H2 D.tk (.str x) none:=by
    have e:=tv x;rw[Zo nx,tn x mx]at e;rw[<-e];exact Vx.k (k:=Sum.inr x) Z.tk
   refine⟨C,_,_,_,Z.ins,T.cl,T.tk,S7 _,_,gx,_,rfl,?_⟩;refine Y9 (by simp) ?_;refine⟨C,_,_,_,Z.ins,T.cl,T.tk,S7 _,_,Uk.k (k:=Sum.inr x) Z.tk (Yp (by show L.length<=1000;omega)),?_⟩;have o:=s2 _ _ hl';refine⟨(fr.trans s2.kfr).put (by simp[KA6.ds]) _,putK L (Sum.inr x) (.str y),_,Z.put_tk _,λX=>?_,?_,?_,rfl⟩
   .rw [UJ]
    by_cases e:X=x
    .subst e
     rw[Zn rfl,Zn ((Uj hx).mpr (.inr rfl))]
    .rw [Zo (λz=>e (Sum.inr.inj z)),tv X]
     have:(X∈J.take (i+1))↔X∈J.take i:=⟨λz=>((Uj hx).mp z).resolve_right e,λz=>(Uj hx).mpr (.inl z)⟩
     by_cases m:X∈J.take i
     .rw [Zn m,Zn (this.mpr m)]
     .rw [Zo m,Zo (λz=>m (this.mp z))]
   .have:=JA L (Sum.inr x) (.str y);omega
   .rw [Yd (JR o Z.tk (by intro z;cases z))];exact o
 .rintro U R ⟨fr,L,z,kd',tv,tl,hl',rfl⟩
  rw[lt]at tl;rw[Ze (by omega)]at tv;refine⟨sl 1,λp1 r=>⟨l,_,rfl,.inr (Z0 ((Yg r _) _ _ hl')),λp2 p=>?_⟩⟩;refine⟨p1,p2,_,_,rfl,rfl,(Yd (Yf Ya p)).trans Ya,Ya,Zf (Yp (by simp;omega)),λM J1=>?_⟩;have sx:Same R _:=((Yg r (.lst [V.non])).trans (Yg p (.lst (J.map V.str)))).trans (Yg J1 (.lst ([V.non]++ J.map V.str)));have hp:upd (upd (upd R p1 (.lst [V.non])) p2 (.lst (J.map V.str))) M (.lst ([V.non]++ J.map V.str)) M=some (.lst (.non::J.map V.str)):=Ya;generalize upd (upd (upd R p1 (.lst [V.non])) p2 (.lst (J.map V.str))) M (.lst ([V.non]++ J.map V.str))=H2 at sx hp |-;have Z:=kd'.mono sx;refine⟨C,_,_,_,Z.ins,T.cl,T.wo,Lm _,_,Uk.k (k:=Sum.inr y) Z.wo (Yp (by show S.wo.length<=1000;omega)),?_⟩;have O:=Z.put_wo (putK S.wo (Sum.inr y) (.ref M));have J2:upd H2 D.wo (.dK (putK S.wo (Sum.inr y) (.ref M))) M=some (.lst (.non::J.map V.str)):=by rw[Yd (JR hp Z.wo (by intro z;cases z))];exact hp
  refine⟨C,_,_,_,O.ins,T.cl,T.he,Pp _,_,Uk.k (k:=Sum.inr y) O.he (Yp (by show S.he.length<=1000;omega)),?_⟩;have N:=O.put_he (putK S.he (Sum.inr y) (.int 1));refine⟨C,_,_,_,N.ins,T.cl,T.pd,Po _,_,Uk.k (k:=Sum.inr y) N.pd (Yp (by show S.pd.length<=1000;omega)),?_⟩;have Z9:=N.put_pd (putK S.pd (Sum.inr y) (.int 0));refine q _ L M ?_ Z9 tv (by omega) ?_
  .exact ((((fr.trans sx.kfr).put (by simp[KA6.ds]) _).put (by simp[KA6.ds]) _).put (by simp[KA6.ds]) _)
  .have h3:=J2
   have h4:upd (upd H2 D.wo (.dK (putK S.wo (Sum.inr y) (.ref M)))) D.he (.dK (putK S.he (Sum.inr y) (.int 1))) M=some (.lst (.non::J.map V.str)):=by rw[Yd (JR h3 O.he (by intro z;cases z))];exact h3
   rw[Yd (JR h4 N.pd (by intro z;cases z))];exact h4
end
end K4
namespace L2
open PySem
structure Pt(H:Hp)(S:KC)(e:Str)(us:List W)(h p:Nat):Prop where
 sh:(VH S.sh (Sum.inr e)).isSome=true
 wo:∃l xs,VH S.wo (Sum.inr e)=some (.ref l)/\H l=some (.lst xs)/\HasL H xs (us.map W.dat)
 he:VH S.he (Sum.inr e)=some (.int h)
 pd:VH S.pd (Sum.inr e)=some (.int p)
end L2
namespace K4
open PySem L2
section
variable{f g C:Addr}
def MN(C:Addr):Sp:=λT H Q _=>∃(A:KA6)(S:KC)(y e g:Str)(G Z:List W)(R O M L:Nat),T=[.ref A.t,.str y,.str e,.str g]/\KD H C A S/\Pt H S e G R M/\Pt H S g Z O L/\VH S.pk [Sum.inr e,Sum.inr g]=none/\
 1+max M L<=2/\1+G.length*Z.length<=30/\G.length<=30/\Z.length<=30/\S.pk.length<=100/\S.wo.length<=100/\S.he.length<=100/\S.pd.length<=100/\e≠y/\g≠y/\
 ∀J r,KFr A H J->KD J C A ⟨S.sh,putK S.wo (Sum.inr y) (.ref r),putK S.he (Sum.inr y) (.int (1+R+O:Nat)),putK S.pd (Sum.inr y) (.int (1+max M L:Nat)),S.tk,putK S.pk [Sum.inr e,Sum.inr g] (.str y)⟩->
  (∃N,J r=some (.lst N)/\HasL J N ((W.non::G.flatMap λu=>Z.map λv=>W.pair u v).map W.dat))->Q .non J
theorem MU:Yo ["self","name","one","other","deep","worths"] ["self","name","one","other"] (Yc Bl):=Y3
theorem QS:List.Nodup [("first":Str),"second","self","other"]:=by decide +kernel
theorem Kw(B:Blt mg)(T:KCl K C)(F:Fun K "take_pair" "Kinds.take_pair" Bl f fd)(hM:mg "MOST_PAIRS_DEEP"=some u1)(rM:RelV (.int 2) u1)(T3:mg "MOST_WORTHS"=some u2)(N2:RelV (.int 30) u2):
  Yk P w K mg base CX0 (n+1) f fd ["self","name","one","other"] (MN C):=by
 refine F.oq MU λT6 A R1 s H vs Q E hr h=>?_;obtain⟨J,S,y,e,g,us,Z,he,hg,pe,pg,rfl,kd,Z9,Z8,pn,d2,T7,ul,vl,b0,b1,b2,b3,T5,T4,q⟩:=h;have I:=Jl hr;refine⟨_,YW (Y5 (PW.pt (UF (UB (Up I (pv 2) (Y8 (pv 0) rfl))) (Jz (UB (Up I (pv 3) (Y8 (pv 0) rfl)))))) (YY V8) Yv)
  (YW (Y5 (UB (X4 I (Yx (pa2 (pv 2) (pv 3))) (Y8 (pv 0) rfl))) (YY V8) Yv)
  (YW (Ym 4 MU.nd (Y1 Vf YX (Yr (W7 rfl) rfl B.max W9 (pa2 (JM I (Y8 (pv 0) rfl) (pv 2) (λ_ _=>rfl)) (JM I (Y8 (pv 0) rfl) (pv 3) (λ_ _=>rfl))))))
  (YW (Y5 (Ys Ur (pv 4) (JL rfl hM rM) (Yy _)) (YY V8) Yv)
  (YW (Ym 5 MU.nd (Y1 Mv (Vs (pa1 V4)) (Ou (wi2:=LV K (QC (Qm K (MH 2) "worths") (MH 3))) [0,3] (VF (JM I (Y8 (pv 0) rfl) (pv 2) (λ_ _=>rfl)))
    (λcl C fp s H=>YZ 0 QS rfl (Or.inl rfl) (Or.inr rfl)) (λcl C fp s H=>VF (JM I (Y8 (pv 2) rfl) (pv 3) (λ_ _=>rfl))) (λcl C fp s H=>YZ 1 QS rfl (Or.inl rfl) (Or.inr rfl))
    (λcl C fp s H=>Yx (pa2 (pv 0) (pv 1))))))
  (YW (Y5 (Ys Ur (Yr Yj rfl B.len Zs (pa1 (pv 5))) (JL rfl T3 N2) (Yy _)) (YY V8) Yv)
  (YW (JK I (Y8 (pv 0) rfl) (Yx (pa2 (pv 2) (pv 3))) (pv 1) rfl)
  (YW (JK I (Y8 (pv 0) rfl) (pv 1) (pv 5) rfl)
  (YW (JK I (Y8 (pv 0) rfl) (pv 1) (Y1 Vf (Y1 Vf YX (JM I (Y8 (pv 0) rfl) (pv 2) (λ_ _=>rfl))) (JM I (Y8 (pv 0) rfl) (pv 3) (λ_ _=>rfl))) rfl)
  (YY (JK I (Y8 (pv 0) rfl) (pv 1) (pv 4) rfl)))))))))),?_⟩
 show let a:=_;let b:=Yh _ a;let c:=Yh _ b;let d:=Yh _ c;let e:=_;let f:=Yh (VN _ e _) d;let g:=Yh _ f;let h:=_;let i:=Yh (VN _ h _) g;let j:=Yh _ i;let k:=_;let l:=Yh (VN _ k _) j;let m:=_;Yh (VN _ m _) l _ _ _
 intros
 have fl:∀{H2:Hp},KD H2 C J S->H2 J.t=some (.ins C J.dx (Gh J)):=λk=>k.ins;have ge:Vx H J.sh (.str e) (VH S.sh (Sum.inr e)):=Vx.k (k:=Sum.inr e) kd.sh;have gg:Vx H J.sh (.str g) (VH S.sh (Sum.inr g)):=Vx.k (k:=Sum.inr g) kd.sh;refine⟨C,_,_,_,kd.ins,T.cl,T.sh,Dl _,_,ge,_,rfl,?_⟩;refine Y9 (by rw[Z9.sh];simp) ?_;refine⟨C,_,_,_,kd.ins,T.cl,T.sh,Dl _,_,gg,_,rfl,?_⟩;refine Y9 (by rw[Z8.sh];simp) ?_;refine⟨sl 2,λp1 R7=>?_⟩;refine up_in R7 _ λH1 s1 h1=>?_;have O:=kd.mono s1;have gp:Vx H1 J.pk (.ref p1) none:=by rw[<-pn];exact Vx.t (k:=[Sum.inr e,Sum.inr g]) O.pk h1
 refine⟨C,_,_,_,O.ins,T.cl,T.pk,S8 _,_,gp,_,rfl,?_⟩;refine Y9 (by simp) ?_;refine⟨C,_,_,_,O.ins,T.cl,T.pd,Po _,_,by rw[<-Z9.pd];exact Vx.k (k:=Sum.inr e) O.pd,?_⟩;refine⟨C,_,_,_,O.ins,T.cl,T.pd,Po _,_,by rw[<-Z8.pd];exact Vx.k (k:=Sum.inr g) O.pd,_,_,rfl,?_⟩
 have em:(1+(if(pg:Int) > (pe:Int)then(pg:Int)else(pe:Int)))=((1+max pe pg:Nat):Int):=by
  by_cases z:pe<pg
  .rw [Zn (by omega),Nat.max_eq_right (Zf z)];omega
  .rw [Zo (by omega),Nat.max_eq_left (by omega)];omega
 dsimp only[Vu,rI0,XF];rw[em];refine⟨_,rfl,?_⟩;refine Y9 (by simp;omega) ?_;obtain⟨l1,D,w1,w2,w3⟩:=Z9.wo;obtain⟨l2,M,v1,v2,v3⟩:=Z8.wo;have G1:=w3.length;have J5:=v3.length;rw[ZA]at G1 J5;refine⟨sl 1,λp2 R6=>?_⟩;refine up_in R6 _ λH2 s2 h2=>?_;have L1:=O.mono s2;have U:=s1.trans s2;refine⟨C,_,_,_,L1.ins,T.cl,T.wo,Lm _,.ref l1,by rw[<-w1];exact Vx.k (k:=Sum.inr e) L1.wo,⟨D,Z1 (U _ _ w2)⟩,?_⟩;refine RQ D.length (λi L H'=>Same H2 H'/\L.length=i*Z.length/\i<=us.length/\HasL H' L (((us.take i).flatMap λu=>Z.map λv=>W.pair u v).map W.dat)) ⟨Z6 _,by simp,Za _,by rw[vm];exact Z4⟩
  (λi L H' z=>Yp (by rw[z.2.1];have:i*Z.length<=us.length*Z.length:=yF _ z.2.2.1;omega)) ?_ ?_ ?_ ?_
 .intro i L H' hi z
  exact⟨D,D[i],Z1 ((U.trans z.1) _ _ w2),by simp[hi]⟩
 .intro L H' z
  exact⟨D,Z1 ((U.trans z.1) _ _ w2),ZF _⟩
 .intro i L H' x H'' R hi z yl hR
  obtain⟨rfl,yy⟩:=yl;have sz:=U.trans z.1;obtain⟨dx,o,T1⟩:=w3.get (yy D (Z1 (sz _ _ w2)));rw[ZG]at o
  cases hu1:us[i]? with
  |none=>rw[hu1]at o;cases o
  |some u=>
   rw[hu1]at o;cases o;have G2:=kd.mono sz;refine⟨C,_,_,_,G2.ins,T.cl,T.wo,Lm _,.ref l2,by rw[<-v1];exact Vx.k (k:=Sum.inr g) G2.wo,⟨M,Z1 (sz _ _ v2)⟩,?_⟩;refine Nr M.length (λj ws H3=>Same H'' H3/\ws.length=i*Z.length+j/\j<=Z.length/\HasL H3 ws (((us.take i).flatMap λu=>Z.map λv=>W.pair u v).map W.dat++ ((Z.take j).map λv=>W.pair u v).map W.dat)) ⟨Z6 _,by rw[z.2.1];rfl,Za _,by rw[vm,yH,yH,zV];exact z.2.2.2⟩
    (λj ws H3 N=>Yp (by
     rw[N.2.1];have:(i+1)*Z.length<=us.length*Z.length:=yF _ (by omega);rw[yQ]at this;have:=N.2.2.1;omega)) ?_ ?_ ?_ ?_
   .intro j ws H3 hj N
    exact⟨M,M[j],Z1 ((sz.trans N.1) _ _ v2),by simp[hj]⟩
   .intro ws H3 N
    exact⟨M,Z1 ((sz.trans N.1) _ _ v2),ZF _⟩
   .intro j ws H3 x2 H4 T2 hj N yl2 hT
    obtain⟨rfl,M2⟩:=yl2;have s3:=sz.trans N.1;obtain⟨dz,r,T0⟩:=v3.get (M2 M (Z1 (s3 _ _ v2)));rw[ZG]at r
    cases hv1:Z[j]? with
    |none=>rw[hv1]at r;cases r
    |some v=>
     rw[hv1]at r;cases r;refine⟨sl 2,λt ht=>hT _ _ ?_⟩;have st:=Yg ht (.tup [x,x2]);refine⟨N.1.trans st,by rw[ZJ,N.2.1];rfl,(ZE.mp hv1).1,?_⟩;rw[take_snoc hv1,ZI,ZI,<-yw];refine Z5 (N.2.2.2.mono st) (Z3 ?_);unfold W.dat Has;exact⟨t,_,rfl,Ya,Z2 ((T1.mono s3).mono st) (Z2 ((T0.mono s3).mono st) Z4)⟩
   .intro ws H3 N
    have R8:M.length=Z.length:=J5;refine hR _ _ ⟨z.1.trans N.1,by rw[N.2.1,R8,yQ],(ZE.mp hu1).1,?_⟩;have y4:=N.2.2.2;have et:Z.take M.length=Z:=Ze (by omega);rw[et]at y4;rw[Fm _ hu1,ZI];exact y4
 .intro L H' p3 z hp3
  have s3:=Yg hp3 (.lst L);have h3:upd H' p3 (.lst L) p3=some (.lst L):=Ya;have z4:=z.2.2.2;rw[Ze (by omega)]at z4;have z5:=z4.mono s3;generalize upd H' p3 (.lst L)=H3 at s3 h3 z5 |-;have J2:=z.1.trans s3;have lz:L.length=us.length*Z.length:=by rw[z.2.1,G1]
  refine⟨p2,p3,[V.non],L,rfl,rfl,J2 _ _ h2,h3,Zf (Yp (by rw[lz];simp;omega)),λp4 R5=>?_⟩;have s4:=Yg R5 (.lst ([V.non]++ L));have h4:upd H3 p4 (.lst ([V.non]++ L)) p4=some (.lst ([V.non]++ L)):=Ya;have z6:=z5.mono s4;generalize upd H3 p4 (.lst ([V.non]++ L))=H4 at s4 h4 z6 |-;have J4:=(U.trans J2).trans s4;have J1:=kd.mono J4;have hw:HasL H4 ([V.non]++ L) ((W.non::us.flatMap λu=>Z.map λv=>W.pair u v).map W.dat):=Z2 EY z6;refine⟨p4,_,rfl,.inl (Z1 h4),_,rfl,?_⟩;refine Y9 (by simp;omega) ?_;refine⟨C,_,_,_,J1.ins,T.cl,T.pk,S8 _,sl 2,λp5 R4=>?_⟩;refine up_in R4 _ λH5 s5 h5=>?_;have G3:=J1.mono s5;refine⟨_,Uk.t (k:=[Sum.inr e,Sum.inr g]) G3.pk h5 (Yp (by omega)),?_⟩;have p:=G3.put_pk (putK S.pk [Sum.inr e,Sum.inr g] (.str y));have f6:KFr J H (upd H5 J.pk (.dT (putK S.pk [Sum.inr e,Sum.inr g] (.str y)))):=KFr.put (Same.kfr (J4.trans s5)) (by simp[KA6.ds]) _;have t6:TL H4 (upd H5 J.pk (.dT (putK S.pk [Sum.inr e,Sum.inr g] (.str y)))):=(KFr.put (Same.kfr s5) (by simp[KA6.ds]) _:KFr J H4 _).tl J1;generalize upd H5 J.pk (.dT (putK S.pk [Sum.inr e,Sum.inr g] (.str y)))=H6 at p f6 t6 |-;refine⟨C,_,_,_,p.ins,T.cl,T.wo,Lm _,_,Uk.k (k:=Sum.inr y) p.wo (Yp (by show S.wo.length<=1000;omega)),?_⟩;have G:=p.put_wo (putK S.wo (Sum.inr y) (.ref p4));have f7:=f6.put (x:=J.wo) (by simp[KA6.ds]) (.dK (putK S.wo (Sum.inr y) (.ref p4)));have t7:=t6.trans ((KFr.put (KFr.refl J H6) (x:=J.wo) (by simp[KA6.ds]) (.dK (putK S.wo (Sum.inr y) (.ref p4)))).tl p);generalize upd H6 J.wo (.dK (putK S.wo (Sum.inr y) (.ref p4)))=H7 at G f7 t7 |-;refine⟨C,_,_,_,G.ins,T.cl,T.he,Pp _,_,by rw[<-Z9.he];exact Vx.k (k:=Sum.inr e) G.he,?_⟩;refine⟨C,_,_,_,G.ins,T.cl,T.he,Pp _,_,by rw[<-Z8.he];exact Vx.k (k:=Sum.inr g) G.he,?_⟩;refine⟨C,_,_,_,G.ins,T.cl,T.he,Pp _,_,Uk.k (k:=Sum.inr y) G.he (Yp (by show S.he.length<=1000;omega)),?_⟩;have eh:(1+(he:Int)+(hg:Int))=((1+he+hg:Nat):Int):=by push_cast;rfl
  dsimp only[rI0,rI,XF];rw[eh];have X:=G.put_he (putK S.he (Sum.inr y) (.int ((1+he+hg:Nat):Int)));have f8:=f7.put (x:=J.he) (by simp[KA6.ds]) (.dK (putK S.he (Sum.inr y) (.int ((1+he+hg:Nat):Int))));have t8:=t7.trans ((KFr.put (KFr.refl J H7) (x:=J.he) (by simp[KA6.ds]) (.dK (putK S.he (Sum.inr y) (.int ((1+he+hg:Nat):Int))))).tl G);generalize upd H7 J.he (.dK (putK S.he (Sum.inr y) (.int ((1+he+hg:Nat):Int))))=H8 at X f8 t8 |-;refine⟨C,_,_,_,X.ins,T.cl,T.pd,Po _,_,Uk.k (k:=Sum.inr y) X.pd (Yp (by show S.pd.length<=1000;omega)),?_⟩;have R3:=X.put_pd (putK S.pd (Sum.inr y) (.int ((1+max pe pg:Nat):Int)));have f9:=f8.put (x:=J.pd) (by simp[KA6.ds]) (.dK (putK S.pd (Sum.inr y) (.int ((1+max pe pg:Nat):Int))));have t9:=t8.trans ((KFr.put (KFr.refl J H8) (x:=J.pd) (by simp[KA6.ds]) (.dK (putK S.pd (Sum.inr y) (.int ((1+max pe pg:Nat):Int))))).tl X);exact q _ p4 f9 R3 ⟨_,t9.2 _ _ h4,HasL.tl t9 _ hw⟩
end
end K4
namespace L2
open PySem
theorem CM(G:KK top c d J)(L:y∈J.map (·.1)):c y<=5\/c y<=top:=by
 obtain⟨s,M⟩:=JJ L;have Z:=G.at M
 cases s with
 |tags B=>obtain⟨T,R,O,_⟩:=Z;exact .inl (by omega)
 |pair a b=>obtain⟨T,R,O,N,_⟩:=Z;exact .inr N
theorem NG{L:kL}(e:Z.map (·.1)=L.map (λk=>(Sum.inr k.1:Key)))(h:y∉L.map (·.1)):VH Z (Sum.inr y)=none:=by
 unfold VH
 cases q:Z.find? λJ=>decide (J.1=Sum.inr y)with
 |none=>rfl
 |some J=>
  have m:=zw q;have M:=List.find?_some q;have z:J.1=Sum.inr y:=Zr M;have G:(Sum.inr y:Key)∈Z.map (·.1):=ZU.mpr ⟨J,m,z⟩;rw[e]at G;obtain⟨k,N,O⟩:=ZU.mp G;exact Zp (ZU.mpr ⟨k,N,Sum.inr.inj O⟩) h
theorem UZ{Z:kL}{s:Shp}(h:z∈(Z++[(y,s)]).map (·.1))(n:z≠y):z∈Z.map (·.1):=by
 rw[ZI,ZV]at h;rcases h with h|h
 .exact h
 .exact Zp (ZO.mp h) n
theorem KR.snoc(k:KR H S Z d)(t:TL H A)(L:KK 30 c d Z)(P:KK1 30 c d (Z.map (·.1)) y s)(E:y∉Z.map (·.1))(M:S'.sh=putK S.sh (Sum.inr y) v)(hv:Has A v s.dat)(R:S'.wo=putK S.wo (Sum.inr y) (.ref r))(hr:∃D,A r=some (.lst D)/\HasL A D ((wOf Z 3 s).map W.dat))(B:S'.he=putK S.he (Sum.inr y) (.int (hOf Z 3 s:Nat)))(T:S'.pd=putK S.pd (Sum.inr y) (.int (d y:Nat)))(C:∀x:Str,VH S'.tk (Sum.inr x)=if Je x s=true then some (.str y)else VH S.tk (Sum.inr x))(i:S'.tk.length<=S.tk.length+4)(I:∀x,Je x s=true->JB Z x=none)(X:∀a b:Str,VH S'.pk [Sum.inr a,Sum.inr b]=if JI a b s=true then some (.str y)else VH S.pk [Sum.inr a,Sum.inr b])(h:S'.pk.length<=S.pk.length+4)(U:∀a b,JI a b s=true->V0 Z a b=none):
  KR A S' (Z++[(y,s)]) d:=by
 have Q:=k.tl t;have j:=NG k.ke E
 have hw:VB (Z++[(y,s)]) 3 y=wOf Z 3 s:=by
  rw[Wb (TZ E)]
  cases s with
  |tags m=>rfl
  |pair a b=>
   obtain⟨O,N,w,u,f,p⟩:=P;have o:=ye (d a) (d b);have l:=zY (d a) (d b);show(W.non::_)=(W.non::_);rw[J6 L _ 2 a O,J6 L _ 2 b N,UY L 2 3 a O (by omega) (by omega),UY L 2 3 b N (by omega) (by omega)]
 have hh:X6 (Z++[(y,s)]) 3 y=hOf Z 3 s:=by
  rw[WU (TZ E)]
  cases s with
  |tags m=>rfl
  |pair a b=>
   obtain⟨O,N,w,u,f,p⟩:=P;have o:=ye (d a) (d b);have l:=zY (d a) (d b);show 1+_+_=1+_+_;rw[Us L _ 2 a O,Us L _ 2 b N,Xo L 2 3 a O (by omega) (by omega),Xo L 2 3 b N (by omega) (by omega)]
 have F:∀{z:Str},z≠y->¬(Sum.inr z:Key)=Sum.inr y:=λn q=>n (Sum.inr.inj q);obtain⟨b1,b2,b3,b4,b5,b6⟩:=k.ln;refine⟨?_,λz g G=>?_,λz G=>?_,λz G=>?_,λz G=>?_,λx=>?_,λa b=>?_,?_⟩
 .rw [M,Um v j,ZI,ZI,k.ke];rfl
 .rw [M,UJ]
  by_cases e:z=y
  .subst e
   rw[TZ E]at G;cases G;rw[Zn rfl];exact⟨v,rfl,hv⟩
  .rw [Zo (F e)]
   have J:=UZ (ZU.mpr ⟨_,Jo G,rfl⟩) e;rw[Wj J]at G;exact Q.sh z g G
 .rw [R,UJ]
  by_cases e:z=y
  .subst e
   rw[Zn rfl,hw];obtain⟨D,g1,g2⟩:=hr;exact⟨r,D,rfl,g1,g2⟩
  .rw [Zo (F e)]
   have J:=UZ G e;rw[J6 L _ 3 z J];exact Q.wo z J
 .rw [B,UJ]
  by_cases e:z=y
  .subst e
   rw[Zn rfl,hh]
  .rw [Zo (F e)]
   have J:=UZ G e;rw[Us L _ 3 z J];exact k.he z J
 .rw [T,UJ]
  by_cases e:z=y
  .subst e
   rw[Zn rfl]
  .rw [Zo (F e)]
   exact k.pd z (UZ G e)
 .rw [C x]
  have e:JB (Z++[(y,s)]) x=(JB Z x).or (if Je x s=true then some y else none):=by
   unfold JB;rw[Xr]
   cases Z.find? λk=>Je x k.2 with
   |some k=>rfl
   |none=>
    show Option.map _ (if Je x s=true then some (y,s)else none)=_;cases Je x s <;> rfl
  rw[e]
  cases hx:Je x s with
  |true=>rw[I x hx];rfl
  |false=>
   rw[k.tk x];cases JB Z x <;> rfl
 .rw [X a b]
  have e:V0 (Z++[(y,s)]) a b=(V0 Z a b).or (if JI a b s=true then some y else none):=by
   unfold V0;rw[Xr]
   cases Z.find? λk=>JI a b k.2 with
   |some k=>rfl
   |none=>
    show Option.map _ (if JI a b s=true then some (y,s)else none)=_;cases JI a b s <;> rfl
  rw[e]
  cases hx:JI a b s with
  |true=>rw[U a b hx];rfl
  |false=>
   rw[k.pk a b];cases V0 Z a b <;> rfl
 .rw [ZJ,zg,M,R,B,T]
  have:=JA S.sh (Sum.inr y) v;have:=JA S.wo (Sum.inr y) (.ref r);have:=JA S.he (Sum.inr y) (.int (hOf Z 3 s:Nat));have:=JA S.pd (Sum.inr y) (.int (d y:Nat));exact⟨by omega,by omega,by omega,by omega,by omega,by omega⟩
end L2
namespace K4
open PySem L2
section
variable{f g C gt gp gn:Addr}
def MP(C:Addr):Sp:=λM H Q _=>∃(A:KA6)(S:KC)(y:Str)(v:V)(s:Shp)(Z:kL)(c d:kM),M=[.ref A.t,.str y,v]/\KD H C A S/\KR H S Z d/\KK 30 c d Z/\KK1 30 c d (Z.map (·.1)) y s/\y∉Z.map (·.1)/\
 (1<=y.length/\y.length<=8/\∀c∈y.cps.toList,97<=c/\c<97+26)/\(∀G,s=.tags G->Wds 65 G)/\(∀x,Je x s=true->JB Z x=none)/\(∀a b,JI a b s=true->V0 Z a b=none)/\Has H v s.dat/\Z.length<=6/\
 ∀J L,KFr A H J->KD J C A L->KR J L (Z++[(y,s)]) d->Q .non J
theorem C9(A:KA6):(Gh A).lookup ("take_tags":Str)=none:=rfl
theorem zA(A:KA6):(Gh A).lookup ("take_pair":Str)=none:=rfl
theorem OW:Yo ["self","name","shape"] ["self","name","shape"] (Yc Bn):=Y3
theorem Ky(B:Blt mg)(T:KCl K C)(F:Fun K "take" "Kinds.take" Bn f fd)(GN:Yk P w K mg base CX0 n gn nd' ["text"] (Uh 97))(bN:Binds K nd' ["text"] [])(kN:W.keepIn K (.ref gn)=true)(mN:mg "is_name"=some (.ref gn))(GT:Yk P w K mg base CX0 n gt td ["self","name","tags"] (BP C))(bT:Binds K td ["self","name","tags"] [])(mT:Vn K C "take_tags" gt)(GP:Yk P w K mg base CX0 n gp pd' ["self","name","one","other"] (MN C))(bP:Binds K pd' ["self","name","one","other"] [])(mP:Vn K C "take_pair" gp):
  Yk P w K mg base CX0 (n+1) f fd ["self","name","shape"] (MP C):=by
 refine F.oq OW λJ5 A Z8 s H vs Q E hr h=>?_;obtain⟨M,S,y,v,s,U,c,d,rfl,kd,R,o,k1,ny,⟨y1,y8,yc⟩,wt,D,I,hv,k6,q⟩:=h;have hu:=Jl hr;refine⟨_,YW (Y5 (Ja (JZ (WP GN hr rfl mN kN bN .nil VI (pa1 (pv 1))))) (YY V8) Yv)
  (YW (Y5 (UB (X4 hu (pv 1) (Y8 (pv 0) rfl))) (YY V8) Yv)
  (YW (Y5 (PW.pt (X1 (Ys V9 (Yr Yj rfl B.len Zs (pa1 (pv 2))) YX (Yy _)) (U8 (Ys V9 (Yi Yl (pv 2) YX) Y7 (Yy _)))))
   (YY (VO (Vg (pv 0) T.cl mT GT hr bT .nil VI (pa2 (pv 1) (Yi Yl (pv 2) YX)))))
   (YY (Y5 (PW.pt (X1 (Ys V9 (Yr Yj rfl B.len Zs (pa1 (pv 2))) YX (Yy _)) (U8 (Ys V9 (Yi Yl (pv 2) YX) Y7 (Yy _)))))
    (YY (VO (Vg (pv 0) T.cl mP GP hr bP .nil VI (pa3 (pv 1) (Yi Yl (pv 2) YX) (Yi Yl (pv 2) YX)))))
    (YY V8))))
  (YY (JK hu (Y8 (pv 0) rfl) (pv 1) (pv 2) rfl)))),?_⟩
 show let a:=_;let b:=_;let c:=_;let d:=_;let e:=VN _ c d;let f:=Yh (VN _ b e) a;let g:=_;let h:=Yh (VN _ g _) f;let i:=_;Yh (VN _ i _) h _ _ _
 intros
 refine⟨y,rfl,y1,y8,yc,λH1 s1=>⟨_,rfl,?_⟩⟩;refine Y9 (by simp) ?_;have J:=kd.mono s1;have X:=R.tl s1.tl;have N:=hv.mono s1;have gn:Vx H1 M.sh (.str y) none:=by rw[<-NG R.ke ny];exact Vx.k (k:=Sum.inr y) J.sh
 refine⟨C,_,_,_,J.ins,T.cl,T.sh,Dl _,_,gn,_,rfl,?_⟩;refine Y9 (by simp) ?_;obtain⟨b1,b2,b3,b4,b5,b6⟩:=R.ln
 cases s with
 |tags u=>
  obtain⟨p,l,rfl,O,hl⟩:=Jg N;have l2:([V.str "tags",V.ref l]:kF).length=2:=rfl;refine⟨p,_,rfl,.inr (Z0 O),rfl,_,rfl,?_⟩;refine V1 (by simp) ?_;refine⟨_,_,Z0 O,rfl,rfl,_,rfl,?_⟩;refine V1 (by simp) ?_;obtain⟨t1,t4,_,t0,_⟩:=k1;refine⟨_,_,J.ins,C9 _,_,_,Z0 O,rfl,M,S,y,l,u,rfl,J,hl,t1,t4,wt u rfl,λx hx=>?_,by omega,by omega,by omega,by omega,λH2 J4 r f2 Z tv tl t=>?_⟩
  .rw [R.tk x,D x (by unfold Je;exact decide_eq_true hx)];rfl
  .have tl2:=f2.tl J
   refine⟨C,_,_,_,Z.ins,T.cl,T.sh,Dl _,_,Uk.k (k:=Sum.inr y) Z.sh (Yp (by show S.sh.length<=1000;omega)),?_⟩;have j:=Z.put_sh (putK S.sh (Sum.inr y) (.ref p));have f3:=f2.put (x:=M.sh) (by simp[KA6.ds]) (.dK (putK S.sh (Sum.inr y) (.ref p)));have G:=tl2.trans ((KFr.put (KFr.refl M H2) (x:=M.sh) (by simp[KA6.ds]) (.dK (putK S.sh (Sum.inr y) (.ref p)))).tl Z);have L:=(KFr.put (KFr.refl M H2) (x:=M.sh) (by simp[KA6.ds]) (.dK (putK S.sh (Sum.inr y) (.ref p)))).tl Z;refine q _ _ (s1.kfr.trans f3) j (KR.snoc (v:=.ref p) (r:=r) X G o ⟨t1,t4,by assumption,t0,by assumption⟩ ny rfl (Has.tl G _ N) rfl ⟨_,L.2 _ _ t,?_⟩ rfl (by rw[t0];rfl) (λx=>?_) tl D (λa b=>rfl) (vD _ _) I)
   .show HasL _ (V.non::u.map V.str) ((W.non::u.map W.tag).map W.dat)
    exact Z2 EY (NO u)
   .rw [tv x]
    unfold Je
    by_cases m:x∈u
    .rw [Zn m,Zn (decide_eq_true m)]
    .rw [Zo m,Zo (by simp[m])]
 |pair a b=>
  obtain⟨p,rfl,O⟩:=X7 N;obtain⟨q1,q2,q3,q4,q5,q6⟩:=id k1;have m1:=ye (d a) (d b);have m2:=zY (d a) (d b);refine⟨p,_,rfl,.inr (Z0 O),rfl,_,rfl,?_⟩;refine Y9 (by simp) ?_;refine Y9 (by simp) ?_;refine⟨p,_,rfl,.inr (Z0 O),rfl,_,rfl,?_⟩;refine V1 (by simp) ?_;refine⟨_,_,Z0 O,rfl,rfl,_,rfl,?_⟩;refine V1 (by simp) ?_;obtain⟨la,pa,_⟩:=Ul o 3 a q1 (by omega);obtain⟨lb,pb,_⟩:=Ul o 3 b q2 (by omega)
  have pt:∀z,z∈U.map (·.1)->Pt H1 S z (VB U 3 z) (X6 U 3 z) (d z):=λz hz=>by
   obtain⟨s',J2⟩:=JJ hz;obtain⟨v',e1,_⟩:=R.sh z s' J2;exact⟨by rw[e1];rfl,X.wo z hz,R.he z hz,R.pd z hz⟩
  have ca:c a<=30:=by rcases CM o q1 with h|h <;> omega
  have cb:c b<=30:=by rcases CM o q2 with h|h <;> omega
  refine⟨_,_,J.ins,zA _,_,_,Z0 O,rfl,_,_,Z0 O,rfl,M,S,y,a,b,VB U 3 a,VB U 3 b,X6 U 3 a,X6 U 3 b,d a,d b,rfl,J,pt a q1,pt b q2,?_,by omega,?_,by omega,by omega,by omega,by omega,by omega,by omega,λz=>by subst z;exact ny q1,λz=>by subst z;exact ny q2,λH2 r f2 Z t=>?_⟩
  .rw [R.pk a b,I a b (by unfold JI;simp)];rfl
  .rw [la,lb];omega
  .have tl2:=f2.tl J
   refine⟨C,_,_,_,Z.ins,T.cl,T.sh,Dl _,_,Uk.k (k:=Sum.inr y) Z.sh (Yp (by show S.sh.length<=1000;omega)),?_⟩;have j:=Z.put_sh (putK S.sh (Sum.inr y) (.ref p));have f3:=f2.put (x:=M.sh) (by simp[KA6.ds]) (.dK (putK S.sh (Sum.inr y) (.ref p)));have L:=(KFr.put (KFr.refl M H2) (x:=M.sh) (by simp[KA6.ds]) (.dK (putK S.sh (Sum.inr y) (.ref p)))).tl Z;have G:=tl2.trans L;obtain⟨xs,J1,Z9⟩:=t;refine q _ _ (s1.kfr.trans f3) j (KR.snoc (v:=.ref p) (r:=r) X G o k1 ny rfl (Has.tl G _ N) rfl ⟨xs,L.2 _ _ J1,HasL.tl L _ Z9⟩ rfl (by rw[q5]) (λx=>rfl) (vD _ _) D (λe g=>?_) (by have:=JA S.pk [Sum.inr a,Sum.inr b] (.str y);show(putK S.pk [Sum.inr a,Sum.inr b] (V.str y)).length<=_;omega) I);show VH (putK S.pk [Sum.inr a,Sum.inr b] (V.str y)) [Sum.inr e,Sum.inr g]=_;rw[UJ];unfold JI
   by_cases h1:a=e
   .by_cases h2:b=g
    .subst h1 h2;simp
    .have z:¬([Sum.inr e,Sum.inr g]:List Key)=[Sum.inr a,Sum.inr b]:=λw=>by injection w with w1 w2;injection w2 with w2 _;exact h2 (Sum.inr.inj w2).symm
     rw[Zo z,Zo (by simp[h2])]
   .have z:¬([Sum.inr e,Sum.inr g]:List Key)=[Sum.inr a,Sum.inr b]:=λw=>by injection w with w1 _;exact h1 (Sum.inr.inj w1).symm
    rw[Zo z,Zo (by simp[h1])]
end
end K4
namespace L2
open PySem
theorem JU(L:H x=some (.ins C Z fs))(G:H p=none):
  upd (upd H p o) x (.ins C Z (VY f (.ref p) fs)) x=some (.ins C Z (VY f (.ref p) fs))/\upd (upd H p o) x (.ins C Z (VY f (.ref p) fs)) p=some o/\p≠x/\∀b u,b≠x->H b=some u->upd (upd H p o) x (.ins C Z (VY f (.ref p) fs)) b=some u:=by
 have J:p≠x:=(Yf L G).symm;exact⟨Ya,(Yd J).trans Ya,J,λb u M h=>by rw[Yd M,Yd (Yf h G)];exact h⟩
theorem KK.take(h:KK top c d J)(i:Nat):KK top c d (J.take i):=λj y s e=>by
 have Z:j<i:=by
  have:=(ZE.mp e).1;rw[ZL]at this;omega
 rw[yM,Zn Z]at e;have q:=h j y s e;rw[vR,zQ (Zf Z)];exact q
theorem KG.apart(g:KG G){i j:Nat}(M:G[i]?=some (y,.tags J))(L:G[j]?=some (z,.tags Z))(O:x∈J)(N:x∈Z):i=j:=g.ap i j y z J Z x M L O N
theorem KG.ntk(g:KG Z)(T:Z[i]?=some (y,s))(x:Str)(h:Je x s=true):JB (Z.take i) x=none:=by
 cases s with
 |pair a b=>cases h
 |tags N=>
  have R:x∈N:=Zr h;unfold JB
  cases e:(Z.take i).find? λk=>Je x k.2 with
  |none=>rfl
  |some k=>
   have m:=zw e;have q:=List.find?_some e;obtain⟨z,O⟩:=k
   cases O with
   |pair a b=>cases q
   |tags L=>
    have J:x∈L:=Zr q;obtain⟨j,M,B⟩:=y9.mp m;have G:j<i:=by rw[ZL]at M;omega
    have D:Z[j]?=some (z,.tags L):=by
     have:=ZC M;rw[B,yM,Zn G]at this;exact this
    have:=g.apart T D R J;omega
theorem KG.npk(g:KG J)(N:J[i]?=some (y,s))(a b:Str)(h:JI a b s=true):V0 (J.take i) a b=none:=by
 have L:∀{Z:Shp},JI a b Z=true->Z=.pair a b:=λ{Z} h=>by
  cases Z with
  |tags D=>cases h
  |pair c e=>
   unfold JI at h;rw[ZX]at h;rw[Zr h.1,Zr h.2]
 unfold V0
 cases e:(J.take i).find? λk=>JI a b k.2 with
 |none=>rfl
 |some k=>
  have m:=zw e;have q:=List.find?_some e;obtain⟨z,Z⟩:=k;have B:=L h;have R:Z=.pair a b:=L q;subst B R;obtain⟨j,M,O⟩:=y9.mp m;have G:j<i:=by rw[ZL]at M;omega
  have T:J[j]?=some (z,.pair a b):=by
   have:=ZC M;rw[O,yM,Zn G]at this;exact this
  have:=g.pr i j y z a b N T;omega
end L2
namespace K4
open PySem L2
section
variable{f g C gt:Addr}
def BU(C:Addr):Sp:=λL H Q _=>∃(x M l:Addr)(G:kF)(Z:kL)(c d:kM),L=[.ref x,.ref l]/\H x=some (.ins C M [])/\H l=some (.lst G)/\HasL H G (Z.map Vq)/\KK 30 c d Z/\(Z.map (·.1)).Nodup/\KG Z/\0<Z.length/\Z.length<=6/\
 ∀J,(∀b o,b≠x->H b=some o->J b=some o)->KI J C x Z d->Q .non J
theorem CJ(A:KA6):(Gh A).lookup ("take":Str)=none:=rfl
theorem Be:Yo ["self","told","name","shape"] ["self","told"] (Yc KW):=Y3
theorem PF(B:Blt mg)(T:KCl K C)(F:Fun K "__init__" "Kinds.__init__" KW f fd)(hM:mg "MOST_KINDS"=some u)(rM:RelV (.int 6) u)(GT:Yk P w K mg base CX0 n gt td ["self","name","shape"] (MP C))(bT:Binds K td ["self","name","shape"] [])(mT:Vn K C "take" gt):
  Yk P w K mg base CX0 (n+1) f fd ["self","told"] (BU C):=by
 refine F.oq Be λI5 A R6 s H vs Q E hr h=>?_;obtain⟨x,M,l,xs,ks,c,d,rfl,hx,hl,J2,kk,nd,kg,k0,k6,q⟩:=h;refine⟨_,YW (Y5 (Ja (Tl GX GX YX (Yr Yj rfl B.len Zs (pa1 (pv 1))) (JL rfl hM rM))) (YY V8) Yv)
  (YW (J0 (pv 0) JQ rfl) (YW (J0 (pv 0) JQ rfl) (YW (J0 (pv 0) JQ rfl) (YW (J0 (pv 0) JQ rfl) (YW (J0 (pv 0) JQ rfl) (YW (J0 (pv 0) Km rfl)
  (YY (Vo Zt rfl (VF (pv 1)) (VE (n:=2) rfl (Ye (YZ 2 Be.nd) (Ye (YZ 3 Be.nd) Y6)))
   (YY (VO (Vg (pv 0) T.cl mT GT hr bT .nil VI (pa2 (pv 2) (pv 3))))))))))))),?_⟩
 show let a:=_;let b:=Jx _ _ a;let c:=Yh _ b;let d:=Yh _ c;let e:=Yh _ d;let f:=Yh _ e;let g:=Yh _ f;let h:=Yh _ g;let i:=_;Yh (VN _ i _) h _ _ _
 intros
 have lx:=J2.length;rw[ZA]at lx;refine⟨l,_,rfl,.inl (Z1 hl),_,rfl,?_⟩;refine V1 (by simp;omega) ?_;refine⟨_,rfl,?_⟩;refine Y9 (by simp;omega) ?_;intro X Z8;refine⟨x,C,M,_,rfl,by rw[Yd (Yf hx Z8)];exact hx,T.cl,T.sh,by decide,?_⟩;obtain⟨x1,a1,n1,r⟩:=JU (f:="shapes") (o:=.dK []) hx Z8;generalize upd (upd H X (.dK [])) x (.ins C M (VY "shapes" (.ref X) []))=H1 at x1 a1 r |-;intro p2 N;refine⟨x,C,M,_,rfl,by rw[Yd (Yf x1 N)];exact x1,T.cl,T.wo,(by show 1<1000;decide),?_⟩;obtain⟨x2,a2,n2,p⟩:=JU (f:="worths") (o:=.dK []) x1 N;generalize upd (upd H1 p2 (.dK [])) x (.ins C M (VY "worths" (.ref p2) (VY "shapes" (.ref X) [])))=H2 at x2 a2 p |-;intro p3 L;refine⟨x,C,M,_,rfl,by rw[Yd (Yf x2 L)];exact x2,T.cl,T.he,(by show 2<1000;decide),?_⟩;obtain⟨x3,a3,n3,k⟩:=JU (f:="heights") (o:=.dK []) x2 L;generalize upd (upd H2 p3 (.dK [])) x (.ins C M (VY "heights" (.ref p3) (VY "worths" (.ref p2) (VY "shapes" (.ref X) []))))=H3 at x3 a3 k |-;intro p4 G;refine⟨x,C,M,_,rfl,by rw[Yd (Yf x3 G)];exact x3,T.cl,T.pd,(by show 3<1000;decide),?_⟩;obtain⟨x4,a4,n4,m⟩:=JU (f:="pairs_deep") (o:=.dK []) x3 G;generalize upd (upd H3 p4 (.dK [])) x (.ins C M (VY "pairs_deep" (.ref p4) (VY "heights" (.ref p3) (VY "worths" (.ref p2) (VY "shapes" (.ref X) [])))))=H4 at x4 a4 m |-;intro p5 J;refine⟨x,C,M,_,rfl,by rw[Yd (Yf x4 J)];exact x4,T.cl,T.tk,(by show 4<1000;decide),?_⟩;obtain⟨x5,a5,n5,t⟩:=JU (f:="tag_kinds") (o:=.dK []) x4 J;generalize upd (upd H4 p5 (.dK [])) x (.ins C M (VY "tag_kinds" (.ref p5) (VY "pairs_deep" (.ref p4) (VY "heights" (.ref p3) (VY "worths" (.ref p2) (VY "shapes" (.ref X) []))))))=H5 at x5 a5 t |-;intro p6 Z;refine⟨x,C,M,_,rfl,by rw[Yd (Yf x5 Z)];exact x5,T.cl,T.pk,(by show 5<1000;decide),?_⟩;obtain⟨x6,a6,n6,j⟩:=JU (f:="pair_kinds") (o:=.dT []) x5 Z;generalize upd (upd H5 p6 (.dT [])) x (.ins C M (VY "pair_kinds" (.ref p6) (VY "tag_kinds" (.ref p5) (VY "pairs_deep" (.ref p4) (VY "heights" (.ref p3) (VY "worths" (.ref p2) (VY "shapes" (.ref X) [])))))))=H6 at x6 a6 j |-
 let D:KA6:=⟨x,M,X,p2,p3,p4,p5,p6⟩
 have frame:∀b o,b≠x->H b=some o->H6 b=some o:=λb o R h=>j b o R (t b o R (m b o R (k b o R (p b o R (r b o R h)))));have R4:=p _ _ n1 a1;have R3:=k _ _ n1 R4;have R1:=m _ _ n1 R3;have N2:=t _ _ n1 R1;have I3:=j _ _ n1 N2;have M2:=k _ _ n2 a2;have L1:=m _ _ n2 M2;have G3:=t _ _ n2 L1;have I2:=j _ _ n2 G3;have G2:=m _ _ n3 a3;have G1:=t _ _ n3 G2;have I1:=j _ _ n3 G1;have J5:=t _ _ n4 a4;have I0:=j _ _ n4 J5;have F9:=j _ _ n5 a5
 have R8:D.ds.Nodup:=by
  have F8:=Yf a1 N;have F7:=Yf R4 L;have F6:=Yf R3 G;have F5:=Yf R1 J;have F4:=Yf N2 Z;have F3:=Yf a2 L;have F2:=Yf M2 G;have F1:=Yf L1 J;have D3:=Yf G3 Z;have D0:=Yf a3 G;have T9:=Yf G2 J;have T8:=Yf G1 Z;have T7:=Yf a4 J;have T6:=Yf J5 Z;have T5:=Yf a5 Z;simp[KA6.ds,D,F8,F7,F6,F5,F4,F3,F2,F1,D3,D0,T9,T8,T7,T6,T5]
 have kd:KD H6 C D ⟨[],[],[],[],[],[]⟩:=⟨x6,I3,I2,I1,I0,F9,a6,R8⟩
 have R7:∀b,b∈D.ds->H b=none:=λb R=>by
  cases e:H b with
  |none=>rfl
  |some o=>
   simp only[KA6.ds,D,Zb,yp,or_false]at R;rcases R with z|z|z|z|z|z
   .subst z;rw[Z8]at e;cases e
   .subst z;rw[r _ _ n2 e]at N;cases N
   .subst z;rw[p _ _ n3 (r _ _ n3 e)]at L;cases L
   .subst z;rw[k _ _ n4 (p _ _ n4 (r _ _ n4 e))]at G;cases G
   .subst z;rw[m _ _ n5 (k _ _ n5 (p _ _ n5 (r _ _ n5 e)))]at J;cases J
   .subst z;rw[t _ _ n6 (m _ _ n6 (k _ _ n6 (p _ _ n6 (r _ _ n6 e))))]at Z;cases Z
 have T0:l≠x:=JR hl hx (by intro z;cases z);have J4:=frame _ _ T0 hl;have Z9:TL H H6:=⟨λb ys h=>frame _ _ (JR h hx (by intro z;cases z)) h,λb ys h=>frame _ _ (JR h hx (by intro z;cases z)) h⟩;have T2:=HasL.tl Z9 _ J2;refine⟨⟨_,Z1 J4⟩,?_⟩
 let I:kH:=λi U H'=>∃S z1 z2,KFr D H6 H'/\KD H' C D S/\KR H' S (ks.take i) d/\U=[some (.ref x),some (.ref l),z1,z2]
 refine Ua (xs:=xs) I ⟨_,_,_,KFr.refl _ _,kd,?_,rfl⟩ ?_ ?_ ?_
 .rw [vm]
  exact⟨rfl,λy s e=>by simp[VG]at e,λy hy=>by simp at hy,λy hy=>by simp at hy,λy hy=>by simp at hy,λy=>rfl,λa b=>rfl,by decide⟩
 .rintro i U H' _ ⟨S,z1,z2,fr,kd',kr',rfl⟩
  exact Z1 ((fr.tl kd).2 _ _ J4)
 .rintro BB RR i v U H' hv ⟨S,z1,z2,fr,kd',kr',rfl⟩
  have I4:=(ZE.mp hv).1;obtain⟨dv,O,T4⟩:=T2.get hv;rw[ZG]at O
  cases hk:ks[i]? with
  |none=>rw[hk]at O;cases O
  |some ys=>
   rw[hk]at O;cases O;obtain⟨y,sh⟩:=ys;have R5:=fr.tl kd;obtain⟨a,v2,rfl,ha,T3⟩:=Jt (Has.tl R5 _ T4);have my:y∈ks.map (·.1):=ZU.mpr ⟨_,ZH hk,rfl⟩
   have ny:y∉(ks.take i).map (·.1):=λhm=>by
    have q':((ks.take i++[(y,sh)]).map (·.1)).Nodup:=by rw[<-take_snoc hk];exact nd.sublist ((zU _ _).map _)
    rw[ZI]at q';exact(yP.mp q').2.2 y hm y (by simp) rfl
   refine⟨_,Z0 ha,rfl,?_⟩;refine⟨_,_,kd'.ins,CJ D,D,S,y,v2,sh,ks.take i,c,d,rfl,kd',kr',kk.take i,kk i y sh hk,ny,⟨(kg.nm.len y my).1,(kg.nm.len y my).2,kg.nm.abc y my⟩,λts e=>?_,kg.ntk hk,kg.npk hk,T3,by rw[ZL];omega,λH2 S2 f2 T1 J1=>?_⟩
   .subst e
    exact kg.tags (ZH hk)
   .rw [<-take_snoc hk]at J1
    exact⟨S2,_,_,fr.trans f2,T1,J1,rfl⟩
 .rintro U H' ⟨S,z1,z2,fr,kd',kr',rfl⟩
  rw[Ze (by omega)]at kr';refine q H' (λb o R h=>fr b o (λhm=>?_) (frame b o R h)) ⟨D,S,rfl,kd',kr'⟩;rw[R7 b hm]at h;cases h
end
end K4
namespace L2
open PySem
theorem RI{α:Type}{p:α->Bool}{l:List α}{x:α}(h:(l.take i).find? p=none)(e:l[i]?=some x)(Z:p x=true):l.find? p=some x:=by
 have J:=(ZE.mp e).1;have G:l.drop i=x::l.drop (i+1):=by rw[List.drop_eq_getElem_cons J,(ZE.mp e).2]
 rw[<-zZ i l,List.find?_append,h,G,zK,Z]
 rfl
theorem QE(h:VG Z y=some s):∃i:Nat,Z[i]?=some (y,s):=zh.mp (Jo h)
theorem BM(g:KG Z)(h:VG Z y=some (.tags J))(m:t∈J):JB Z t=some y:=by
 obtain⟨i,L⟩:=QE h;have G:Je t (.tags J)=true:=by unfold Je;exact decide_eq_true m
 have n:=g.ntk L t G;unfold JB at n |-
 rw[RI (by cases e:(Z.take i).find? λk=>Je t k.2 with
  |none=>rfl
  |some k=>rw[e]at n;cases n) L G]
 rfl
theorem Na(g:KG Z)(h:VG Z y=some (.pair a b)):V0 Z a b=some y:=by
 obtain⟨i,G⟩:=QE h;have J:JI a b (.pair a b)=true:=by unfold JI;simp
 have n:=g.npk G a b J;unfold V0 at n |-
 rw[RI (by cases e:(Z.take i).find? λk=>JI a b k.2 with
  |none=>rfl
  |some k=>rw[e]at n;cases n) G J]
 rfl
theorem LZ(h:Has H v (.tup [.str b,d])):∃a u,v=.ref a/\H a=some (.tup [.str b,u])/\Has H u d:=by
 obtain⟨t,R,rfl,L,M⟩:=Yz h;obtain⟨T,D,rfl,O,J⟩:=Yb M;obtain⟨G,B,rfl,N,Z⟩:=Yb J;obtain rfl:=VD Z;obtain rfl:=has_str O;exact⟨t,G,rfl,L,N⟩
def IJ:List (Option Str)->Option (kq)
 |[]=>some []
 |none::_=>none
 |some x::r=>(IJ r).map (x:: ·)
theorem BF:∀Z:kq,IJ (Z.map some)=some Z
 |[]=>rfl
 |z::Z=>by show(IJ (Z.map some)).map (z:: ·)=_;rw[BF Z];rfl
theorem R0:∀{l:List (Option Str)},none∈l->IJ l=none
 |none::l,_=>rfl
 |some y::l,h=>by
  show(IJ l).map (y:: ·)=none;rw[R0 ((Zb.mp h).resolve_left λe=>nomatch e)];rfl
theorem G9:∀{l:List (Option Str)},none∉l->∃Z,l=List.map some Z
 |[],_=>⟨[],rfl⟩
 |none::_,h=>Zp ZY h
 |some y::l,h=>let⟨Z,e⟩:=G9 (l:=l) λm=>h (ZK _ m);⟨y::Z,by rw[e];rfl⟩
def Ie:V->Option Str
 |.str y=>some y
 |_=>none
open Classical in
noncomputable def own (ks:kL) (hd:Hds) (kv:kE):Bd->List Str->Option Str
 |.tag t,_=>JB ks t
 |.name x,_=>(VH kv (Sum.inr x)).bind Ie
 |.pair _ _,zs=>match zs with|[a,b]=>V0 ks a b|_=>none
 |.one _,zs=>match zs with|[z]=>(match VG ks z with|some (.pair a _)=>some a|_=>none)|_=>none
 |.other _,zs=>match zs with|[z]=>(match VG ks z with|some (.pair _ b)=>some b|_=>none)|_=>none
 |.choose _ ts _,zs=>match zs with|z::y::r=>if VG ks z=some (.tags ts)/\∀u∈r,u=y then some y else none|_=>none
 |.ask f _,zs=>match hd f with|some (ps,k)=>if ps.map (·.2)=zs then some k else none|none=>none
 |.letb _ z _ _,zs=>match zs with|[a,y]=>if a=z then some y else none|_=>none
def UD(ks:kL)(kv:kE):Bd->Prop
 |.letb x z _ _=>(VH kv (Sum.inr x)).isSome=true\/z∉ks.map (·.1)
 |_=>False
open Classical in
noncomputable def kdn (ks:kL) (hd:Hds):Nat->List (Key×V)->Bd->Option Str
 |0,_,_=>none
 |n+1,kv,b=>if UD ks kv b then none else(IJ (b.parts.map (kdn ks hd n (wth kv b)))).bind (own ks hd kv b)
theorem G4(h:UD J Z b):kdn J G (n+1) Z b=none:=by unfold kdn;exact Zn h
theorem Xd(h:none∈b.parts.map (kdn J G n (wth Z b))):kdn J G (n+1) Z b=none:=by
 unfold kdn;split
 .rfl
 .rw [R0 h];rfl
theorem XE(h:¬UD ks kv b)(e:b.parts.map (kdn ks Z n (wth kv b))=zs.map some):kdn ks Z (n+1) kv b=own ks Z kv b zs:=by unfold kdn;rw[Zo h,e,BF];rfl
def NK(ns:kq)(kv:kE):Prop:=∀q∈kv,∃(x k:Str),q=(Sum.inr x,V.str k)/\k∈ns
def HK(ns:kq)(hd:Hds):Prop:=∀f Z k,hd f=some (Z,k)->k∈ns
theorem NK.wth(h:NK (J.map (·.1)) Z)(G:¬UD J Z b):NK (J.map (·.1)) (wth Z b):=by
 cases b with
 |letb x z e g=>
  intro q L;rcases Kg L with m|rfl
  .exact h q m
  .exact ⟨x,z,rfl,Classical.not_not.mp λm=>G (.inr m)⟩
 |_=>exact h
theorem Ny{Z:kL}{p:Str×Shp->Bool}(h:(Z.find? p).map (·.1)=some y):y∈Z.map (·.1):=by
 obtain⟨k,J,rfl⟩:=Zh.mp h;exact ZU.mpr ⟨k,zw J,rfl⟩
theorem NK.at(h:NK Z J)(e:VH J (Sum.inr x)=some v):∃k,v=.str k/\k∈Z:=by
 obtain⟨q,m,_,rfl⟩:=IR e;obtain⟨_,k,rfl,G⟩:=h q m;exact⟨k,rfl,G⟩
theorem Ov(G:KK 30 c d Z)(N:NK (Z.map (·.1)) J)(R:HK (Z.map (·.1)) T)(L:∀z∈M,z∈Z.map (·.1))(h:own Z T J b M=some y):y∈Z.map (·.1):=by
 cases b with
 |tag t=>exact Ny h
 |name x=>
  obtain⟨v,O,e⟩:=Option.bind_eq_some_iff.mp (show(VH J (Sum.inr x)).bind Ie=some y from h);obtain⟨k,rfl,m⟩:=N.at O;cases e;exact m
 |pair a b=>
  unfold own at h;dsimp only at h;split at h
  .exact Ny h
  .cases h
 |one e=>
  unfold own at h;dsimp only at h;split at h
  .split at h
   .rename_i hs;cases h;exact(G.at hs).1
   .cases h
  .cases h
 |other e=>
  unfold own at h;dsimp only at h;split at h
  .split at h
   .rename_i hs;cases h;exact(G.at hs).2.1
   .cases h
  .cases h
 |choose e B D=>
  unfold own at h;dsimp only at h;split at h
  .split at h
   .cases h;exact L _ (by simp)
   .cases h
  .cases h
 |ask f E=>
  unfold own at h;dsimp only at h;split at h
  .split at h
   .rename_i hf _;cases h;exact R _ _ _ hf
   .cases h
  .cases h
 |letb x z e g=>
  unfold own at h;dsimp only at h;split at h
  .split at h
   .cases h;exact L _ (by simp)
   .cases h
  .cases h
theorem M3(L:KK 30 c d Z)(M:HK (Z.map (·.1)) G):∀(n:Nat)(J:kE)(b:Bd)(y:Str),NK (Z.map (·.1)) J->kdn Z G n J b=some y->y∈Z.map (·.1)
 |0,_,_,_,_,h=>nomatch h
 |n+1,J,b,y,nk,h=>by
  by_cases nb:UD Z J b
  .rw [G4 nb]at h;cases h
  by_cases hn:none∈b.parts.map (kdn Z G n (wth J b))
  .rw [Xd hn]at h;cases h
  obtain⟨R,N⟩:=G9 hn;rw[XE nb N]at h;refine Ov L nk M (λz O=>?_) h;have m:some z∈b.parts.map (kdn Z G n (wth J b)):=by rw[N];exact ZU.mpr ⟨z,O,rfl⟩
  obtain⟨p,_,e⟩:=ZU.mp m;exact M3 L M n _ p z (nk.wth nb) e
theorem SM(N:KG L)(F:∀e G J,b=.choose e G J->1<=J.length)(h:Kr L D M y b R):own L D M b R=some y:=by
 cases b with
 |tag t=>obtain⟨_,G,Z,T⟩:=h;exact BM N Z T
 |name x=>obtain⟨_,Z⟩:=h;show(VH M (Sum.inr x)).bind Ie=_;rw[Z];rfl
 |pair a b=>obtain⟨U,O,rfl,Z⟩:=h;exact Na N Z
 |one e=>obtain⟨z,O,rfl,Z⟩:=h;show(match VG L z with|some (.pair a _)=>some a|_=>none)=_;rw[Z]
 |other e=>obtain⟨z,O,rfl,Z⟩:=h;show(match VG L z with|some (.pair _ b)=>some b|_=>none)=_;rw[Z]
 |choose e G J=>
  obtain⟨z,rfl,Z,I⟩:=h;have:=F e G J rfl;obtain⟨m,E⟩:∃m,J.length=m+1:=⟨J.length-1,by omega⟩;rw[E,List.replicate_succ];exact Zn ⟨Z,λu B=>List.eq_of_mem_replicate B⟩
 |ask f S=>
  obtain⟨A,Z,rfl⟩:=h;unfold own;dsimp only;rw[Z];exact Zn rfl
 |letb x z e g=>obtain⟨rfl,_,_⟩:=h;exact Zn rfl
theorem Kd.kdn(T:KG G)(O:∀z L,VG G z=some (.tags L)->1<=L.length):∀(n:Nat)(J:kE)(b:Bd)(y:Str),Kd G D J y b->b.dep<n->L2.kdn G D n J b=some y
 |0,_,_,_,_,h=>nomatch h
 |n+1,J,b,y,h,hn=>by
  obtain⟨Z,M,R,A⟩:=h.inv
  have E:¬UD G J b:=by
   cases b with
   |letb x z e g=>obtain⟨_,N,I⟩:=M;exact λm=>m.elim (λm=>by rw[N]at m;cases m) (λm=>m I)
   |_=>exact id
  have e:b.parts.map (L2.kdn G D n (L2.wth J b))=Z.map some:=by
   refine yx λi=>?_;rw[ZG,ZG]
   cases hp:b.parts[i]? with
   |none=>
    have:Z[i]?=none:=zo.mpr (by rw[R];exact zo.mp hp);rw[this];rfl
   |some p=>
    have S:i<Z.length:=by rw[R];exact(ZE.mp hp).1
    have B:Z[i]?=some Z[i]:=ZC S;have:=Bd.dep_mem (ZH hp);rw[B];exact congrArg some (Kd.kdn T O n _ p _ (A i p _ hp B) (by omega))
  rw[XE E e];refine SM T (λC L X U=>?_) M;subst U;obtain⟨z,_,N,F⟩:=M;rw[F];exact O _ _ N
def wrs(f:Bd->List (kz)):Nat->List Bd->List (kz)
 |_,[]=>[]
 |k,c::cs=>(f c).map (((k:Nat):Int):: ·)++ wrs f (k+1) cs
open Classical in
noncomputable def wr (ks:kL) (hd:Hds):Nat->List (Key×V)->Bd->List (kz)
 |0,_,_=>[]
 |n+1,kv,b=>if UD ks kv b then[[]]else if none∈b.parts.map (kdn ks hd n (wth kv b))then wrs (wr ks hd n (wth kv b)) 0 b.parts else if kdn ks hd (n+1) kv b=none then[[]]else[]
theorem MC{f:Bd->List (kz)}:∀(k:Nat)(Z J:List Bd),wrs f k (Z++ J)=wrs f k Z++ wrs f (k+Z.length) J
 |k,[],J=>by simp[wrs]
 |k,x::Z,J=>by
  have e:k+1+Z.length=k+(Z.length+1):=by omega
  simp[wrs,MC (k+1) Z J,e]
theorem IM{f:Bd->List (kz)}{Z:List Bd}(h:Z[i]?=some c):wrs f 0 (Z.take (i+1))=wrs f 0 (Z.take i)++ (f c).map (((i:Nat):Int):: ·):=by
 have J:=(ZE.mp h).1;rw[take_snoc h,MC];simp[wrs,ZL,zQ (Zf J)]
theorem MB{f:Bd->List (kz)}:∀(k:Nat)(Z:List Bd),wrs f k Z=[]↔∀c∈Z,f c=[]
 |k,[]=>by simp[wrs]
 |k,x::Z=>by simp[wrs,MB (k+1) Z]
theorem MD:∀(n:Nat)(Z:kE)(b:Bd),b.dep<n->(wr J G n Z b=[]↔kdn J G n Z b≠none)
 |0,_,_,h=>Zp h (Zu _)
 |n+1,Z,b,h=>by
  unfold wr
  by_cases c1:UD J Z b
  .rw [Zn c1,G4 c1];simp
  .rw [Zo c1]
   by_cases c2:none∈b.parts.map (kdn J G n (wth Z b))
   .rw [Zn c2,Xd c2]
    refine⟨λe=>?_,λe=>Zp rfl e⟩;obtain⟨c,L,M⟩:=ZU.mp c2;have N:=Bd.dep_mem L;exact Zp M ((MD n (wth Z b) c (by omega)).mp ((MB 0 _).mp e c L))
   .rw [Zo c2]
    by_cases c3:kdn J G (n+1) Z b=none
    .rw [Zn c3];simp[c3]
    .rw [Zo c3];simp[c3]
theorem OE(h:¬UD J Z b)(e:none∈b.parts.map (kdn J G n (wth Z b))):wr J G (n+1) Z b=wrs (wr J G n (wth Z b)) 0 b.parts:=by
 unfold wr;rw[Zo h,Zn e]
theorem IP(h:UD J Z b):[[]]=wr J G (n+1) Z b:=by unfold wr;rw[Zn h]
theorem Qg(h:¬UD J Z b)(e:none∉b.parts.map (kdn J G n (wth Z b)))(k:kdn J G (n+1) Z b=none):[[]]=wr J G (n+1) Z b:=by unfold wr;rw[Zo h,Zo e,Zn k]
theorem IN{G:List Bd}(h:∀c∈G,c.dep<n):wrs (wr L M n J) k G=[]↔none∉G.map (kdn L M n J):=by
 rw[MB]
 constructor
 .intro z m
  obtain⟨c,Z,e⟩:=ZU.mp m;exact(MD n J c (h c Z)).mp (z c Z) e
 .intro z c Z
  exact(MD n J c (h c Z)).mpr λe=>z (ZU.mpr ⟨c,Z,e⟩)
theorem E4{f:Bd->List (kz)}{Z:List Bd}(h:Z[i]?=some c)(e:wrs f 0 (Z.take i)=[])(J:f c=w::r):∃t,wrs f 0 Z=(((i:Nat):Int)::w)::t:=by
 refine⟨r.map (((i:Nat):Int):: ·)++ wrs f (0+(Z.take (i+1)).length) (Z.drop (i+1)),?_⟩
 conv=>lhs;rw[<-zZ (i+1) Z]
 rw[MC,IM h,e,J];simp
end L2
namespace L2
open PySem PySem.Spec PyProof.Rows
section
variable{X:Cx}{CX:CXT}{k:Nat}{E:XK}{ta ti:TE}{t:TA}
def Qq(X:Cx)(CX:CXT)(k:Nat)(E:XK)(ta:TE)(t:TA):TE:=λU H Q=>ta U H λv L=>∃(f:Addr)(G:FuncData)(J:kq)(Z:Sp),v=.ref f/\Yk X.prog X.w X.K X.mg X.base CX k f G J Z/\W.keepIn X.K (.ref f)=true/\Binds X.K G J []/\Ic Z [] E t U L Q
theorem Ko(A:PE X (.Name x p) ta)(B:Vk k X.A)(T:UV CX X E)(P:PA X (e::es) t)(S:starEach (e::es) X.env=(false,eval e X.env)::starEach es X.env:=by rfl)(J:(backTo pos (starEach es X.env)).any (·.1)=false:=by rfl):
  PE X (.Call (.Name x p) (e::es) [] pos) (Qq X CX k E ta t):=by
 intro Z s U H Q I h;refine yg (thn (A Z s U H _ I h) λu M ⟨v,y,L,O,f,w,d,g,j,F,D,C,q⟩=>?_);subst j;obtain rfl:u=Value.ref f:=O;refine vv (h₀:=X.base) L.ok.mod.kin D (thn (P pos Z M U y _ L q) λm c ⟨z,r,G,N,R⟩=>⟨G.kIn,?_⟩) S J;exact Ml F B C .nil T G N R
def AQ(a:Addr)(m:Key->Option Value)(ti:TE):TE:=λU H Q=>ti U H λv Z=>∃(q:Key)(u:Value)(y:V),v=kV q/\m q=some u/\RelV y u/\Q y Z
theorem Os(A:Gl X x)(D:X.mg x=some (.ref a))(S:X.base.MapOf (VP X.prog X.w) a m)(f:X.A.units+1<cLine)(F:PE X i ti)(B:AH i)(G:(x==("__debug__":Str))=false:=by decide):
  PE X (.Subscript (.Name x p) i pos) (AQ a m ti):=by
 intro Z s U H Q I h;refine D6 PySem.F.slot_dict_getitem.lookup B (XC I A D ?_ G);refine thn (F Z s U H _ I h) λd L ⟨v,c,N,O,q,u,y,P,T,J,R⟩=>?_;subst P;have M:L.heap.MapOf (VP X.prog X.w) a m:=let⟨o,j,z,C,r⟩:=S;⟨o,j,z,N.bk _ _ C,r⟩
 have g:L.TypeIs (.ref a) "dict":=M.typeIs;refine⟨g,?_⟩;exact wpAny_getItem_of (Gb O) M T ⟨y,c,N.tok _,J,R⟩
end
end L2
namespace L2
open PySem
structure BA where
 t:Addr
 dx:Addr
 so:Addr
 td:Addr
 rd:Addr
 tn:Addr
def Xg(A:BA):List (Str×V):=[("sorts",.ref A.so),("told",.ref A.td),("rows",.ref A.rd),("turns",.ref A.tn)]
def psD(ps:List (Str×Str)):Dat:=.tup (ps.map λp=>.tup [.str p.1,.str p.2])
def XQ(x:Dd):Dat:=.tup [psD x.1.2.1,.str x.1.2.2,x.2.dat]
structure BD(H:Hp)(C CK:Addr)(A:BA)(kv:List (Key×V))(ks:List (Str×Shp))(d:Str->Nat)(ds:List Dd):Prop where
 ins:H A.t=some (.ins C A.dx (Xg A))
 so:KI H CK A.so ks d
 td:H A.td=some (.dK kv)
 ke:kv.map (·.1)=ds.map (λx=>(Sum.inr x.1.1:Key))
 va:HasL H (kv.map (·.2)) (ds.map XQ)
 nd:(ds.map λx=>x.1.1).Nodup
def BI(H:Hp)(C CK t:Addr)(ks:kL)(d:kM)(ds:List Dd):Prop:=∃A Z,A.t=t/\BD H C CK A Z ks d ds
theorem BI.mono(b:BI H C M t J d G)(e:Same H L):BI L C M t J d G:=by
 obtain⟨A,Z,h,k⟩:=b;exact⟨A,Z,h,e _ _ k.ins,k.so.mono e,e _ _ k.td,k.ke,k.va.mono e,k.nd⟩
structure BCl(K:W.Frag)(C:Addr):Prop where
 cl:Cls K C
 so:JD K C "sorts"
 td:JD K C "told"
 rd:JD K C "rows"
 tn:JD K C "turns"
theorem Li(A:BA):(Xg A).lookup ("sorts":Str)=some (V.ref A.so):=rfl
theorem Fj(A:BA):(Xg A).lookup ("told":Str)=some (V.ref A.td):=rfl
theorem CI(A:BA):(Xg A).lookup ("told_of":Str)=none:=rfl
theorem BD.at(b:BD H C I A J E d O)(h:x∈O):∃v,Vx H A.td (.str x.1.1) (some v)/\Has H v (XQ x):=by
 obtain⟨i,M⟩:=zh.mp h;have Z:(J.map (·.1))[i]?=(O.map (λx=>(Sum.inr x.1.1:Key)))[i]?:=by rw[b.ke]
 rw[ZG,ZG,M]at Z
 cases ek:J[i]? with
 |none=>rw[ek]at Z;cases Z
 |some q=>
  rw[ek]at Z;have B:q.1=Sum.inr x.1.1:=ZP Z
  have T:(J.map (·.1)).Nodup:=by
   rw[b.ke];have G:=b.nd;unfold List.Nodup at G |-;rw[yz]at G |-;exact G.imp λL z=>L (Sum.inr.inj z)
  obtain⟨F,R,D⟩:=b.va.get (show(J.map (·.2))[i]?=some q.2 by rw[ZG,ek];rfl);rw[ZG,M]at R;cases R;refine⟨q.2,?_,D⟩;have N:=Gk T (ZH ek);rw[B]at N;rw[<-N];exact Vx.k (k:=Sum.inr x.1.1) b.td
theorem RB(h:Has H v (XQ x)):∃a u w,v=.ref a/\H a=some (.tup [u,.str x.1.2.2,w])/\Has H u (psD x.1.2.1)/\Has H w x.2.dat:=by
 unfold XQ at h;obtain⟨t,D,rfl,N,O⟩:=Yz h;obtain⟨M,I,rfl,B,G⟩:=Yb O;obtain⟨E,A,rfl,T,J⟩:=Yb G;obtain⟨L,F,rfl,R,Z⟩:=Yb J;obtain rfl:=VD Z;obtain rfl:=has_str T;exact⟨t,M,L,rfl,N,B,R⟩
end L2
namespace K4
open PySem L2
section
variable{f g C CK:Addr}
def JE(C CK:Addr):Sp:=λG H Q _=>∃(t:Addr)(J:kL)(d:kM)(L:List Dd),G=[.ref t]/\BI H C CK t J d L/\∀Z,KI H CK Z J d->Q (.ref Z) H
theorem KM:Yo ["self"] ["self"] (Yc Mh):=Y3
theorem Fa(T:BCl K C)(F:Fun K "kinds" "Book.kinds" Mh f J):Yk P w K M base CX0 (n+1) f J ["self"] (JE C CK):=by
 refine F.oq KM λG A Z s H L Q E R h=>?_;obtain⟨t,O,d,B,rfl,⟨D,N,rfl,b⟩,q⟩:=h;refine⟨_,YY (Yt (Y8 (pv 0) rfl)),?_⟩;exact⟨C,_,_,_,b.ins,T.cl,T.so,Li _,q _ b.so⟩
def WI(C CK:Addr):Sp:=λG H Q _=>∃(t:Addr)(L:kL)(d:kM)(J:List Dd),G=[.ref t]/\BI H C CK t L d J/\∀l Z,Same H Z->H l=none->Z l=some (.lst (J.map λx=>V.str x.1.1))->Q (.ref l) Z
theorem KL:Yo ["self"] ["self"] (Yc Mg):=Y3
theorem FZ(B:Blt L)(T:BCl K C)(F:Fun K "names" "Book.names" Mg f M):Yk P w K L base CX0 (n+1) f M ["self"] (WI C CK):=by
 refine F.oq KL λN A Z s H O Q E D h=>?_;obtain⟨t,R,d,I,rfl,⟨S,J,rfl,b⟩,q⟩:=h;refine⟨_,YY (Yt (VA (UU rfl) rfl B.list Vw (pa1 (Y8 (pv 0) rfl)))),?_⟩;refine⟨C,_,_,_,b.ins,T.cl,T.td,Fj _,_,_,rfl,b.td,λl G=>?_⟩;refine q l _ (Yg G _) G ?_;rw[Ya];have e:(J.map λq=>kV q.1)=(J.map (·.1)).map kV:=by rw[za];rfl
 rw[e,b.ke,za]
 rfl
def MJ(C CK:Addr):Sp:=λJ H Q _=>∃(t:Addr)(G:kL)(d:kM)(Z:List Dd)(x:Dd),J=[.ref t,.str x.1.1]/\BI H C CK t G d Z/\x∈Z/\∀v,Has H v (XQ x)->Q v H
theorem Oa:Yo ["self","F"] ["self","F"] (Yc Bt):=Y3
theorem O1(B:Blt L)(T:BCl K C)(F:Fun K "told_of" "Book.told_of" Bt f R):Yk P w K L base CX0 (n+1) f R ["self","F"] (MJ C CK):=by
 refine F.oq Oa λD A Z s H I Q E N h=>?_;obtain⟨t,U,d,X,x,rfl,⟨j,S,rfl,b⟩,M,q⟩:=h;have J:=Jl N;obtain⟨v,G,O⟩:=b.at M;refine⟨_,YW (Y5 (PW.pt (UF (Ja (JZ (Mt rfl B.isi rfl B.str Ru (pv 1)))) (Jz (UB (Up J (pv 1) (Y8 (pv 0) rfl)))))) (YY V8) Yv)
  (YY (Yt (JM J (Y8 (pv 0) rfl) (pv 1) (λ_ _=>rfl)))),?_⟩
 show let a:=_;let b:=_;Yh (VN _ b _) a _ _ _
 intros
 refine⟨_,_,_,_,rfl,.str _,Tz K "str",_,rfl,Y9 (by simp) ?_⟩;refine⟨C,_,_,_,b.ins,T.cl,T.td,Fj _,_,G,_,rfl,Y9 (by simp) ?_⟩;exact⟨C,_,_,_,b.ins,T.cl,T.td,Fj _,v,G,q v O⟩
end
end K4
namespace L2
open PySem
def Uq(o:Option Str):V:=(o.map V.str).getD .non
theorem A8{α:Type}{Z:List α}(h:Z.length=1):∃a,Z=[a]:=match Z,h with|[a],_=>⟨a,rfl⟩
theorem A7{α:Type}{Z:List α}(h:Z.length=2):∃a b,Z=[a,b]:=match Z,h with|[a,b],_=>⟨a,b,rfl⟩
def Bd.word:Bd->Str
 |.tag _=>"tag"
 |.name _=>"name"
 |.pair _ _=>"pair"
 |.one _=>"one"
 |.other _=>"other"
 |.choose _ _ _=>"choose"
 |.ask _ _=>"ask"
 |.letb _ _ _ _=>"let"
theorem Nu{b:Bd}(h:Has H v b.dat):∃a Z,v=.ref a/\H a=some (.tup (.str b.word::Z)):=by
 obtain⟨J,e⟩:∃J,b.dat=.tup (.str b.word::J):=by cases b <;> exact⟨_,by unfold Bd.dat;rfl⟩
 rw[e]at h;obtain⟨t,Z,rfl,L,M⟩:=Yz h;obtain⟨O,G,rfl,N,_⟩:=Yb M;obtain rfl:=has_str N;exact⟨t,G,rfl,L⟩
theorem EZ(h:Has H v (Bd.letb x k e b).dat):∃a T R,v=.ref a/\H a=some (.tup [.str "let",.str x,.str k,T,R]):=by
 unfold Bd.dat at h;obtain⟨t,I,rfl,B,D⟩:=Yz h;obtain⟨C,y,rfl,A,M⟩:=Yb D;obtain⟨U,j,rfl,F,L⟩:=Yb M;obtain⟨S,Q,rfl,E,G⟩:=Yb L;obtain⟨O,P,rfl,q,J⟩:=Yb G;obtain⟨N,X,rfl,z,Z⟩:=Yb J;obtain rfl:=VD Z;obtain rfl:=has_str A;obtain rfl:=has_str F;obtain rfl:=has_str E;exact⟨t,O,N,rfl,B⟩
end L2
namespace K4
open PySem L2
section
variable{f g C CK:Addr}
def BR(C CK:Addr):Sp:=λJ H Q _=>∃(t:Addr)(G:kL)(d:kM)(Z:List Dd)(x:Dd),J=[.ref t,.str x.1.1]/\BI H C CK t G d Z/\x∈Z/\∀v,Has H v (psD x.1.2.1)->Q v H
def MO(C CK:Addr):Sp:=λJ H Q _=>∃(t:Addr)(G:kL)(d:kM)(Z:List Dd)(x:Dd),J=[.ref t,.str x.1.1]/\BI H C CK t G d Z/\x∈Z/\Q (.str x.1.2.2) H
theorem Q1:Yo ["self","F"] ["self","F"] (Yc Bv):=Y3
theorem OV:Yo ["self","F"] ["self","F"] (Yc Bw):=Y3
theorem O6(T:BCl K C)(F:Fun K "parameters" "Book.parameters" Bv f I)(m:Vn K C "told_of" g)(G:Yk P w K J base CX0 n g D ["self","F"] (MJ C CK))(X:Binds K D ["self","F"] []):Yk P w K J base CX0 (n+1) f I ["self","F"] (BR C CK):=by
 refine F.oq Q1 λU A Z s H k Q E R h=>?_;obtain⟨t,L,d,S,x,rfl,b,M,q⟩:=h;obtain⟨y,p,rfl,j⟩:=id b;refine⟨_,YY (Yt (Yi Yl (Vg (pv 0) T.cl m G R X .nil VI (pa1 (pv 1))) YX)),?_⟩;refine⟨_,_,j.ins,CI _,y.t,L,d,S,x,rfl,b,M,λv N=>?_⟩;obtain⟨a,u,z,rfl,B,O,_⟩:=RB N;exact⟨_,_,Z0 B,rfl,q u O⟩
theorem K2(T:BCl K C)(F:Fun K "kind_of" "Book.kind_of" Bw f D)(m:Vn K C "told_of" g)(G:Yk P w K J base CX0 n g B ["self","F"] (MJ C CK))(U:Binds K B ["self","F"] []):Yk P w K J base CX0 (n+1) f D ["self","F"] (MO C CK):=by
 refine F.oq OV λS A Z s H z Q E O h=>?_;obtain⟨t,L,d,I,x,rfl,b,M,q⟩:=h;obtain⟨j,k,rfl,X⟩:=id b;refine⟨_,YY (Yt (Yi Yl (Vg (pv 0) T.cl m G O U .nil VI (pa1 (pv 1))) YX)),?_⟩;refine⟨_,_,X.ins,CI _,j.t,L,d,I,x,rfl,b,M,λv N=>?_⟩;obtain⟨a,u,y,rfl,R,p,_⟩:=RB N;exact⟨_,_,Z0 R,rfl,q⟩
def WG(C CK:Addr)(p:Bd->Prop):Sp:=λO H Q _=>∃(t a M:Addr)(v:V)(Z:kL)(c d:kM)(L:List Dd)(G:kE)(b:Bd)(J:kq),
 O=[.ref t,.ref a,v,.ref M]/\BI H C CK t Z d L/\KK 30 c d Z/\NK (Z.map (·.1)) G/\(∀x∈L,x.1.2.1.length<=3)/\Rd H a (.dK G)/\Has H v b.dat/\b.ok/\p b/\H M=some (.lst (J.map V.str))/\J.length=b.parts.length/\(∀z∈J,z∈Z.map (·.1))/\∀N,Same H N->Q (Uq (own Z (Y2 (L.map (·.1))) G b J)) N
abbrev rps:kq:=["book","around","body","found"]
theorem Q2:Yo ["book","around","body","found"] ["book","around","body","found"] (Yc KP):=Y3
theorem OY:Yo ["book","around","body","found"] ["book","around","body","found"] (Yc Br):=Y3
theorem OX:Yo ["book","around","body","found"] ["book","around","body","found"] (Yc Bq):=Y3
theorem Q5:Yo ["book","around","body","found"] ["book","around","body","found"] (Yc KS):=Y3
theorem O8(r:BCl K C)(TK:KCl K CK)(F:Fun K "kind_of_tag_body" "kind_of_tag_body" KP f X)(B:Vn K C "kinds" U)(e:Yk P w K J base CX0 n U z ["self"] (JE C CK))(p:Binds K z ["self"] [])(T:Vn K CK "kind_of_tag" S)(l:Yk P w K J base CX0 n S y ["self","tag"] (TV CK))(k:Binds K y ["self","tag"] []):Yk P w K J base CX0 (n+1) f X rps (WG C CK λb=>∃t,b=.tag t):=by
 refine F.oq Q2 λm A Z s H vs Q E N h=>?_;obtain⟨t,a,fl,v,G,c,d,j,kv,b,x,rfl,O,kk,nk,pl,ha,M,ok,⟨R,rfl⟩,hf,lz,hz,q⟩:=h;obtain⟨i,kt,rfl,u⟩:=id O;refine⟨_,YY (Yt (Vg (VU (pv 0) r.cl B e N p .nil VI) TK.cl T l N k .nil VI (pa1 (Yi Yl (pv 2) YX)))),?_⟩;unfold Bd.dat at M;obtain⟨bt,rfl,I⟩:=Xp M;refine⟨_,_,u.ins,rfl,i.t,G,d,j,rfl,O,λso L=>?_⟩;obtain⟨o,SK,rfl,D,kr⟩:=id L;exact⟨_,_,D.ins,rfl,_,_,Z0 I,rfl,o.t,G,d,R,rfl,L,q H (Z6 _)⟩
theorem K1(F:Fun K "kind_of_name_body" "kind_of_name_body" Br f B):Yk P w K j base CX0 (n+1) f B rps (WG C CK λb=>∃x,b=.name x):=by
 refine F.oq OY λD A G s H S Q E R h=>?_;obtain⟨t,a,r,v,z,c,d,l,J,b,I,rfl,i,m,N,U,M,L,X,⟨x,rfl⟩,u,y,p,q⟩:=h;have O:=Jl R;refine⟨_,YY (Yt (Tp O (pv 1) (Yi Yl (pv 2) YX) ⟨rfl,rfl,rfl,rfl⟩)),?_⟩;unfold Bd.dat at L;obtain⟨o,rfl,T⟩:=Xp L;refine⟨.inl ⟨J,M⟩,_,_,Z0 T,rfl,_,.inl ⟨J,Sum.inr x,M,rfl,rfl⟩,?_⟩;have Z:Q (Uq ((VH J (Sum.inr x)).bind Ie)) H:=q H (Z6 _)
 cases e:VH J (Sum.inr x)with
 |none=>rw[e]at Z;exact Z
 |some v=>
  obtain⟨k,rfl,_⟩:=N.at e;rw[e]at Z;exact Z
theorem K0(l:BCl K C)(TK:KCl K CK)(F:Fun K "kind_of_pair_body" "kind_of_pair_body" Bq f j)(D:Vn K C "kinds" X)(i:Yk P w K J base CX0 n X m ["self"] (JE C CK))(u:Binds K m ["self"] [])(B:Vn K CK "kind_of_pair" U)(o:Yk P w K J base CX0 n U z ["self","one","other"] (Wg CK))(p:Binds K z ["self","one","other"] []):Yk P w K J base CX0 (n+1) f j rps (WG C CK λb=>∃e g,b=.pair e g):=by
 refine F.oq OX λk A Z s H vs Q E M h=>?_;obtain⟨t,a,fl,v,G,c,d,y,kv,b,zs,rfl,O,kk,nk,pl,ha,hv,ok,⟨e,g,rfl⟩,N,I,hz,q⟩:=h;obtain⟨T,R,rfl⟩:=A7 I;obtain⟨A',kt,rfl,r⟩:=id O;refine⟨_,YY (Yt (Vg (VU (pv 0) l.cl D i M u .nil VI) TK.cl B o M p .nil VI (pa2 (Yi Y4 (pv 3) YX) (Yi Y4 (pv 3) YX)))),?_⟩;refine⟨_,_,r.ins,rfl,A'.t,G,d,y,rfl,O,λso L=>?_⟩;obtain⟨x,SK,rfl,S,kr⟩:=id L;exact⟨_,_,S.ins,rfl,_,_,Z1 N,rfl,_,_,Z1 N,rfl,x.t,G,d,T,R,rfl,L,q⟩
theorem PB(F:Fun K "kind_of_let_body" "kind_of_let_body" KS f T):Yk P w K z base CX0 (n+1) f T rps (WG C CK λb=>∃x k e g,b=.letb x k e g):=by
 refine F.oq Q5 λB A J s H I Q E l h=>?_;obtain⟨t,a,i,v,p,c,d,ds,m,b,D,rfl,bi,u,y,X,o,O,j,⟨x,k,e,g,rfl⟩,L,N,r,q⟩:=h;obtain⟨G,M,rfl⟩:=A7 N;refine⟨_,YW (Y5 (Ys XY (Yi Y4 (pv 3) YX) (Yi Yl (pv 2) YX) (Yy _)) (YY (Yt V4)) Yv)
  (YY (Yt (Yi Y4 (pv 3) YX))),?_⟩
 obtain⟨bt,U,S,rfl,R⟩:=EZ O;have Z:Q (Uq (if G=k then some M else none)) H:=q H (Z6 _);refine⟨_,_,Z1 L,rfl,_,_,Z0 R,rfl,rfl,_,rfl,?_⟩
 by_cases c1:G=k
 .rw [Zn c1]at Z
  exact Y9 (by simp[c1]) ⟨_,_,Z1 L,rfl,Z⟩
 .rw [Zo c1]at Z
  exact V1 (by simpa using c1) Z
def Gn(C CK:Addr):Sp:=λJ H Q _=>∃(t:Addr)(Z:kL)(d:kM)(L:List Dd)(z:Str)(s:Shp)(i:Nat),J=[.ref t,.str z,.int i]/\BI H C CK t Z d L/\VG Z z=some s/\(∀G,s=.tags G->Q .non H)/\∀a b,s=.pair a b->(i=1/\Q (.str a) H\/i=2/\Q (.str b) H)
theorem EE:Yo ["book","kind","at","shape"] ["book","kind","at"] (Yc Bp):=Y3
theorem Kz(TB:BCl K C)(TK:KCl K CK)(F:Fun K "kind_of_part" "kind_of_part" Bp f p)(X:Vn K C "kinds" k)(G1:Yk P w K G base CX0 n k r ["self"] (JE C CK))(x:Binds K r ["self"] [])(U:Vn K CK "shape_of" m)(G2:Yk P w K G base CX0 n m u ["self","kind"] (Jy CK))(o:Binds K u ["self","kind"] []):Yk P w K G base CX0 (n+1) f p ["book","kind","at"] (Gn C CK):=by
 refine F.oq EE λe A J s H vs Q E O h=>?_;obtain⟨t,L,d,c,z,B,i,rfl,R,y,D,I⟩:=h;obtain⟨A',kt,rfl,b'⟩:=id R;refine⟨_,YW (Ym 3 EE.nd (Vg (VU (pv 0) TB.cl X G1 O x .nil VI) TK.cl U G2 O o .nil VI (pa1 (pv 1))))
  (YW (Y5 (Ys XY (Yi Yl (pv 3) YX) Y7 (Yy _)) (YY (Yt V4)) Yv)
  (YY (Yt (Yi Yl (pv 3) (pv 2) (λ_ _=>rfl))))),?_⟩
 refine⟨_,_,b'.ins,rfl,A'.t,L,d,c,rfl,R,λso M=>?_⟩;obtain⟨AK,SK,rfl,j,kr⟩:=id M;refine⟨_,_,j.ins,rfl,AK.t,L,d,z,_,rfl,M,y,λv N=>?_⟩
 cases B with
 |tags T=>
  obtain⟨S,l,rfl,Z,hl⟩:=Jg N;exact⟨_,_,Z0 Z,rfl,rfl,_,rfl,V1 (by decide +kernel) (D T rfl)⟩
 |pair a b=>
  obtain⟨S,rfl,Z⟩:=X7 N;refine⟨_,_,Z0 Z,rfl,rfl,_,rfl,Y9 (by decide +kernel) ?_⟩;rcases I a b rfl with⟨rfl,q⟩|⟨rfl,q⟩
  .exact ⟨_,_,Z0 Z,rfl,q⟩
  .exact ⟨_,_,Z0 Z,rfl,q⟩
theorem Q3:Yo ["book","around","body","found"] ["book","around","body","found"] (Yc KQ):=Y3
theorem KF:Yo ["book","around","body","found"] ["book","around","body","found"] (Yc Md):=Y3
theorem O9(F:Fun K "kind_of_one_body" "kind_of_one_body" KQ f D)(X:Df P w K N base n "kind_of_part" ["book","kind","at"] (Gn C CK)):Yk P w K N base CX0 (n+1) f D rps (WG C CK λb=>∃e,b=.one e):=by
 refine F.oq Q3 λS A J s H y Q E T h=>?_;obtain⟨t,a,x,v,G,c,d,I,r,b,j,rfl,U,l,u,k,i,o,p,⟨e,rfl⟩,B,O,R,q⟩:=h;obtain⟨z,rfl⟩:=A8 O;refine⟨_,YY (Yt (Yw X T (pa3 (pv 0) (Yi Y4 (pv 3) YX) YX))),?_⟩;obtain⟨M,L⟩:=JJ (R z (by simp));have Z:Q (Uq (match VG G z with|some (.pair a _)=>some a|_=>none)) H:=q H (Z6 _);rw[L]at Z;exact⟨_,_,Z1 B,rfl,t,G,d,I,z,M,1,rfl,U,L,λm e=>by rw[e]at Z;exact Z,λa b e=>.inl ⟨rfl,by rw[e]at Z;exact Z⟩⟩
theorem FU(F:Fun K "kind_of_other_body" "kind_of_other_body" Md f D)(X:Df P w K N base n "kind_of_part" ["book","kind","at"] (Gn C CK)):Yk P w K N base CX0 (n+1) f D rps (WG C CK λb=>∃e,b=.other e):=by
 refine F.oq KF λS A J s H y Q E T h=>?_;obtain⟨t,a,x,v,G,c,d,I,r,b,j,rfl,U,l,u,k,i,o,p,⟨e,rfl⟩,B,O,R,q⟩:=h;obtain⟨z,rfl⟩:=A8 O;refine⟨_,YY (Yt (Yw X T (pa3 (pv 0) (Yi Y4 (pv 3) YX) YX))),?_⟩;obtain⟨M,L⟩:=JJ (R z (by simp));have Z:Q (Uq (match VG G z with|some (.pair _ b)=>some b|_=>none)) H:=q H (Z6 _);rw[L]at Z;exact⟨_,_,Z1 B,rfl,t,G,d,I,z,M,2,rfl,U,L,λm e=>by rw[e]at Z;exact Z,λa b e=>.inr ⟨rfl,by rw[e]at Z;exact Z⟩⟩
end
end K4
namespace L2
open PySem
theorem Ph(h:Has H v (Bd.ask fn B).dat):∃a u,v=.ref a/\H a=some (.tup [.str "ask",.str fn,u])/\Has H u (.tup (Bd.dats B)):=by
 unfold Bd.dat at h;obtain⟨t,D,rfl,M,N⟩:=Yz h;obtain⟨F,S,rfl,T,G⟩:=Yb N;obtain⟨E,I,rfl,R,J⟩:=Yb G;obtain⟨L,A,rfl,O,Z⟩:=Yb J;obtain rfl:=VD Z;obtain rfl:=has_str T;obtain rfl:=has_str R;exact⟨t,L,rfl,M,O⟩
theorem G6(h:Y2 J fn=some (Z,y)):(fn,Z,y)∈J:=by
 unfold Y2 at h
 cases e:J.find? (λh=>decide (h.1=fn))with
 |none=>rw[e]at h;cases h
 |some g=>
  rw[e]at h;have m:=zw e;have q:g.1=fn:=by simpa using List.find?_some e
  have G:g.2=(Z,y):=ZP h;obtain⟨M,L⟩:=g;dsimp only at q G;subst q G;exact m
theorem WO:∀Z J:kq,Dat.pqs (Z.map Dat.str) (J.map Dat.str)=decide (Z=J)
 |[],[]=>by unfold List.map Dat.pqs;rfl
 |[],w::J=>by unfold List.map Dat.pqs;rfl
 |z::Z,[]=>by unfold List.map Dat.pqs;rfl
 |z::Z,w::J=>by
  rw[ZT,ZT];unfold Dat.pqs;rw[WO Z J,yd];simp[Dat.pq]
theorem Sx{Z:List Dd}(J:(Z.map λx=>x.1.1).Nodup)(h:x∈Z):Y2 (Z.map (·.1)) x.1.1=some x.1.2:=
 Xe (h:=x.1) (by rw[za];exact J) (ZU.mpr ⟨x,h,rfl⟩)
theorem Sw{Z:List Dd}(h:fn∉Z.map λx=>x.1.1):Y2 (Z.map (·.1)) fn=none:=by
 cases e:Y2 (Z.map (·.1)) fn with
 |none=>rfl
 |some p=>
  obtain⟨x,J,G⟩:=ZU.mp (G6 e);exact Zp (ZU.mpr ⟨x,J,by rw[G]⟩) h
end L2
namespace K4
open PySem L2
section
theorem Q6:Yo ["book","around","body","found"] ["book","around","body","found"] (Yc KU):=Y3
theorem LE:List.Nodup [("name":Str),"kind"]:=by decide +kernel
theorem PD(TB:BCl K C)(F:Fun K "kind_of_ask_body" "kind_of_ask_body" KU f fd)(m1:Vn K C "names" g)(G1:Yk P w K mg base CX0 (n+2) g d1 ["self"] (WI C CK))(b1:Binds K d1 ["self"] [])(m2:Vn K C "parameters" g2)(G2:Yk P w K mg base CX0 (n+2) g2 d2 ["self","F"] (BR C CK))(b2:Binds K d2 ["self","F"] [])(m3:Vn K C "kind_of" g3)(G3:Yk P w K mg base CX0 (n+2) g3 d3 ["self","F"] (MO C CK))(b3:Binds K d3 ["self","F"] []):
  Yk P w K mg base CX0 (n+2+1) f fd rps (WG C CK λb=>∃p as,b=.ask p as):=by
 refine F.oq Q6 λJ5 A i s H O Q E m h=>?_;obtain⟨t,a,fl,v,ks,c,d,I,kv,b,o,rfl,r,kk,nk,pl,ha,hv,ok,⟨p,as,rfl⟩,hf,lz,hz,q⟩:=h;have Z9:=m.mono (show 2<=n+2 by omega);refine⟨_,YW (Y5 (Ys Jr (Yi Yl (pv 2) YX) (VU (pv 0) TB.cl m1 G1 m b1 .nil VI) rfl) (YY (Yt V4)) Yv)
  (YW (Y5 (Ys (XW Z9) (Vh ["name","kind"] [] (JH (Vg (pv 0) TB.cl m2 G2 m b2 .nil VI (pa1 (Yi Yl (pv 2) YX)))) J3 (λcl C fp s H=>VE (n:=2) rfl (Ye (YZ 0 LE rfl (Or.inl rfl) (Or.inr rfl)) (Ye (YZ 1 LE rfl (Or.inl rfl) (Or.inr rfl)) Y6)))
    (λcl C fp s H=>pv 1)) (pv 3) (Yy _)) (YY (Yt V4)) Yv)
  (YY (Yt (Vg (pv 0) TB.cl m3 G3 m b3 .nil VI (pa1 (Yi Yl (pv 2) YX)))))),?_⟩
 show let a:=_;let b:=_;let c:=Yh (VN _ b _) a;let d:=_;Yh (VN _ d _) c _ _ _
 intros
 obtain⟨bt,ub,rfl,hb,_⟩:=Ph hv;obtain⟨A',kt,rfl,e⟩:=id r;have T:∀N,Same H N->Q (Uq (match Y2 (I.map (·.1)) p with|some (L,k)=>if L.map (·.2)=o then some k else none|none=>none)) N:=q;refine⟨_,_,Z0 hb,rfl,_,_,e.ins,rfl,A'.t,ks,d,I,rfl,r,λl H1 S hl g=>?_⟩;have el:(I.map λx=>V.str x.1.1)=(I.map λx=>x.1.1).map V.str:=by rw[za];rfl
 rw[el]at g;refine⟨l,_,rfl,.inl (Z1 g),rfl,Jm _,_,rfl,?_⟩;rw[UA]
 by_cases mf:p∈I.map λx=>x.1.1
 case neg=>
  rw[Sw mf]at T;exact V1 (by simp only[if_true,yR,decide_eq_false_iff_not];exact mf) (T _ S)
 refine Y9 (by simp only[if_true,yR,decide_eq_false_iff_not,Classical.not_not];exact mf) ?_;obtain⟨x,X,D⟩:=ZU.mp mf;have Z:=Sx e.nd X;rw[D]at Z;rw[Z]at T;obtain⟨⟨_,L,y⟩,bx⟩:=x;dsimp only at D T;subst D;have J4:L.length<=3:=pl _ X;have J2:=r.mono S;refine⟨_,_,S _ _ e.ins,rfl,_,_,Z0 (S _ _ hb),rfl,A'.t,ks,d,I,_,rfl,J2,X,λv B=>?_⟩;unfold psD at B;dsimp only at B;obtain⟨pa,G,rfl,M,U⟩:=Yz B;have lp:=U.length;rw[ZA]at lp;refine⟨⟨_,Z0 M⟩,?_⟩;refine JG G.length (Yp (by omega)) (λj O N=>Same H1 N/\O.length=j/\O=((L.map (·.2)).take j).map V.str) ⟨Z6 _,rfl,rfl⟩ (λj O N z=>z.2.1) ?_ ?_ ?_ ?_
 .intro j O N hj z
  exact⟨G,G[j],Z0 (z.1 _ _ M),by simp[hj]⟩
 .intro O N z
  exact⟨G,Z0 (z.1 _ _ M),ZF _⟩
 .intro j O N u H'' R hj z yl hR
  obtain⟨rfl,yy⟩:=yl;obtain⟨dd,Z,J1⟩:=U.get (yy G (Z0 (z.1 _ _ M)));rw[ZG]at Z
  cases hp:L[j]? with
  |none=>rw[hp]at Z;cases Z
  |some pr=>
   rw[hp]at Z;cases Z;obtain⟨t2,rfl,Z8⟩:=Xp J1;refine⟨_,Z0 (z.1 _ _ Z8),rfl,?_⟩;refine hR _ _ ⟨z.1,by rw[ZJ,z.2.1];rfl,?_⟩;rw[z.2.2,show(L.map (·.2)).take (j+1)=(L.map (·.2)).take j++[pr.2]from take_snoc (by rw[ZG,hp];rfl),ZI]
   rfl
 .intro O N l2 z hl2
  obtain⟨z1,_,rfl⟩:=z;rw[Ze (by rw[ZA];omega)];refine up_in hl2 _ λH2 s2 g2=>?_;have J:=(S.trans z1).trans s2;refine⟨.lst ((L.map (·.2)).map Dat.str),.lst (o.map Dat.str),Sg g2,Sg (J _ _ hf),TQ _,_,rfl,?_⟩;unfold Dat.pq;rw[WO]
  by_cases cz:L.map (·.2)=o
  .rw [Zn cz]at T
   refine Y9 (by simp[cz]) ?_;exact⟨_,_,J _ _ e.ins,rfl,_,_,Z0 (J _ _ hb),rfl,A'.t,ks,d,I,_,rfl,r.mono J,X,T H2 J⟩
  .rw [Zo cz]at T
   exact V1 (by simp[cz]) (T H2 J)
end
end K4
namespace L2
open PySem PySem.Spec PyProof.Rows
theorem Fx(S:X.calm=true):UG X (.builtin "any") (λL H Q=>∃(p:Addr)(Z:List Bool),L=[.ref p]/\SqL X.K H p (Z.map V.bl)/\Q (.bl (Z.any id)) H):=by
 intro N s U H L P Q I r h;obtain⟨p,Z,rfl,D,q⟩:=h;obtain⟨u,rfl,R⟩:=vals1 r;cases R;obtain⟨J,M,G,j⟩:=I.list D;have E:p<s.heap.objs.size:=let⟨o,_,e,_⟩:=G;ZN e
 have B:=M.length;rw[ZA]at B
 have T:((List.range J.toArray.size).any λi=>(Z[i]?).getD false)=Z.any id:=by
  rw[yd,jn,jn]
  constructor
  .rintro ⟨i,_,h⟩
   cases e:Z[i]? with
   |none=>rw[e]at h;cases h
   |some b=>rw[e]at h;exact⟨b,ZH e,h⟩
  .rintro ⟨b,hb,h⟩
   obtain⟨i,O⟩:=zh.mp hb;exact⟨i,by have:=(ZE.mp O).1;simp;omega,by rw[O];exact h⟩
 refine call_any_walk (yW G.isList ⟨s.heap.objs.size,_,_,J.toArray.size,_,_,λi=>(Z[i]?).getD false,rfl,Walks.list (A:=X.A.in1) (I.ok.hd S) _ p (Zc E) J.toArray,⟨⟨_,ZW _ rfl,rfl,rfl⟩,G.isList.push _⟩,?_,?_⟩)
 .intro i v s' Q' E' hP hQ
  obtain⟨b,e,rfl⟩:=GD M i v (by simpa using hP);dsimp only at hQ;rw[e]at hQ;exact zy hQ
 .intro h' tk hk
  rw[T];refine⟨.bl (Z.any id),H,I.kept λb o e=>hk b o (λF=>?_) (ZD _ e),rfl,q⟩;have C:b=s.heap.objs.size:=by simpa using F
  rw[C]at e;exact zJ _ (ZN e)
end L2
namespace L2
open PySem
theorem Dg(h:Has H v (Bd.choose e N F).dat):∃a u l Z,v=.ref a/\H a=some (.tup [.str "choose",u,.ref l])/\H l=some (.tup Z)/\HasL H Z (Bd.brs F N):=by
 unfold Bd.dat at h;obtain⟨t,A,rfl,O,R⟩:=Yz h;obtain⟨S,X,rfl,E,L⟩:=Yb R;obtain⟨M,C,rfl,P,G⟩:=Yb L;obtain⟨I,U,rfl,D,J⟩:=Yb G;obtain rfl:=VD J;obtain rfl:=has_str E;obtain⟨l,Z,rfl,B,T⟩:=Yz D;exact⟨t,M,l,Z,rfl,O,B,T⟩
theorem brs_len:∀{bs:List Bd}{ts:kq},bs.length=ts.length->(Bd.brs bs ts).length=ts.length
 |[],[],_=>by simp[Bd.brs]
 |[],_::_,h=>by simp at h
 |_::_,[],h=>by simp at h
 |b::bs,t::ts,h=>by
  unfold Bd.brs;have:=brs_len (bs:=bs) (ts:=ts) (by simpa using h);simp[this]
theorem brs_get:∀{bs:List Bd}{ts:kq}{i:Nat}{d:Dat},(Bd.brs bs ts)[i]?=some d->∃t b,ts[i]?=some t/\d=.tup [.str t,Bd.dat b]
 |[],ts,i,d,h=>by unfold Bd.brs at h;simp at h
 |b::bs,[],i,d,h=>by unfold Bd.brs at h;simp at h
 |b::bs,t::ts,0,d,h=>by
  unfold Bd.brs at h;exact⟨t,b,rfl,(ZP h).symm⟩
 |b::bs,t::ts,i+1,d,h=>by
  unfold Bd.brs at h;exact brs_get (bs:=bs) (ts:=ts) h
theorem zD{z y:Str}{r:kq}:XN ((z::y::r).map V.str) (some 2) none=r.map V.str:=by
 have e:HT.sIx ((z::y::r).map V.str).length 0 (some 2)=2:=by
  unfold HT.sIx;simp
  try omega
 unfold XN;rw[e];simp[HT.sIx];exact Ze (by rw[ZA];exact ZF _)
theorem Ow(h:VG J z=some (.tags Z))(g:∀u∈r,u=y):own J L G (.choose e Z M) (z::y::r)=some y:=Zn ⟨h,g⟩
theorem Mu(h:¬(VG J z=some (.tags Z)/\∀u∈r,u=y)):own J L G (.choose e Z M) (z::y::r)=none:=Zo h
theorem L6(y:Str)(r:kq):((r.map λu=>!decide (V.str u=V.str y)).any id=false)↔∀u∈r,u=y:=by
 rw[List.any_eq_false]
 constructor
 .intro h u Z
  have:=h _ (ZU.mpr ⟨u,Z,rfl⟩);simpa using this
 .intro h b hb
  obtain⟨u,Z,rfl⟩:=ZU.mp hb;simp[h u Z]
end L2
namespace K4
open PySem L2
section
theorem II:bootBuiltins "any"=some (.builtin "any"):=by decide +kernel
theorem Wm:Yo ["book","around","body","found","shape","kind"] ["book","around","body","found"] (Yc Th):=Y3
theorem Mw:List.Nodup [("tag":Str),"branch"]:=by decide +kernel
theorem A3:List.Nodup [("other":Str),"kind"]:=by decide +kernel
theorem DI(B:Blt X)(ma:X "any"=none)(TB:BCl K C)(TK:KCl K p)(F:Fun K "kind_of_choose_body" "kind_of_choose_body" Th f fd)(m1:Vn K C "kinds" g1)(G1:Yk P w K X base CX0 (n+2) g1 d1 ["self"] (JE C p))(b1:Binds K d1 ["self"] [])(m2:Vn K p "shape_of" g2)(G2:Yk P w K X base CX0 (n+2) g2 d2 ["self","kind"] (Jy p))(b2:Binds K d2 ["self","kind"] []):Yk P w K X base CX0 (n+2+1) f fd rps (WG C p λb=>∃e L k,b=.choose e L k/\1<=k.length):=by
 refine F.oq Wm λM2 A Z8 s H Z Q E hr h=>?_;obtain⟨t,a,fl,v,ks,c,d,ds,kv,b,zs,rfl,bi,kk,nk,pl,ha,hv,ok,⟨e,L,k,rfl,b0⟩,hf,lz,hz,q⟩:=h;have J2:=hr.mono (show 2<=n+2 by omega);refine⟨_,YW (Ym 4 Wm.nd (Vg (VU (pv 0) TB.cl m1 G1 hr b1 .nil VI) TK.cl m2 G2 hr b2 .nil VI (pa1 (Yi Y4 (pv 3) YX))))
  (YW (Y5 (PW.pt (UF (Ys XY (Yi Yl (pv 4) YX) Y7 (Yy _)) (Jz (Ys (XW J2) (VA VW rfl B.tuple Vm (pa1 (Vh ["tag","branch"] [] (JH (Yi Yl (pv 2) YX)) J3 (λcl C fp s H=>VE (n:=2) rfl (Ye (YZ 0 Mw rfl (Or.inl rfl) (Or.inr rfl)) (Ye (YZ 1 Mw rfl (Or.inl rfl) (Or.inr rfl)) Y6))) (λcl C fp s H=>pv 0)))) (Yi Yl (pv 4) YX) (Yy _))))) (YY (Yt V4)) Yv)
  (YW (Ym 5 Wm.nd (hx:=Or.inr rfl) (Yi Y4 (pv 3) YX))
  (YW (Y5 (JZ (Yr (Fx rfl) rfl ma II (pa1 (Vh ["other"] [5] (VF (VM WJ (pv 3) (Va YX) Vb)) (VR (i:=0) (by decide)) (λcl C fp s H=>YZ 0 A3 rfl (Or.inl rfl) (Or.inr rfl)) (λcl C fp s H=>XA XY (pv 0) (pv 1) rfl))))) (YY (Yt V4)) Yv)
  (YY (Yt (pv 5)))))),?_⟩
 dsimp only[Vl,Cx.nox,Cx.wish];show let a:=_;let b:=_;let c:=Yh (VN _ b _) a;let d:=Yh _ c;let e:=_;let f:=Yh (VN _ e _) d;Yh _ f _ _ _
 intros
 obtain⟨bt,ub,bl,T,rfl,hb,N,I⟩:=Dg hv;obtain⟨A',kt,rfl,b'⟩:=id bi;unfold Bd.ok at ok;obtain⟨_,lb,l7,_⟩:=ok;have lx:=I.length;rw[brs_len lb]at lx;obtain⟨z,O,rfl⟩:∃z O,zs=z::O:=match zs,lz with|z::O,_=>⟨z,O,rfl⟩
 have lr:O.length=k.length:=Nat.succ.inj lz;obtain⟨y,r,rfl⟩:∃y r,O=y::r:=match O,lr with|[],e=>by rw[<-e]at b0;exact Zp b0 (by decide)|y::r,_=>⟨y,r,rfl⟩
 rw[Zd]at lr;obtain⟨sz,M⟩:=JJ (hz z (by simp));refine⟨_,_,b'.ins,rfl,A'.t,ks,d,ds,rfl,bi,λso ki=>?_⟩;obtain⟨AK,SK,rfl,kd,kr⟩:=id ki;refine⟨_,_,kd.ins,rfl,_,_,Z1 hf,Yq (j:=0) rfl,AK.t,ks,d,z,sz,rfl,ki,M,λv S=>?_⟩
 cases sz with
 |pair pa pb=>
  obtain⟨ps,rfl,m⟩:=X7 S;rw[Mu (λz=>by rw[M]at z;cases z.1)]at q;exact⟨_,_,Z0 m,rfl,rfl,_,rfl,V1 (by decide +kernel) (q H (Z6 _))⟩
 |tags us=>
 obtain⟨ps,l,rfl,m,hl⟩:=Jg S;refine⟨_,_,Z0 m,rfl,rfl,_,rfl,Y9 (by decide +kernel) ?_⟩;refine⟨_,_,Z0 hb,rfl,⟨_,Z0 N⟩,?_⟩;refine JG T.length (Yp (by omega)) (λj Z G=>Same H G/\Z.length=j/\Z=(L.take j).map V.str) ⟨Z6 _,rfl,rfl⟩ (λj Z G z=>z.2.1) ?_ ?_ ?_ ?_
 .intro j Z G hj z
  exact⟨T,T[j],Z0 (z.1 _ _ N),by simp[hj]⟩
 .intro Z G z
  exact⟨T,Z0 (z.1 _ _ N),ZF _⟩
 .intro j Z G u H'' R hj z yl hR
  obtain⟨rfl,x⟩:=yl;obtain⟨dd,G3,J5⟩:=I.get (x T (Z0 (z.1 _ _ N)));obtain⟨tg,bb,ht,rfl⟩:=brs_get G3;obtain⟨t2,L1,rfl,J1,_⟩:=LZ J5;refine⟨_,Z0 (z.1 _ _ J1),rfl,?_⟩;refine hR _ _ ⟨z.1,by rw[ZJ,z.2.1];rfl,?_⟩;rw[z.2.2,take_snoc ht,ZI]
  rfl
 .intro Z H1 l2 z hl2
  obtain⟨o,_,rfl⟩:=z;rw[Ze (by omega)];refine up_in hl2 (.lst (L.map V.str)) λH2 s2 g2=>?_;refine⟨l2,_,rfl,.inl ⟨Z1 g2,λt3 Z9=>?_⟩⟩;refine up_in Z9 (.tup (L.map V.str)) λH3 s3 g3=>?_;have J:=(o.trans s2).trans s3;refine⟨_,_,Z0 (J _ _ m),rfl,.tup (L.map Dat.str),.tup (us.map Dat.str),Yn g3 (VZ L),Yn (J _ _ hl) (VZ us),?_,_,rfl,?_⟩
  .have:=TQ L
   unfold Dat.dep at this |-;exact this
  unfold Dat.pq;rw[WO]
  by_cases ct:L=us
  case neg=>
   rw[Mu (λz=>ct (by have o:=M.symm.trans z.1;injection o with z2;injection z2 with z3;exact z3.symm))]at q;exact V1 (by simp[ct]) (q H3 J)
  subst ct;refine Y9 (by simp) ?_;have U:=J _ _ hf;refine⟨_,.str y,Z1 U,Yq (j:=1) rfl,?_⟩;refine⟨2,rfl,fl,_,rfl,Z1 U,λl4 J4=>?_⟩;rw[zD];refine up_in J4 (.lst (r.map V.str)) λH4 s4 g=>?_;refine⟨⟨_,Z1 g⟩,?_⟩;refine JG r.length (Yp (by omega)) (λj Z G=>Same H4 G/\Z=((r.take j).map λu=>!decide (V.str u=V.str y)).map V.bl/\Z.length=j) ⟨Z6 _,rfl,rfl⟩ (λj Z G z=>z.2.2) ?_ ?_ ?_ ?_
  .intro j Z G hj z
   exact⟨_,.str r[j],Z1 (z.1 _ _ g),by rw[ZG,ZC hj];rfl⟩
  .intro Z G z
   exact⟨_,Z1 (z.1 _ _ g),by rw[ZA];exact ZF _⟩
  .intro j Z G u H'' R hj z yl hR
   obtain⟨rfl,x⟩:=yl;have e5:=x _ (Z1 (z.1 _ _ g));rw[ZG,ZC hj]at e5;cases ZP e5;refine⟨rfl,hR _ _ ⟨z.1,?_,by rw[ZJ,z.2.2];rfl⟩⟩;rw[z.2.1,take_snoc (ZC hj),ZI,ZI]
   rfl
  .intro Z H5 l6' z hl6
   obtain⟨z5,rfl,_⟩:=z;rw[zS];refine up_in hl6 (.lst ((r.map λu=>!decide (V.str u=V.str y)).map V.bl)) λH6 s6 g6=>?_;have D:=((J.trans s4).trans z5).trans s6;refine⟨l6',_,rfl,Z1 g6,_,rfl,?_⟩
   by_cases cu:∀u∈r,u=y
   .rw [Ow M cu]at q
    exact Y9 (by rw[(L6 y r).mpr cu];simp) (q H6 D)
   .rw [Mu (λz=>cu z.2)]at q
    refine V1 ?_ (q H6 D)
    cases ea:(r.map λu=>!decide (V.str u=V.str y)).any id with
    |true=>rfl
    |false=>exact Zp ((L6 y r).mp ea) cu
end
end K4
namespace L2
open PySem
theorem Nw{g:TG}{O:TS}{D:Ends}(Z:kH)(Q:Z 0 U H)(S:∀i U H,i<=xs.length->Z i U H->Sq K tp H a xs)(A:∀i x U H r,xs[i]?=some x->Z i U H->H r=none->g (.ref r) U (upd H r (.tup [.int ((i:Nat):Int),x])) fun σ2 M=>O {D with nx:=Z (i+1),ct:=Z (i+1),bk:=D.nx} σ2 M)(P:∀U H,Z xs.length U H->D.nx U H):
  ∃W:Nat->Nat->St->Hp->Prop,(∃m,W 0 m U H)/\∀i m U H,W i m U H->
   ((Ite K tp a).stop i H/\D.nx U H)\/((Ite K tp a).go i H/\∃N:kI,(∀L J,N L J->∃R,R<m/\W (i+1) R L J)/\∀x J,(Ite K tp a).yld i H x J->g x U J fun σ2 M=>O {D with nx:=N,ct:=N,bk:=D.nx} σ2 M):=by
 refine⟨λi m U H=>m=xs.length-i/\i<=xs.length/\Z i U H,⟨xs.length,by simp,Za _,Q⟩,λi m U H z=>?_⟩;obtain⟨rfl,C,p⟩:=z;have q:=S i U H C p;rcases je i xs.length with G|X
 .refine .inr ⟨⟨xs,xs[i],q,ZC G⟩,Z (i+1),λL J B=>⟨xs.length-(i+1),by omega,rfl,G,B⟩,λx J y=>?_⟩
  obtain⟨r,T,rfl,I,rfl,F⟩:=y;exact A i T U H r (F xs q) p I
 .have e:i=xs.length:=by omega
  exact .inl ⟨⟨xs,q,by omega⟩,by subst e;exact P U H p⟩
theorem Xq{g:TG}{L:TS}{D:Ends}(Z:kH)(C:Z 0 U H)(I:∀i U H,i<=xs.length->Z i U H->Sq K tp H a xs)(F:∀(B:kI)(R:VK) i x U H r,xs[i]?=some x->Z i U H->H r=none->g (.ref r) U (upd H r (.tup [.int ((i:Nat):Int),x])) fun σ2 G=>L {nx:=Z (i+1),rt:=R,bk:=B,ct:=Z (i+1)} σ2 G)(S:∀U H,Z xs.length U H->D.nx U H):
  ∃W:Nat->Nat->St->Hp->Prop,(∃m,W 0 m U H)/\∀i m U H,W i m U H->
   ((Ite K tp a).stop i H/\D.nx U H)\/((Ite K tp a).go i H/\∃N:kI,(∀O J,N O J->∃M,M<m/\W (i+1) M O J)/\∀x J,(Ite K tp a).yld i H x J->g x U J fun σ2 G=>L {D with nx:=N,ct:=N,bk:=D.nx} σ2 G):=
 Nw Z C I (λi x U H r E p A=>F _ _ i x U H r E p A) S
theorem Rd.same(r:Rd H a u)(e:Same H Z):Rd Z a u:=r.imp (λh=>e _ _ h) (λ⟨o,h⟩=>⟨o,e _ _ h⟩)
theorem OD(Z:kE)(b:Bd):(wth Z b).length<=Z.length+1:=by
 cases b with
 |letb x z e g=>exact NY Z _ _
 |_=>exact yY _
theorem Wr{o:Option Str}(h:o=none):Uq o=.non:=by rw[h];rfl
end L2
namespace K4
open PySem L2
section
variable{f g C CK:Addr}
def TU(C CK:Addr)(n:Nat):Sp:=λM H Q _=>∃(t a:Addr)(v:V)(Z:kL)(c d:kM)(G:List Dd)(J:kE)(b:Bd),
 M=[.ref t,.ref a,v]/\BI H C CK t Z d G/\KK 30 c d Z/\HK (Z.map (·.1)) (Y2 (G.map (·.1)))/\NK (Z.map (·.1)) J/\(∀x∈G,x.1.2.1.length<=3)/\Rd H a (.dK J)/\J.length+b.dep<=500/\Has H v b.dat/\b.ok/\b.dep<n/\n<=500/\
 ∀r p L,Same H L->L r=some (.tup [Uq (kdn Z (Y2 (G.map (·.1))) n J b),p])->(kdn Z (Y2 (G.map (·.1))) n J b=none->∃l w r,p=.ref l/\L l=some (.tup (List.map V.int w))/\w.length<=n/\wr Z (Y2 (G.map (·.1))) n J b=w::r)->Q (.ref r) L
theorem RV:Yo ["book","around","body","within","found","number","part","kind","place","rule"] ["book","around","body"] (Yc sKP):=Y3
theorem EA(h:U[i]?=some (some v))(k:u D (U.set j (some v)) H):Yh (BN (MH i) (Vu j)) u D U H:=by
 show IQ U[i]? _;rw[h];exact k
theorem An(B:Blt mg)(me:mg "enumerate"=none)(TB:BCl K C)(TC:KCl K CK)(F:Fun K "kind_or_place" "kind_or_place" sKP f fd)(G:Yk P w K mg base CX0 (L+3) f fd ["book","around","body"] (TU C CK n))(bG:Binds K fd ["book","around","body"] [])(mG:mg "kind_or_place"=some (.ref f))(m1:Vn K C "kinds" g1)(G1:Yk P w K mg base CX0 (L+3) g1 d1 ["self"] (JE C CK))(b1:Binds K d1 ["self"] [])(m2:Vn K CK "names" g2)(G2:Yk P w K mg base CX0 (L+3) g2 d2 ["self"] (U4 CK))(b2:Binds K d2 ["self"] [])(DP:Df P w K mg base (L+3) "parts" ["body"] U3)(mU:mg "RULES"=some (.ref aR))(hM:base.MapOf (VP P w) aR mR)(hR:∀b:Bd,(∀e ts bs,b=.choose e ts bs->1<=bs.length)->∃(g:Addr)(gd:FuncData)(p:Bd->Prop),mR (Sum.inr b.word)=some (.ref g)/\Yk P w K mg base CX0 (L+3) g gd rps (WG C CK p)/\p b/\W.keepIn K (.ref g)=true/\Binds K gd rps []):
  Yk P w K mg base CX0 (L+3+1) f fd ["book","around","body"] (TU C CK (n+1)):=by
 refine F.oq RV λD3 A R7 s H vs Q E hr h=>?_;obtain⟨t,a,v,J,c,d,T,M,b,rfl,bi,kk,hk,nk,pl,ha,kl,hv,ok,dn,n5,q⟩:=h;have hu:=Jl hr;have DG:Df P w K mg base (L+3) "kind_or_place" ["book","around","body"] (TU C CK n):=⟨f,fd,mG,F.kp,bG,G⟩;refine⟨_,YW (Ym 3 RV.nd (pv 1))
  (YW (Y5 (Ys V9 (Yi Yl (pv 2) YX) Y7 (Yy _))
   (YW (Y5 (PW.pt (UF (UB (X4 hu (Yi Yl (pv 2) YX) (pv 1))) (Jz (Ys Jr (Yi Yl (pv 2) YX) (VU (VU (pv 0) TB.cl m1 G1 hr b1 .nil VI) TC.cl m2 G2 hr b2 .nil VI) rfl)))) (YY (Yt (Yx (pa2 V4 (Yx Vi))))) Yv)
   (YW (Ym 3 RV.nd (VA Dq rfl B.dict WA (pa1 (pv 1))))
   (YY (JK hu (pv 3) (Yi Yl (pv 2) YX) (Yi Yl (pv 2) YX) rfl)))) Yv)
  (YW (Ym 4 RV.nd (Vs Vi))
  (YW (Vo Zt rfl (U9 rfl me (pa1 (Yw DP hr (pa1 (pv 2))))) (VE (n:=2) rfl (Ye (YZ 5 RV.nd) (Ye (YZ 6 RV.nd) Y6)))
   (YW (JP (Yw DG hr (pa3 (pv 0) (pv 3) (pv 6))) (VE (n:=2) rfl (Ye (YZ 7 RV.nd) (Ye (YZ 8 RV.nd) Y6))))
   (YW (Y5 (Ys Tt (pv 7) V4 (Yy _)) (YY (Yt (Yx (pa2 V4 (Y1 WS (Yx (pa1 (pv 5))) (pv 8)))))) Yv)
   (YY (VO (Jk Zx Zy Zz Vj (pv 4) (pa1 (pv 7))))))))
  (YW (Ym 9 RV.nd (Os rfl mU hM hu (Yi Yl (pv 2) YX) (λ_ _=>rfl)))
  (YW (Ym 7 RV.nd (Ko (pv 9) hr VI (pa4 (pv 0) (pv 1) (pv 2) (pv 4))))
  (YW (Y5 (Ys Tt (pv 7) V4 (Yy _)) (YY (Yt (Yx (pa2 V4 (Yx Vi))))) Yv)
  (YY (Yt (Yx (pa2 (pv 7) V4)))))))))),?_⟩
 dsimp only[Vl,Cx.nox,Cx.wish];show let a:=_;let b:=_;let c:=Yh (VN _ b _) a;let d:=Yh _ c;let e:=Yh _ d;let f:=_;let g:=_;let h:=Yh (VN _ g _) f;let i:=Yh _ h;let j:=Yh (Jx _ _ i) e;let k:=Yh _ j;let l:=_;let m:=Yh _ l;let n:=_;let o:=Yh (VN _ n _) m;let p:=Yh (VN _ o _) k;Yh _ p _ _ _
 intros
 obtain⟨bt,ys,rfl,hb⟩:=Nu hv;have D0:=Bd.few ok
 have G3:kdn J (Y2 (T.map (·.1))) (n+1) M b=none->[[]]=wr J (Y2 (T.map (·.1))) (n+1) M b->∀R,Same H R->∀O r0,R O=none->(upd R O (.tup [])) r0=none->Q (.ref r0) (upd (upd R O (.tup [])) r0 (.tup [.non,.ref O])):=λe T0 R D O r0 h0 h1=>by
  have s2:=Yg h0 (.tup []);have g2:upd R O (.tup []) O=some (.tup []):=Ya;refine q r0 (.ref O) _ ((D.trans s2).trans (Yg h1 _)) (by rw[Wr e];exact Ya) λ_=>⟨O,[],[],rfl,(Yg h1 _) _ _ g2,Za _,T0.symm⟩
 refine EA rfl ?_;refine V7 (λU' R=>∃wa,Same H R/\ ¬UD J M b/\Rd R wa (.dK (wth M b))/\U'=[some (.ref t),some (.ref a),some (.ref bt),some (.ref wa),none,none,none,none,none,none]) ?_ ?_
 .rintro U' R ⟨wa,D,nb,hw,rfl⟩
  have N2:=nk.wth nb;refine⟨sl 0,λfl R4=>?_⟩;refine up_in R4 _ λH2 s2 g2=>?_;refine⟨.ref bt,b,rfl,(hv.mono D).mono s2,ok,λu H3 s3 T1=>?_⟩;obtain⟨pa,xs,rfl,R3,R1⟩:=Yz T1;have lx:=R1.length;rw[Z7,ZA]at lx;refine⟨pa,true,xs,rfl,Z0 R3,?_⟩
  let I:kH:=λi U Hi=>Same R Hi/\Hi pa=some (.tup xs)/\HasL Hi xs (Bd.dats b.parts)/\(∃zs:kq,(b.parts.take i).map (kdn J (Y2 (T.map (·.1))) n (wth M b))=zs.map some/\Hi fl=some (.lst (zs.map V.str)))/\∃z5 z6 z7 z8,U=[some (.ref t),some (.ref a),some (.ref bt),some (.ref wa),some (.ref fl),z5,z6,z7,z8,none]
  refine Nw (tp:=true) (xs:=xs) I ⟨s2.trans s3,R3,R1,⟨[],rfl,s3 _ _ g2⟩,_,_,_,_,rfl⟩ (λi U Hi _ z=>Z0 z.2.1) ?_ ?_
  .rintro i x U Hi r hx ⟨si,hai,hxi,⟨zs,ez,hfi⟩,z5,z6,z7,z8,rfl⟩ hr'
   refine up_in hr' _ λHR sR gR=>?_;obtain⟨dd,Z8,T5⟩:=hxi.get hx;rw[Z7,ZG]at Z8
   cases hc:b.parts[i]? with
   |none=>rw[hc]at Z8;cases Z8
   |some c'=>
    rw[hc]at Z8;cases Z8;have J1:=ZH hc;have dc:=Bd.dep_mem J1;have il:=(ZE.mp hc).1;have wl:=OD M b;have J2:=(D.trans si).trans sR
    have lz:zs.length<=i:=by
     have:=congrArg List.length ez;rw[ZA,ZA,ZL]at this;omega
    refine⟨_,Z0 gR,rfl,?_⟩;refine⟨t,wa,x,J,c,d,T,wth M b,c',rfl,bi.mono J2,kk,hk,N2,pl,hw.same (si.trans sR),by omega,T5.mono sR,Bd.ok_parts ok c' J1,by omega,by omega,λr2 p2 H4 s4 h4 hp=>?_⟩;refine⟨_,Z0 h4,rfl,?_⟩
    cases ek:kdn J (Y2 (T.map (·.1))) n (wth M b) c' with
    |none=>
     have en:kdn J (Y2 (T.map (·.1))) (n+1) M b=none:=Xd (ZU.mpr ⟨c',J1,ek⟩);obtain⟨l2,ws,wt,rfl,Z9,lw,ew⟩:=hp ek;have pn:none∈b.parts.map (kdn J (Y2 (T.map (·.1))) n (wth M b)):=ZU.mpr ⟨c',J1,ek⟩;obtain⟨L1,T7⟩:=E4 (f:=wr J (Y2 (T.map (·.1))) n (wth M b)) hc ((IN λe he=>by have:=Bd.dep_mem (Zi he);omega).mpr (by rw[ez];simp)) ew;have R6:=(OE nb pn).trans T7;refine⟨rfl,_,rfl,V1 (by simp[Uq]) ?_⟩;refine⟨sl 1,λt1 T3=>?_⟩;refine up_in T3 _ λH5 s5 g5=>?_;refine⟨t1,l2,_,_,rfl,rfl,Z0 g5,Z0 (s5 _ _ Z9),by simp,Zf (Yp (by show 1+(ws.map V.int).length<=1000;rw[ZA];omega)),λe0=>?_,λe0 t2 T2=>?_⟩
     .refine ⟨sl 2,λS Z=>?_⟩
      exact q S _ _ (((J2.trans s4).trans s5).trans (Yg Z _)) (by rw[Wr en];exact Ya) λ_=>⟨t1,[((i:Nat):Int)],L1,rfl,(Yg Z _) _ _ g5,by show 1<=n+1;omega,by rw[R6];cases ws with|nil=>rfl|cons _ _=>cases e0⟩
     .refine up_in T2 _ λH6 s6 g6=>?_
      refine⟨sl 2,λS Z=>?_⟩;exact q S _ _ ((((J2.trans s4).trans s5).trans s6).trans (Yg Z _)) (by rw[Wr en];exact Ya) λ_=>⟨t2,((i:Nat):Int)::ws,L1,rfl,(Yg Z _) _ _ g6,by rw[Zd];omega,R6⟩
    |some zk=>
     refine⟨rfl,_,rfl,Y9 (by simp[Uq]) ?_⟩;have J4:=s4 _ _ (sR _ _ hfi);refine⟨.inl ⟨rfl,_,Z1 J4⟩,fl,_,_,rfl,rfl,J4,Yp (by rw[ZA];omega),?_⟩;have T4:=s4 _ _ (sR _ _ hai);have tk:TK H4 (upd H4 fl (.lst (zs.map V.str++[Uq (some zk)]))):=λb us h=>by rw[Yd (λe=>by rw[e,J4]at h;cases h)];exact h
     refine⟨((si.trans sR).trans s4).putN R4,tk _ _ T4,VS tk _ (Bd.sts _) ((hxi.mono sR).mono s4),⟨zs++[zk],?_,?_⟩,_,_,_,_,rfl⟩
     .rw [take_snoc hc,ZI,ZI,ez]
      show _++[kdn _ _ _ _ _]=_;rw[ek];rfl
     .rw [Ya,ZI];rfl
  .rintro U Hi ⟨si,hai,hxi,⟨zs,ez,hfi⟩,z5,z6,z7,z8,rfl⟩
   rw[Ze (by omega)]at ez;have sH:=D.trans si;have a0:atI (V.str b.word::ys) 0=some (.str b.word):=Yq (j:=0) rfl
   obtain⟨gr,T6,pr,r1,r2,r3,r4,r5⟩:=hR b (λe' T8 F2 eb=>by
    subst eb;unfold Bd.ok at ok;rw[ok.2.1];exact ok.2.2.1.1)
   have lz:zs.length=b.parts.length:=by
    have:=congrArg List.length ez;rw[ZA,ZA]at this;exact this.symm
   have mz:∀z∈zs,z∈J.map (·.1):=λz hz=>by
    have m:some z∈b.parts.map (kdn J (Y2 (T.map (·.1))) n (wth M b)):=by rw[ez];exact ZU.mpr ⟨z,hz,rfl⟩
    obtain⟨p,_,e⟩:=ZU.mp m;exact M3 kk hk n _ p z N2 e
   have eo:=XE nb ez;refine⟨_,_,Z0 (sH _ _ hb),a0,Sum.inr b.word,_,.ref gr,rfl,r1,rfl,?_⟩;refine⟨gr,T6,rps,WG C CK pr,rfl,r2,r4,r5,t,a,fl,.ref bt,J,c,d,T,M,b,zs,rfl,bi.mono sH,kk,nk,pl,ha.same sH,hv.mono sH,ok,r3,hfi,lz,mz,λH5 s5=>?_⟩;rw[<-eo];have M2:=sH.trans s5
   cases ek:kdn J (Y2 (T.map (·.1))) (n+1) M b with
   |none=>exact⟨rfl,_,rfl,V1 (by simp[Uq]) ⟨sl 0,λO X=>⟨sl 2,λS Z=>G3 ek (Qg nb (by rw[ez];simp) ek) H5 M2 O S X Z⟩⟩⟩
   |some y=>
    refine⟨rfl,_,rfl,Y9 (by simp[Uq]) ⟨sl 2,λS Z=>?_⟩⟩;exact q S _ _ (M2.trans (Yg Z _)) (by rw[ek];exact Ya) λe=>by rw[ek]at e;cases e
 .intro N key
  have a0:atI (V.str b.word::ys) 0=some (.str b.word):=Yq (j:=0) rfl;refine⟨_,_,Z0 hb,a0,rfl,_,rfl,?_⟩
  cases b with
  |letb x k e g=>
   obtain⟨F1,u1,u2,e1,J5⟩:=EZ hv;cases e1;obtain⟨A',kt,rfl,b'⟩:=id bi;refine V1 (decide_eq_true rfl) ?_;refine⟨_,_,Z0 J5,rfl,_,.inl ⟨M,Sum.inr x,ha,rfl,rfl⟩,_,rfl,?_⟩
   by_cases kn:(VH M (Sum.inr x)).isSome=true
   .exact V1 (by rw[kn]) ⟨sl 0,λO X=>⟨sl 2,λS Z=>G3 (G4 (.inl kn)) (IP (.inl kn)) H (Z6 _) O S X Z⟩⟩
   refine Y9 (by simpa using kn) ?_;refine⟨_,_,Z0 J5,rfl,_,_,b'.ins,rfl,A'.t,J,d,T,rfl,bi,λso ki=>?_⟩;obtain⟨AK,SK,rfl,R8,T9⟩:=id ki;refine⟨_,_,R8.ins,rfl,AK.t,J,d,rfl,ki,λl R D hl g1=>?_⟩;have el:(J.map λk=>V.str k.1)=(J.map (·.1)).map V.str:=by rw[za];rfl
   rw[el]at g1;refine⟨l,_,rfl,.inl (Z1 g1),rfl,Jm _,_,rfl,?_⟩;rw[UA]
   by_cases km:k∈J.map (·.1)
   case neg=>exact V1 (by simp only[if_true,yR,decide_eq_false_iff_not];exact km) ⟨sl 0,λO X=>⟨sl 2,λS Z=>G3 (G4 (.inr km)) (IP (.inr km)) R D O S X Z⟩⟩
   refine Y9 (by simp only[if_true,yR,decide_eq_false_iff_not,Classical.not_not];exact km) ?_;refine⟨a,M,rfl,ha.same D,λl2 Z9=>?_⟩;refine up_in Z9 _ λH2 s2 g2=>?_;have R5:=s2 _ _ (D _ _ J5);refine⟨_,_,Z0 R5,rfl,_,_,Z0 R5,rfl,_,Uk.k (k:=Sum.inr x) g2 (Yp (by omega)),?_⟩;exact key _ _ ⟨l2,(D.trans s2).putN (D.free Z9),λz=>z.elim (λz=>kn z) (λz=>z km),.inl Ya,rfl⟩
  |_=>exact Y9 (λz=>by have z1:=Zr z;injection z1 with z2;exact Zp z2 (by dsimp only[Bd.word];decide +kernel)) (key _ _ ⟨a,Z6 _,λz=>z,ha,rfl⟩)
end
end K4
namespace L2
open PySem
def XJ(ks:kL)(ps:List (Str×Str)):List (List W):=ps.foldl (λrows p=>rows.flatMap λr=>(VB ks 3 p.2).map λu=>r++[u]) [[]]
def Wq(r:List W):Dat:=.tup (r.map W.dat)
theorem B0(Z:kL)(J:List (Str×Str))(p:Str×Str):XJ Z (J++[p])=(XJ Z J).flatMap λr=>(VB Z 3 p.2).map λu=>r++[u]:=by
 unfold XJ;rw[ji]
 rfl
theorem Rq{α β:Type}(f:α->List β)(k:Nat):∀l:List α,(∀a∈l,(f a).length=k)->(l.flatMap f).length=l.length*k
 |[],_=>by simp
 |a::l,h=>by
  rw[vp,ZJ,h a ZY,Rq f k l (λb Z=>h b (ZK _ Z)),Zd,yQ,Nat.add_comm]
theorem U7(c:kM):∀(Z:List (Str×Str))(n:Nat),Z.foldl (λr p=>r*c p.2) n=n*Vy c Z
 |[],n=>by unfold Vy;simp
 |p::Z,n=>by
  unfold Vy;rw[vc,vc,U7 c Z (n*c p.2),U7 c Z (1*c p.2),Nat.one_mul,Nat.mul_assoc]
theorem Ti(h:∀p∈ps,0<c p.2)(i:Nat):Vy c (ps.take i)<=Vy c ps/\0<Vy c ps:=by
 have J:∀Z:List (Str×Str),(∀p∈Z,0<c p.2)->0<Vy c Z:=λZ=>by
  induction Z with
  |nil=>intro _;exact Nat.one_pos
  |cons q Z ih=>
   intro L;unfold Vy;rw[vc,U7,Nat.one_mul];exact Nat.mul_pos (L q ZY) (ih λp G=>L p (ZK _ G))
 refine⟨?_,J ps h⟩
 have e:Vy c ps=Vy c (ps.take i)*Vy c (ps.drop i):=by
  conv=>lhs;rw[<-zZ i ps]
  unfold Vy;rw[ji,U7]
  rfl
 rw[e];exact Nat.le_mul_of_pos_right _ (J _ λp G=>h p (yi G))
theorem KK.c0(h:KK 30 c d Z)(J:y∈Z.map (·.1)):(VB Z 3 y).length=c y/\0<c y:=by
 have s:=h.small J;obtain⟨a,b,_⟩:=Ul h 3 y J (by omega);exact⟨a,b⟩
theorem FJ(h:KK 30 c d J)(Z:List (Str×Str))(L:∀p∈Z,p.2∈J.map (·.1)):(XJ J Z).length=Vy c Z:=by
 have M:∀(Z:List (Str×Str))(rows:List (List W)),(∀p∈Z,p.2∈J.map (·.1))->(Z.foldl (λrows p=>rows.flatMap λr=>(VB J 3 p.2).map λu=>r++[u]) rows).length=Z.foldl (λr p=>r*c p.2) rows.length:=λZ=>by
  induction Z with
  |nil=>intro rows _;rfl
  |cons p Z ih=>
   intro rows G;rw[vc,vc,ih _ λq m=>G q (ZK _ m),Rq _ (c p.2) rows λa _=>by rw[ZA];exact(h.c0 (G p ZY)).1]
 exact M Z [[]] L
theorem B1(Z:List (Str×Str)):∀r∈XJ ks Z,r.length=Z.length:=by
 have N:∀(Z:List (Str×Str))(n:Nat)(rows:List (List W)),(∀r∈rows,r.length=n)->∀r∈Z.foldl (λrows p=>rows.flatMap λr=>(VB ks 3 p.2).map λu=>r++[u]) rows,r.length=n+Z.length:=λZ=>by
  induction Z with
  |nil=>intro n rows h r J;exact h r J
  |cons p Z ih=>
   intro n rows h r J
   have:=ih (n+1) _ (λr J=>by
    obtain⟨G,M,L⟩:=jm.mp J;obtain⟨u,_,rfl⟩:=ZU.mp L;rw[ZJ,h G M];rfl) r J
   rw[this,Zd];omega
 intro r J;have:=N Z 0 [[]] (λr J=>by rw[ZO.mp J];rfl) r J;omega
theorem Pw(N:Has H x (Wq r))(J:H b=some (.tup [wv]))(O:Has H wv u.dat)(B:r.length<=3)(q:∀v G,Same H G->Has G v (Wq (r++[u]))->Q v G):
  NX K x (.ref b) H Q\/GS K x (.ref b) H Q:=by
 unfold Wq at N q;obtain⟨a,L,rfl,R,Z⟩:=Yz N;have M:=Z.length;rw[ZA]at M
 cases r with
 |nil=>
  obtain rfl:=VD Z;exact .inl ⟨a,b,[wv],rfl,rfl,Z0 R,Z0 J,q _ _ (Z6 _) (Yn J (Z3 O))⟩
 |cons y r=>
  refine .inr ⟨a,b,L,[wv],rfl,rfl,Z0 R,Z0 J,(λz=>by subst z;cases M),Zf (Yp (by simp only[zg];omega)),(λz=>nomatch z),λ_ p T=>?_⟩;have s:=Yg T (.tup (L++[wv]));refine q _ _ s (Yn Ya ?_);rw[ZI];exact Z5 (Z.mono s) (Z3 (O.mono s))
theorem B6{J:List (Str×Str)}{i:Nat}(h:HasL H G (J.map λp=>.tup [.str p.1,.str p.2]))(L:G[i]?=some x):∃p t,J[i]?=some p/\x=.ref t/\H t=some (.tup [.str p.1,.str p.2]):=by
 obtain⟨d,Z,N⟩:=h.get L;rw[ZG]at Z
 cases e:J[i]? with
 |none=>rw[e]at Z;cases Z
 |some p=>
  rw[e]at Z;cases Z;obtain⟨t,rfl,M⟩:=Xp N;exact⟨p,t,rfl,rfl,M⟩
end L2
namespace K4
open PySem L2
section
variable{f g C CK:Addr}
def Gp(CK:Addr):Sp:=λM H Q _=>∃(G:Addr)(J:kL)(d:kM)(Z:List (Str×Str))(v:V),M=[.ref G,v]/\KI H CK G J d/\J.length<=6/\Has H v (psD Z)/\Z.length<=3/\(∀p∈Z,p.2∈J.map (·.1))/\(Z.map (·.1)).Nodup/\(∀p∈Z,WdS p.1)/\
 ∀L,Same H L->Q (.bl true) L
theorem Gu:Yo ["kinds","parameters","seen","name","kind"] ["kinds","parameters"] (Yc Bz):=Y3
theorem K7(B:Blt T)(TC:KCl K CK)(F:Fun K "are_parameters" "are_parameters" Bz f fd)(hM:T "MOST_PARAMETERS"=some u)(rM:RelV (.int 3) u)(DN:Df P w K T base n "is_name" ["text"] (Uh 97))(m2:Vn K CK "names" g)(G2:Yk P w K T base CX0 n g gd ["self"] (U4 CK))(b2:Binds K gd ["self"] []):Yk P w K T base CX0 (n+1) f fd ["kinds","parameters"] (Gp CK):=by
 refine F.oq Gu λZ8 A j s H vs Q E m h=>?_;obtain⟨so,y,d,ps,v,rfl,ki,k6,hv,l3,pk,nd,S,q⟩:=h;have hu:=Jl m;unfold psD at hv;obtain⟨pa,xs,rfl,Z,M⟩:=Yz hv;have lx:=M.length;rw[ZA]at lx;refine⟨_,YW (Y5 (Ys Ur (Yr Yj rfl B.len Zs (pa1 (pv 1))) (JL rfl hM rM) (Yy _)) (YY V8) Yv)
  (YW (Ym 2 Gu.nd JQ)
  (YW (Vo Zt rfl (JH (pv 1)) (VE (n:=2) rfl (Ye (YZ 3 Gu.nd) (Ye (YZ 4 Gu.nd) Y6)))
   (YW (Y5 (PW.pt (UF (Ja (JZ (Yw DN m (pa1 (pv 3))))) (UF (UB (X4 hu (pv 3) (pv 2))) (Jz (Ys Jr (pv 4) (VU (pv 0) TC.cl m2 G2 m b2 .nil VI) rfl))))) (YY V8) Yv)
   (YY (JK hu (pv 2) (pv 3) GU rfl))))
  (YY (Yt GU)))),?_⟩
 dsimp only[Vl,Cx.nox,Cx.wish];show let a:=_;let b:=_;let c:=_;let d:=Yh (VN _ c _) b;let e:=Yh (Jx _ _ d) a;let f:=Yh _ e;let g:=_;Yh (VN _ g _) f _ _ _
 intros
 refine⟨pa,_,rfl,.inr (Z0 Z),_,rfl,Y9 (by simp;omega) ?_⟩;intro X N;refine up_in N _ λH1 s1 g1=>?_;refine⟨⟨_,Z0 (s1 _ _ Z)⟩,?_⟩
 let I:kH:=λi U J=>Same H J/\∃G z3 z4,J X=some (.dK G)/\G.map (·.1)=(ps.take i).map (λp=>(Sum.inr p.1:Key))/\U=[some (.ref so),some (.ref pa),some (.ref X),z3,z4]
 refine RF (xs:=xs) I ⟨s1,[],_,_,g1,rfl,rfl⟩ (λi U J _ z=>Z0 (z.1 _ _ Z)) ?_ ?_
 .rintro BB RR i x U J hx ⟨si,G,z3,z4,hk,ek,rfl⟩
  obtain⟨p,t,D,rfl,ht⟩:=B6 M hx;have O:=ZH D;have i3:=(ZE.mp D).1;obtain⟨w1,w2,w3⟩:=S p O
  have nk:VH G (Sum.inr p.1)=none:=Uz (by
   rw[ek];intro z;obtain⟨q1,r,o⟩:=ZU.mp z;exact Ws nd (show(ps.map (·.1))[i]?=some p.1 by rw[ZG,D];rfl) (by rw[<-yj];exact ZU.mpr ⟨q1,r,Sum.inr.inj o⟩))
  refine⟨_,Z0 (si _ _ ht),rfl,?_⟩;refine⟨p.1,rfl,w1,w2,w3,λH2 R=>⟨_,rfl,Y9 (by simp) ?_⟩⟩;refine⟨_,(show Vx H2 X (.str p.1) none by rw[<-nk];exact Vx.k (k:=Sum.inr p.1) (R _ _ hk)),_,rfl,Y9 (by simp) ?_⟩;have L:=ki.mono (si.trans R);obtain⟨AK,SK,o,kd,kr⟩:=id L;refine⟨_,_,by rw[<-o];exact kd.ins,rfl,so,y,d,rfl,L,λl H3 s3 hl g3=>?_⟩;have el:(y.map λk=>V.str k.1)=(y.map (·.1)).map V.str:=by rw[za];rfl
  rw[el]at g3;refine⟨l,_,rfl,.inl (Z1 g3),rfl,Jm _,_,rfl,Y9 ?_ ?_⟩
  .rw [UA]
   simp only[if_true,yR,decide_eq_false_iff_not,Classical.not_not];exact pk p O
  have lk:G.length<=3:=by
   have:=congrArg List.length ek;rw[ZA,ZA,ZL]at this;omega
  refine⟨_,Uk.k (k:=Sum.inr p.1) (s3 _ _ (R _ _ hk)) (Yp (by omega)),?_⟩;refine⟨((si.trans R).trans s3).putN N,_,_,_,Ya,?_,rfl⟩;rw[Um _ nk,ZI,ek,take_snoc D,ZI]
  rfl
 .rintro U J ⟨si,_⟩
  exact q J si
def U2(CK:Addr):Sp:=λM H Q _=>∃(G:Addr)(J:kL)(c d:kM)(Z:List (Str×Str))(v:V),M=[.ref G,v]/\KI H CK G J d/\KK 30 c d J/\Has H v (psD Z)/\(∀p∈Z,p.2∈J.map (·.1))/\Vy c Z<=1000/\
 ∀L,Same H L->Q (.int (Vy c Z:Nat)) L
theorem UN:Yo ["kinds","parameters","count","name","kind"] ["kinds","parameters"] (Yc Wp):=Y3
theorem Ng(B:Blt S)(TC:KCl K CK)(F:Fun K "row_count" "row_count" Wp f fd)(o:Vn K CK "worths_of" g)(G2:Yk P w K S base CX0 n g gd ["self","kind"] (UK CK))(b2:Binds K gd ["self","kind"] []):Yk P w K S base CX0 (n+1) f fd ["kinds","parameters"] (U2 CK):=by
 refine F.oq UN λZ8 A R s H vs Q E hr h=>?_;obtain⟨T,ks,c,d,ps,v,rfl,ki,j,y,D,top,q⟩:=h;unfold psD at y;obtain⟨r,xs,rfl,G,J⟩:=Yz y;have lx:=J.length;rw[ZA]at lx;refine⟨_,YW (Ym 2 UN.nd YX)
  (YW (Vo Zt rfl (JH (pv 1)) (VE (n:=2) rfl (Ye (YZ 3 UN.nd) (Ye (YZ 4 UN.nd) Y6)))
   (YY (B4 (i:=2) UN.nd rfl (Or.inl rfl) (Yr Yj rfl B.len Zs (pa1 (Vg (pv 0) TC.cl o G2 hr b2 .nil VI (pa1 (pv 4))))) Pc)))
  (YY (Yt (pv 2)))),?_⟩
 dsimp only[Vl,Cx.nox,Cx.wish];show let a:=_;let b:=_;let c:=Yh (Jx _ _ b) a;Yh _ c _ _ _
 intros
 refine Gf ?_;refine⟨⟨_,Z0 G⟩,?_⟩
 let I:kH:=λi U L=>Same H L/\∃O N,U=[some (.ref T),some (.ref r),some (.int (Vy c (ps.take i):Nat)),O,N]
 refine RF (xs:=xs) I ⟨Z6 _,_,_,rfl⟩ (λi U L _ z=>Z0 (z.1 _ _ G)) ?_ ?_
 .rintro BB RR i x U L hx ⟨si,O,N,rfl⟩
  obtain⟨p,t,M,rfl,ht⟩:=B6 J hx;have m:=D p (ZH M);refine⟨_,Z0 (si _ _ ht),rfl,?_⟩;have Z:=ki.mono si;obtain⟨AK,SK,e1,kd,kr⟩:=id Z;refine⟨_,rfl,_,_,by rw[<-e1];exact kd.ins,rfl,T,ks,d,p.2,rfl,Z,m,λl k H3 u hl g3 hy=>?_⟩;have X:=hy.length;obtain⟨c1,c2⟩:=j.c0 m;rw[ZA,c1]at X;have le:=(Ti (c:=c) (ps:=ps) (λp M=>(j.c0 (D p M)).2) i).1;refine⟨l,_,rfl,.inl (Z1 g3),.inl ⟨by omega,by omega⟩,?_⟩;have e:((Vy c (ps.take i):Nat):Int)*((k.length:Nat):Int)=((Vy c (ps.take (i+1)):Nat):Int):=by rw[take_snoc M,X0,X,vd]
  exact⟨si.trans u,some (.str p.1),some (.str p.2),by rw[<-e];rfl⟩
 .rintro U L ⟨si,O,N,rfl⟩
  rw[Ze (by omega)];exact q L si
def Xx(CK:Addr):Sp:=λN H Q _=>∃(M:Addr)(J:kL)(c d:kM)(Z:List (Str×Str))(v:V),N=[.ref M,v]/\KI H CK M J d/\KK 30 c d J/\Has H v (psD Z)/\(∀p∈Z,p.2∈J.map (·.1))/\Z.length<=3/\Vy c Z<=1000/\
 ∀l L G,Same H G->H l=none->G l=some (.lst L)->HasL G L ((XJ J Z).map Wq)->Q (.ref l) G
theorem UM:Yo ["kinds","parameters","rows","name","kind"] ["kinds","parameters"] (Yc Wo):=Y3
theorem QN:List.Nodup [("row":Str),"worth","kinds","kind"]:=by decide +kernel
theorem Nf(B:Blt mg)(TC:KCl K CK)(F:Fun K "rows_over" "rows_over" Wo f fd)(m2:Vn K CK "worths_of" g)(G2:Yk P w K mg base CX0 n g gd ["self","kind"] (UK CK))(b2:Binds K gd ["self","kind"] []):Yk P w K mg base CX0 (n+1) f fd ["kinds","parameters"] (Xx CK):=by
 refine F.oq UM λR3 A G3 s H vs Q E hr h=>?_;obtain⟨so,ks,c,d,ps,v,rfl,ki,kk,hv,pk,l3,top,q⟩:=h;unfold psD at hv;obtain⟨pa,xs,rfl,J4,J2⟩:=Yz hv;have lx:=J2.length;rw[ZA]at lx;refine⟨_,YW (Ym 2 UM.nd (Vs (pa1 (Yx Vi))))
  (YW (Vo Zt rfl (JH (pv 1)) (VE (n:=2) rfl (Ye (YZ 3 UM.nd) (Ye (YZ 4 UM.nd rfl (Or.inr rfl)) Y6)))
   (YY (Ol (i0:=2) (wi2:=LV K (IX CK "worths_of" (UK CK) [] E (MH 2) (V6 (MH 3) TJ))) [0,4] UM.nd rfl (Or.inl rfl) (VF (pv 2))
    (λcl C fp s H=>YZ 0 QN rfl (Or.inl rfl) (Or.inr rfl)) (λcl C fp s H=>VF (Vg (pv 2) TC.cl m2 G2 hr b2 .nil VI (pa1 (pv 3)))) (λcl C fp s H=>YZ 1 QN rfl (Or.inl rfl) (Or.inr rfl))
    (λcl C fp s H=>Y1 (r:=λx y H Q=>NX K x y H Q\/GS K x y H Q) Jh (pv 0) (Yx (pa1 (pv 1)))))))
  (YY (Yt (pv 2)))),?_⟩
 dsimp only[Vl,Cx.nox,Cx.wish];show let a:=_;let b:=_;let c:=Yh (Jx _ _ b) a;Yh _ c _ _ _
 intros
 refine⟨sl 0,λt0 L1=>⟨sl 1,λl0 S=>?_⟩⟩;have s1:=Yg L1 (.tup []);have g1:upd H t0 (.tup []) t0=some (.tup []):=Ya;generalize upd H t0 (.tup [])=H1 at s1 g1 S |-;refine up_in S _ λH2 s2 g2=>?_;have Z8:=s1.trans s2;refine⟨⟨_,Z0 (Z8 _ _ J4)⟩,?_⟩;refine RF (xs:=xs) (λi U T=>Same H T/\∃l G z3 k,H l=none/\T l=some (.lst G)/\HasL T G ((XJ ks (ps.take i)).map Wq)/\U=[some (.ref so),some (.ref pa),some (.ref l),z3,k]) ⟨Z8,l0,_,_,_,s1.free S,g2,Z3 (Yn (s2 _ _ g1) Z4),rfl⟩ (λi U T _ z=>Z0 (z.1 _ _ J4)) ?_ ?_
 .rintro BB RR i x U T hx ⟨si,l,G,z3,k,fl,hl,hy,rfl⟩
  obtain⟨p,t,O,rfl,ht⟩:=B6 J2 hx;have hk:=pk p (ZH O);obtain⟨c1,c2⟩:=kk.c0 hk;have i3:=(ZE.mp O).1;have lR:=FJ kk (ps.take i) λp O=>pk p (Zi O);have rl:=B1 (ks:=ks) (ps.take i);have le:=(Ti (c:=c) (ps:=ps) (λp O=>(kk.c0 (pk p O)).2) (i+1)).1;have eR:XJ ks (ps.take (i+1))=(XJ ks (ps.take i)).flatMap λr=>(VB ks 3 p.2).map λu=>r++[u]:=by rw[take_snoc O,B0]
  rw[take_snoc O,X0,<-lR,<-c1]at le;rw[eR];have ly:=hy.length;rw[ZA]at ly;rw[ZL]at rl;generalize XJ ks (ps.take i)=R at lR rl le hy ly |-;generalize hus:VB ks 3 p.2=us at le |-;refine⟨_,Z0 (si _ _ ht),rfl,?_⟩;refine⟨⟨G,Z1 hl⟩,?_⟩;refine RQ G.length (λJ N m=>Same T m/\N.length=J*us.length/\J<=R.length/\HasL m N (((R.take J).flatMap λr=>us.map λu=>r++[u]).map Wq)) ⟨Z6 _,by simp,Za _,by rw[vm];exact Z4⟩
   (λJ N m z=>Yp (by rw[z.2.1];have:J*us.length<=R.length*us.length:=yF _ z.2.2.1;omega)) ?_ ?_ ?_ ?_
  .intro J N m hi z
   exact⟨G,G[J],Z1 (z.1 _ _ hl),by simp[hi]⟩
  .intro N m z
   exact⟨G,Z1 (z.1 _ _ hl),ZF _⟩
  .intro J N m x H'' RR' hi z yl hR
   obtain⟨rfl,yy⟩:=yl;obtain⟨dx,M,N2⟩:=hy.get (yy G (Z1 (z.1 _ _ hl)));rw[ZG]at M
   cases hr1:R[J]? with
   |none=>rw[hr1]at M;cases M
   |some r=>
    rw[hr1]at M;cases M;have ri:=rl r (ZH hr1);have J1:=ki.mono (si.trans z.1);obtain⟨AK,SK,e1,kd,kr⟩:=id J1;refine⟨_,_,by rw[<-e1];exact kd.ins,rfl,so,ks,d,p.2,rfl,J1,hk,λlw D H3 e R1 gw hw=>⟨⟨D,Z1 gw⟩,?_⟩⟩;rw[hus]at hw;have Z9:=hw.length;rw[ZA]at Z9;have J5:=(N2.mono z.1).mono e;refine Nr D.length (λj I X=>Same H3 X/\I.length=J*us.length+j/\j<=us.length/\HasL X I (((R.take J).flatMap λr=>us.map λu=>r++[u]).map Wq++ ((us.take j).map λu=>r++[u]).map Wq)) ⟨Z6 _,by rw[z.2.1];rfl,Za _,by rw[vm,yH,yH,zV];exact z.2.2.2.mono e⟩
     (λj I X Z=>Yp (by
      rw[Z.2.1];have:(J+1)*us.length<=R.length*us.length:=yF _ (by omega);rw[yQ]at this;have:=Z.2.2.1;omega)) ?_ ?_ ?_ ?_
    .intro j I X hj Z
     exact⟨D,D[j],Z1 (Z.1 _ _ gw),by simp[hj]⟩
    .intro I X Z
     exact⟨D,Z1 (Z.1 _ _ gw),ZF _⟩
    .intro j I X x2 H5 T2 hj Z yl2 hT
     obtain⟨rfl,G1⟩:=yl2;obtain⟨dz,L,M2⟩:=hw.get (G1 D (Z1 (Z.1 _ _ gw)));rw[ZG]at L
     cases hv1:us[j]? with
     |none=>rw[hv1]at L;cases L
     |some v=>
      rw[hv1]at L;cases L;refine⟨sl 1,λb hb=>?_⟩;have sb:=Yg hb (.tup [x2]);have gb:upd H5 b (.tup [x2]) b=some (.tup [x2]):=Ya;refine Pw ((J5.mono Z.1).mono sb) gb ((M2.mono Z.1).mono sb) (by omega) λv' H6 s6 h6=>hT _ _ ?_;have o:=sb.trans s6;refine⟨Z.1.trans o,by rw[ZJ,Z.2.1];rfl,(ZE.mp hv1).1,?_⟩;rw[take_snoc hv1,ZI,ZI,<-yw];exact Z5 (Z.2.2.2.mono o) (Z3 h6)
    .intro I X Z
     refine hR _ _ ⟨z.1.trans (e.trans Z.1),by rw[Z.2.1,Z9,yQ],(ZE.mp hr1).1,?_⟩;have y4:=Z.2.2.2;rw[show us.take D.length=us from Ze (by omega)]at y4;rw[take_snoc hr1,vW,ZI];simp only[vp,List.flatMap_nil,zV];exact y4
  .intro N m p3 z hp3
   have e:=Yg hp3 (.lst N);have k:=z.2.2.2;rw[Ze (by omega)]at k;exact⟨si.trans (z.1.trans e),p3,N,_,_,(si.trans z.1).free hp3,Ya,k.mono e,rfl⟩
 .rintro U T ⟨si,l,G,z3,k,fl,hl,hy,rfl⟩
  rw[Ze (by omega)]at hy;exact q l G T si fl hl hy
end
end K4
namespace L2
open PySem
def WR(H:Hp)(x:Addr):Hp:=λb=>if b=x then none else H b
structure BB(Hm H:Hp)(C CK:Addr)(A:BA)(ks:List (Str×Shp))(d:Str->Nat):Prop where
 ins:H A.t=some (.ins C A.dx (Xg A))
 sm:Same Hm H
 so:KI Hm CK A.so ks d
 nd:Hm A.td=none
 nr:Hm A.rd=none
 ne:A.td≠A.rd
 n1:A.t≠A.td
 n2:A.t≠A.rd
theorem BB.same(b:BB J H C L A Z d)(s:Same H G):BB J G C L A Z d:=⟨s _ _ b.ins,b.sm.trans s,b.so,b.nd,b.nr,b.ne,b.n1,b.n2⟩
theorem BB.td(b:BB J H C G A Z d)(o:HO):BB J (upd H A.td o) C G A Z d:=⟨by rw[Yd b.n1];exact b.ins,b.sm.putN b.nd,b.so,b.nd,b.nr,b.ne,b.n1,b.n2⟩
theorem BB.rd(b:BB J H C G A Z d)(o:HO):BB J (upd H A.rd o) C G A Z d:=⟨by rw[Yd b.n2];exact b.ins,b.sm.putN b.nr,b.so,b.nd,b.nr,b.ne,b.n1,b.n2⟩
structure BT(H:Hp)(A:BA)(kv rv:List (Key×V))(ks:List (Str×Shp))(ds:List Dd):Prop where
 td:H A.td=some (.dK kv)
 rd:H A.rd=some (.dK rv)
 ke:kv.map (·.1)=ds.map (λx=>(Sum.inr x.1.1:Key))
 va:HasL H (kv.map (·.2)) (ds.map XQ)
 ro:∀x∈ds,∃l xs,VH rv (Sum.inr x.1.1)=some (.ref l)/\H l=some (.lst xs)/\HasL H xs ((XJ ks x.1.2.1).map Wq)
 ln:rv.length<=ds.length
theorem BT.same(b:BT H A G J L T)(s:Same H B):BT B A G J L T:=
 ⟨s _ _ b.td,s _ _ b.rd,b.ke,b.va.mono s,λx M=>let⟨l,Z,R,O,N⟩:=b.ro x M;⟨l,Z,R,s _ _ O,N.mono s⟩,b.ln⟩
theorem M6(e:TK H L):∀(u:W){v:V},Has H v u.dat->Has L v u.dat
 |.non,_,h=>by unfold W.dat Has at h |-;exact h
 |.tag _,_,h=>by unfold W.dat Has at h |-;exact h
 |.pair a b,_,h=>by
  obtain⟨p,N,M,rfl,Z,G,J⟩:=La h;unfold W.dat Has;exact⟨p,_,rfl,e _ _ Z,Z2 (M6 e a G) (Z3 (M6 e b J))⟩
theorem G8{α:Type}{D:α->Dat}(e:∀u {v:V},Has H v (D u)->Has G v (D u)):∀{J:List α}{Z:kF},HasL H Z (J.map D)->HasL G Z (J.map D)
 |[],[],_=>Z4
 |[],_::_,h=>by rw[yH]at h;unfold HasL at h;exact h.elim
 |_::_,[],h=>by rw[ZT]at h;unfold HasL at h;exact h.elim
 |u::J,x::Z,h=>by
  rw[ZT]at h |-;unfold HasL at h;exact Z2 (e u h.1) (G8 e h.2)
theorem Ea(e:TK H R){Z:List (List W)}(h:HasL H L (Z.map Wq)):HasL R L (Z.map Wq):=G8 (λu v J=>by
 unfold Wq Has at J |-;obtain⟨a,G,O,N,M⟩:=J;exact⟨a,G,O,e _ _ N,G8 (λu {v}=>M6 e u) M⟩) h
theorem NL(x:Dd):(XQ x).st=true:=by
 unfold XQ psD;simp[Dat.st,Dat.sts,Gx,Bd.st]
theorem TH:∀Z:List Dd,Dat.sts (Z.map XQ)=true
 |[]=>by unfold List.map Dat.sts;rfl
 |x::Z=>by rw[ZT];unfold Dat.sts;rw[TH Z,NL];rfl
theorem Pg(h:Has H v (N5 x)):∃a u w,v=.ref a/\H a=some (.tup [.str x.1.1,u,.str x.1.2.2,w])/\Has H u (psD x.1.2.1)/\Has H w x.2.dat:=by
 unfold N5 at h;obtain⟨t,F,rfl,O,R⟩:=Yz h;obtain⟨I,X,rfl,E,L⟩:=Yb R;obtain⟨N,C,rfl,D,G⟩:=Yb L;obtain⟨A,U,rfl,B,J⟩:=Yb G;obtain⟨M,S,rfl,T,Z⟩:=Yb J;obtain rfl:=VD Z;obtain rfl:=has_str E;obtain rfl:=has_str B;exact⟨t,N,M,rfl,O,D,T⟩
theorem C6(A:BA):(Xg A).lookup ("is_head":Str)=none:=rfl
theorem C4(A:BA):(Xg A).lookup ("rows":Str)=some (V.ref A.rd):=rfl
theorem EI(Z:X.calm=true)(M:PG X (.Name x1 p1) t1)(L:PG X (.Name x2 p2) t2)(G:PG X (.Name x3 p3) t3)(J:PG X (.Name x4 p4) t4):
  PG X (.Tuple [.Name x1 p1,.Name x2 p2,.Name x3 p3,.Name x4 p4] k pos) (Pm X.K 4 (XM t1 (XM t2 (XM t3 (XM t4 Nv))))):=
 VE (n:=4) Z (Ye M (Ye L (Ye G (Ye J Y6))))
theorem BT.put(b:BT H0 A N M Q S)(P:A.td≠A.rd)(C:x.1.1∉S.map λy=>y.1.1)(R:U=upd H0 A.td (.dK (putK N (Sum.inr x.1.1) v)))(r:Has H0 v (XQ x))(s:Same U Hb)(j:Hb l=some (.lst B))(w:HasL Hb B ((XJ Q x.1.2.1).map Wq))(L:H4=upd Hb A.rd (.dK (putK M (Sum.inr x.1.1) (.ref l)))):
  BT H4 A (putK N (Sum.inr x.1.1) v) (putK M (Sum.inr x.1.1) (.ref l)) Q (S++[x]):=by
 have X:VH N (Sum.inr x.1.1)=none:=Uz (by
  rw[b.ke];intro z;obtain⟨t,I,i⟩:=ZU.mp z;exact C (ZU.mpr ⟨t,I,Sum.inr.inj i⟩))
 have F:U A.td=some (.dK (putK N (Sum.inr x.1.1) v)):=by rw[R];exact Ya
 have Z:Hb A.rd=some (.dK M):=s _ _ (by rw[R,Yd (Zq P)];exact b.rd);have D:TK H0 U:=by rw[R];exact Ue b.td λq z=>nomatch z
 have G:TK Hb H4:=by rw[L];exact Ue Z λq z=>nomatch z
 have E:TK H0 H4:=λb J h=>G _ _ (s _ _ (D _ _ h))
 have p:∀b J,H0 b=some (.lst J)->H4 b=some (.lst J):=λc J h=>by
  have k:c≠A.td:=JR h b.td (by intro z;cases z);have O:Hb c=some (.lst J):=s _ _ (by rw[R,Yd k];exact h);have g:c≠A.rd:=JR O Z (by intro z;cases z);rw[L,Yd g];exact O
 have d:H4 l=some (.lst B):=by
  rw[L,Yd (JR j Z (by intro z;cases z))];exact j
 refine⟨by rw[L,Yd P];exact s _ _ F,by rw[L];exact Ya,by rw[Um _ X,ZI,b.ke,ZI];rfl,?_,λy u=>?_,?_⟩
 .rw [Um _ X,ZI,ZI]
  exact Z5 (VS E _ (TH S) b.va) (Z3 (Jd E _ (NL x) r))
 .rw [UJ]
  rcases ZV.mp u with m|m
  .have ny:¬(Sum.inr y.1.1:Key)=Sum.inr x.1.1:=λz=>C (ZU.mpr ⟨y,m,Sum.inr.inj z⟩)
   rw[Zo ny];obtain⟨f,T,o,O,e⟩:=b.ro y m;exact⟨f,T,o,p _ _ O,Ea E e⟩
  .cases ZO.mp m
   rw[Zn rfl];exact⟨l,B,rfl,d,Ea G w⟩
 .have:=NY M (Sum.inr x.1.1) (.ref l)
  have:=b.ln;rw[ZJ,zg];omega
end L2
namespace K4
open PySem L2
section
variable{f g C CK:Addr}
def MR(C CK:Addr):Sp:=λM H Q _=>∃(A:BA)(G:kE)(J:kL)(d:kM)(y k:Str)(Z:List (Str×Str))(v:V),M=[.ref A.t,.str y,v,.str k]/\H A.t=some (.ins C A.dx (Xg A))/\H A.td=some (.dK G)/\KI H CK A.so J d/\J.length<=6/\VH G (Sum.inr y)=none/\WdS y/\
 Has H v (psD Z)/\Z.length<=3/\(∀p∈Z,p.2∈J.map (·.1))/\(Z.map (·.1)).Nodup/\(∀p∈Z,WdS p.1)/\k∈J.map (·.1)/\∀L,Same H L->Q (.bl true) L
theorem Oc:Yo ["self","name","parameters","kind"] ["self","name","parameters","kind"] (Yc By):=Y3
theorem K6(G:BCl K C)(TC:KCl K CK)(F:Fun K "is_head" "Book.is_head" By f fd)(DN:Df P w K T base n "is_name" ["text"] (Uh 97))(DA:Df P w K T base n "are_parameters" ["kinds","parameters"] (Gp CK))(r:Vn K CK "names" g)(G2:Yk P w K T base CX0 n g gd ["self"] (U4 CK))(b2:Binds K gd ["self"] []):Yk P w K T base CX0 (n+1) f fd ["self","name","parameters","kind"] (MR C CK):=by
 refine F.oq Oc λZ8 A R s H vs Q E N h=>?_;obtain⟨D,kv,L,d,y,k,m,v,rfl,B,ht,I,i,c,⟨j,X,U⟩,a,b,p,u,O,hk,q⟩:=h;have x:=Jl N;refine⟨_,YW (Y5 (PW.pt (UF (Ja (JZ (Yw DN N (pa1 (pv 1))))) (Jz (UB (X4 x (pv 1) (Y8 (pv 0) rfl)))))) (YY V8) Yv)
  (YY (Yt (Tq (Yw DA N (pa2 (Y8 (pv 0) rfl) (pv 2))) (To (XA Xm (pv 3) (VU (Y8 (pv 0) rfl) TC.cl r G2 N b2 .nil VI) rfl))))),?_⟩
 dsimp only[Vl,Cx.nox,Cx.wish];refine⟨y,rfl,j,X,U,λH1 J=>⟨_,rfl,Y9 (by simp) ?_⟩⟩;refine⟨C,_,_,_,J _ _ B,G.cl,G.td,Fj _,_,(show Vx H1 D.td (.str y) none by rw[<-c];exact Vx.k (k:=Sum.inr y) (J _ _ ht)),_,rfl,Y9 (by simp) ?_⟩;refine⟨C,_,_,_,J _ _ B,G.cl,G.so,Li _,D.so,L,d,m,v,rfl,I.mono J,i,a.mono J,b,p,u,O,λH2 t=>⟨true,rfl,V1 rfl ?_⟩⟩;have Z:=J.trans t;have M:=I.mono Z;obtain⟨AK,SK,e1,o,kr⟩:=id M;refine⟨C,_,_,_,Z _ _ B,G.cl,G.so,Li _,_,_,by rw[<-e1];exact o.ins,rfl,D.so,L,d,rfl,M,λl H3 z hl S=>?_⟩;have el:(L.map λk=>V.str k.1)=(L.map (·.1)).map V.str:=by rw[za];rfl
 rw[el]at S;refine⟨l,_,rfl,.inl (Z1 S),rfl,Jm _,?_⟩;rw[UA];have e:decide (k∈L.map (·.1))=true:=decide_eq_true hk;dsimp only[rI0,rI,XF];rw[e];exact q H3 (Z.trans z)
end
section
variable{f g C CK:Addr}
def Im(C CK:Addr):Sp:=λO H Q _=>∃(G:Hp)(A:BA)(N:Addr)(M:kF)(Z:kL)(c d:kM)(J:List Dd),O=[.ref A.t,.ref N]/\BB G H C CK A Z d/\BT H A [] [] Z []/\KK 30 c d Z/\Z.length<=6/\G N=some (.lst M)/\HasL G M (J.map N5)/\0<J.length/\J.length<=8/\
 Wds 97 (J.map λx=>x.1.1)/\(∀x∈J,UW (Z.map (·.1)) c 40 x.1)/\∀L T R,BB G L C CK A Z d->BT L A T R Z J->Q .non L
theorem WM:Yo ["self","definitions","in_all","number","name","parameters","kind","body","count"] ["self","definitions"] (Yc Bu):=Y3
theorem K5(B:Blt T)(me:T "enumerate"=none)(R:BCl K C)(F:Fun K "take_heads" "Book.take_heads" Bu f fd)(h1:T "MOST_DEFINITIONS"=some u1)(r1:RelV (.int 8) u1)(h2:T "MOST_ROWS_books"=some u2)(r2:RelV (.int 200) u2)(h3:T "MOST_ROWS_IN_ALL"=some u3)(r3:RelV (.int 400) u3)(mH:Vn K C "is_head" g)(GH:Yk P w K T base CX0 n g gd ["self","name","parameters","kind"] (MR C CK))(bH:Binds K gd ["self","name","parameters","kind"] [])(DC:Df P w K T base n "row_count" ["kinds","parameters"] (U2 CK))(DO:Df P w K T base n "rows_over" ["kinds","parameters"] (Xx CK)):Yk P w K T base CX0 (n+1) f fd ["self","definitions"] (Im C CK):=by
 refine F.oq WM λT3 A M2 s H vs Q E hr h=>?_;obtain⟨Hm,D,dl,zs,o,c,d,ds,rfl,bb,bt,kk,k6,X,Z8,d0,d8,wd,ho,q⟩:=h;have hu:=Jl hr;have lz:=Z8.length;rw[ZA]at lz;refine⟨_,YW (Y5 (Ys V9 (Yr Yj rfl B.len Zs (pa1 (pv 1))) YX (Yy _)) (YY V8) Yv)
  (YW (Ym 2 WM.nd YX)
  (YY (Vo Zt rfl (U9 rfl me (pa1 (pv 1))) (VE (n:=2) rfl (Ye (YZ 3 WM.nd) (Ye (EI rfl (YZ 4 WM.nd) (YZ 5 WM.nd) (YZ 6 WM.nd) (YZ 7 WM.nd)) Y6)))
   (YW (Y5 (PW.pt (UF (Ys QK (pv 3) (JL rfl h1 r1) (Yy _)) (Jz (Ja (JZ (Vg (pv 0) R.cl mH GH hr bH .nil VI (pa3 (pv 4) (pv 5) (pv 6)))))))) (YY V8) Yv)
   (YW (Ym 8 WM.nd (Yw DC hr (pa2 (Y8 (pv 0) rfl) (pv 5))))
   (YW (B4 (i:=2) WM.nd rfl (Or.inl rfl) (pv 8) EW)
   (YW (Y5 (PW.pt (UF (Ys Ur (pv 8) (JL rfl h2 r2) (Yy _)) (Jz (Ys Ur (pv 2) (JL rfl h3 r3) (Yy _))))) (YY V8) Yv)
   (YW (JK hu (Y8 (pv 0) rfl) (pv 4) (Yx (pa3 (pv 5) (pv 6) (pv 7))) rfl)
   (YY (JK hu (Y8 (pv 0) rfl) (pv 4) (Yw DO hr (pa2 (Y8 (pv 0) rfl) (pv 5))) rfl)))))))))),?_⟩
 dsimp only[Vl,Cx.nox,Cx.wish];show let a:=_;let b:=Yh _ a;let c:=_;let d:=Yh (VN _ c _) b;let e:=Yh _ d;let f:=Yh _ e;let g:=_;let h:=Yh (VN _ g _) f;let i:=Jx _ _ h;let j:=Yh _ i;let k:=_;Yh (VN _ k _) j _ _ _
 intros
 refine⟨dl,_,rfl,.inl (Z1 (bb.sm _ _ X)),rfl,_,rfl,Y9 (λz=>by have z1:=Zr z;injection z1 with z2;omega) ?_⟩;refine Gf ?_;refine⟨dl,false,zs,rfl,Z1 (bb.sm _ _ X),?_⟩
 let I:kH:=λi U t=>BB Hm t C CK D o d/\∃(M v:kE)(n:Nat)(z3 z4 z5 z6 z7 z8:kJ),BT t D M v o (ds.take i)/\n<=40*i/\U=[some (.ref D.t),some (.ref dl),some (.int (n:Nat)),z3,z4,z5,z6,z7,z8]
 refine Xq (tp:=false) (xs:=zs) I
  ⟨bb,[],[],0,_,_,_,_,_,_,bt,ZF _,rfl⟩ (λi U t _ z=>Z1 (z.1.sm _ _ X)) ?_ ?_
 .rintro BB' RR i x U t r hx ⟨bbi,M,v,n',z3,z4,z5,z6,z7,z8,bti,n40,rfl⟩ hr'
  obtain⟨dd,G,R7⟩:=Z8.get hx;rw[ZG]at G
  cases hc:ds[i]? with
  |none=>rw[hc]at G;cases G
  |some Z=>
   rw[hc]at G;cases G;have i8:=(ZE.mp hc).1;have hm:=ZH hc;obtain⟨p3,pk,hk,L1,G3,T2⟩:=ho Z hm;refine up_in hr' _ λHR sR gR=>?_;have J:=bbi.same sR;have J2:=bti.same sR;obtain⟨ta,u,wv,rfl,R5,Z9,R1⟩:=Pg (R7.mono J.sm)
   have nx:Z.1.1∉(ds.take i).map λy=>y.1.1:=by
    rw[yj];exact Ws wd.nd (show(ds.map λy:Dd=>y.1.1)[i]?=some Z.1.1 by rw[ZG,hc];rfl)
   have nk:VH M (Sum.inr Z.1.1)=none:=Uz (by
    rw[bti.ke];intro z;obtain⟨q1,R6,e1⟩:=ZU.mp z;exact nx (ZU.mpr ⟨q1,R6,Sum.inr.inj e1⟩))
   have lk:M.length<=8:=by
    have:=congrArg List.length bti.ke;rw[ZA,ZA,ZL]at this;omega
   have lr:=bti.ln;rw[ZL]at lr;refine⟨_,Z0 gR,rfl,⟨_,Z0 R5,rfl,?_⟩⟩;refine⟨_,rfl,Y9 (by simp;omega) ?_⟩;refine⟨_,_,J.ins,C6 _,D,M,o,d,Z.1.1,Z.1.2.2,Z.1.2.1,u,rfl,J.ins,J2.td,J.so.mono J.sm,k6,nk,wd.wdS (ZU.mpr ⟨Z,hm,rfl⟩),Z9,p3,pk,L1,G3,hk,λH1 s1=>⟨_,rfl,Y9 (by simp) ?_⟩⟩;have O:=J.same s1;have T0:=J2.same s1;have S:=Z9.mono s1;refine⟨C,_,_,_,O.ins,R.cl,R.so,Li _,D.so,o,c,d,Z.1.2.1,u,rfl,O.so.mono O.sm,kk,S,pk,by omega,λH2 p=>?_⟩;have T1:=O.same p;have R8:=T0.same p;refine⟨_,rfl,?_⟩;refine⟨_,rfl,Y9 (by simp;omega) ?_⟩;refine⟨_,rfl,Y9 (by simp;omega) ?_⟩;refine⟨sl 3,λtt R4=>?_⟩;refine up_in R4 _ λH3 m g3=>?_;have J5:=T1.same m;have N:=R8.same m;have R3:Has H3 (.ref tt) (XQ Z):=Yn g3 (Z2 ((S.mono p).mono m) (Z2 Yu (Z3 (((R1.mono s1).mono p).mono m))));refine⟨C,_,_,_,J5.ins,R.cl,R.td,Fj _,_,Uk.k (k:=Sum.inr Z.1.1) N.td (Yp (by omega)),?_⟩;have L:=J5.td (.dK (putK M (Sum.inr Z.1.1) (.ref tt)));obtain⟨H4,e4⟩:∃H4,H4=upd H3 D.td (.dK (putK M (Sum.inr Z.1.1) (.ref tt))):=⟨_,rfl⟩;have G1:TK H3 H4:=by rw[e4];exact Ue N.td λys z=>nomatch z
   have G2:H4 D.rd=some (.dK v):=by rw[e4,Yd (Zq bb.ne)];exact N.rd
   rw[<-e4]at L;dsimp only[rI0,rI,XF];rw[<-e4];refine⟨C,_,_,_,L.ins,R.cl,R.so,Li _,D.so,o,c,d,Z.1.2.1,u,rfl,L.so.mono L.sm,kk,Jd G1 _ (by unfold psD;unfold Dat.st;exact Gx _) ((S.mono p).mono m),pk,p3,by omega,λl xs H5 s5 fl hl N2=>?_⟩;have J4:=L.same s5;refine⟨C,_,_,_,J4.ins,R.cl,R.rd,C4 _,_,Uk.k (k:=Sum.inr Z.1.1) (s5 _ _ G2) (Yp (by omega)),?_⟩;have J1:=N.put bb.ne nx e4 R3 s5 hl N2 rfl;rw[<-take_snoc hc]at J1;exact⟨J4.rd _,_,_,n'+Vy c Z.1.2.1,_,_,_,_,_,_,J1,by omega,rfl⟩
 .rintro U t ⟨bbi,M,v,n',z3,z4,z5,z6,z7,z8,bti,n40,rfl⟩
  rw[Ze (by omega)]at bti;exact q t M v bbi bti
end
end K4
namespace L2
open PySem
theorem BD.mono(k:BD H C M A Z J d G)(e:Same H L):BD L C M A Z J d G:=⟨e _ _ k.ins,k.so.mono e,e _ _ k.td,k.ke,k.va.mono e,k.nd⟩
theorem B8(n:b≠x)(h:H b=some o):WR H x b=some o:=by unfold WR;rw[Zo n];exact h
theorem KI.out(k:KI H T t M d)(O:H x=some (.ins C R [])):KI (WR H x) T t M d:=by
 obtain⟨A,S,rfl,J,N⟩:=k;have Z:∀{b:Addr}{o:HO},H b=some o->o≠.ins C R []->WR H x b=some o:=λ{b o} h n=>B8 (JR h O n) h;have L:TL H (WR H x):=⟨λb G h=>Z h (by intro z;cases z),λb G h=>Z h (by intro z;cases z)⟩;refine⟨A,S,rfl,⟨Z J.ins (λz=>?_),Z J.sh (λz=>by cases z),Z J.wo (λz=>by cases z),Z J.he (λz=>by cases z),Z J.pd (λz=>by cases z),Z J.tk (λz=>by cases z),Z J.pk (λz=>by cases z),J.nd⟩,N.tl L⟩;injection z with _ _ z;unfold Gh at z;cases z
end L2
namespace K4
open PySem L2
section
variable{f g C CK N fI:Addr}
theorem J8:Yo ["self","number","name","parameters","kind","body","found","place"] ["self"] (Yc Mi):=Y3
theorem C5(A:BA):(Xg A).lookup ("names":Str)=none:=rfl
theorem Ob:Yo ["self","kinds","definitions"] ["self","kinds","definitions"] (Yc Bx):=Y3
theorem C3(A:BA):(Xg A).lookup ("take_heads":Str)=none:=rfl
theorem C7(A:BA):(Xg A).lookup ("check_bodies":Str)=none:=rfl
end
end K4
namespace L2
open PySem
def DW(m:Nat)(d:Dat):Prop:=d.dep<=m/\d.wid<=1000
theorem DW.up(h:DW m d)(l:m<=n):DW n d:=⟨ZZ h.1 l,h.2⟩
theorem M8:∀{Z:kK},(∀d∈Z,DW m d)->Dat.deps Z<=m/\Dat.wids Z<=1000
 |[],_=>by unfold Dat.deps Dat.wids;exact⟨Za _,Za _⟩
 |d::Z,h=>by
  have q:=M8 λe G=>h e (ZK _ G);have J:=h d ZY;unfold Dat.deps Dat.wids;exact⟨vI.mpr ⟨J.1,q.1⟩,vI.mpr ⟨J.2,q.2⟩⟩
theorem Lo(h:∀d∈Z,DW m d)(l:Z.length<=1000):DW (1+m) (.lst Z):=by
 have q:=M8 h;unfold DW Dat.dep Dat.wid;exact⟨by omega,vI.mpr ⟨l,q.2⟩⟩
theorem UR(h:∀d∈Z,DW m d)(l:Z.length<=1000):DW (1+m) (.tup Z):=by
 have q:=M8 h;unfold DW Dat.dep Dat.wid;exact⟨by omega,vI.mpr ⟨l,q.2⟩⟩
theorem Jf(x:Str):DW 0 (.str x):=by unfold DW Dat.dep Dat.wid;exact⟨ZF _,Za _⟩
theorem M7(G:DW m d)(J:DW m e):DW (1+m) (.tup [d,e]):=UR (λx Z=>by
 rcases Zb.mp Z with rfl|Z
 .exact G
 .cases ZO.mp Z
  exact J) (by simp)
theorem Er:∀{J:List Bd}{Z:kq}{d:Dat},d∈Bd.brs J Z->∃b∈J,∃t,d=.tup [.str t,b.dat]
 |[],Z,d,h=>by cases Z <;> (unfold Bd.brs at h;cases h)
 |b::J,[],d,h=>by unfold Bd.brs at h;cases h
 |b::J,t::Z,d,h=>by
  unfold Bd.brs at h;rcases Zb.mp h with e|e
  .exact ⟨b,ZY,t,e⟩
  .obtain ⟨b',m,t',e'⟩:=Er e
   exact⟨b',ZK _ m,t',e'⟩
theorem L0:∀(J:List Bd)(Z:kq),(Bd.brs J Z).length<=J.length
 |[],Z=>by cases Z <;> (unfold Bd.brs;exact ZF _)
 |b::J,[]=>by unfold Bd.brs;exact Za _
 |b::J,t::Z=>by unfold Bd.brs;exact jo (L0 J Z)
set_option tactic.hygienic true in
theorem Ei{b:Bd}(N:b.ok)(L:∀c∈b.parts,DW m c.dat):DW (3+m) b.dat:=by
 have T:=Bd.few N;have w:∀x,DW (2+m) (.str x):=λx=>(Jf x).up (Za _);have R:∀{G:kK},G.length<=5->(∀d∈G,DW (2+m) d)->DW (3+m) (.tup G):=λ{G} l h=>(UR h (by omega)).up (by omega);have J:∀c∈b.parts,DW (2+m) c.dat:=λc O=>(L c O).up (Nat.le_add_left _ _);cases b <;> unfold Bd.dat <;> refine R (by simp) λd Z=>?_ <;> simp only[Zb,yp,or_false]at Z
 case tag=>rcases Z with rfl|rfl <;> exact w _
 case name=>rcases Z with rfl|rfl <;> exact w _
 case one e=>rcases Z with rfl|rfl <;> first|exact w _|exact J _ (by simp[Bd.parts])
 case other e=>rcases Z with rfl|rfl <;> first|exact w _|exact J _ (by simp[Bd.parts])
 case pair e g=>
  rcases Z with rfl|rfl|rfl
  .exact w _
  .exact J e (by simp[Bd.parts])
  .exact J g (by simp[Bd.parts])
 case choose e ts bs=>
  rcases Z with rfl|rfl|rfl
  .exact w _
  .exact J e (by simp[Bd.parts])
  .refine (UR (m:=1+m) (λd Z=>?_) ?_).up (by omega)
   .obtain ⟨b,M,t,rfl⟩:=Er Z
    exact M7 ((Jf _).up (Za _)) (L b (by simp[Bd.parts,M]))
   .have:=L0 bs ts
    have:bs.length<=(Bd.choose e ts bs).parts.length:=by simp[Bd.parts]
    omega
 case ask f as=>
  rcases Z with rfl|rfl|rfl
  .exact w _
  .exact w _
  .refine (UR (m:=m) (λd Z=>?_) ?_).up (by omega)
   .rw [Z7]at Z
    obtain⟨b,M,rfl⟩:=ZU.mp Z;exact L b (by simp[Bd.parts,M])
   .rw [Z7,ZA]
    have:as.length<=(Bd.ask f as).parts.length:=by simp[Bd.parts]
    omega
 case letb x z e g=>
  rcases Z with rfl|rfl|rfl|rfl|rfl
  .exact w _
  .exact w _
  .exact w _
  .exact J e (by simp[Bd.parts])
  .exact J g (by simp[Bd.parts])
theorem Bd.dw(n:Nat):∀b:Bd,b.dep<=n->b.ok->DW (3*n+3) b.dat:=by
 induction n with
 |zero=>exact λb h Z=>(Ei (m:=0) Z λc J=>by have:=Bd.dep_mem J;omega).up (by omega)
 |succ n ih=>exact λb h Z=>(Ei Z λc J=>ih c (by have:=Bd.dep_mem J;omega) (Bd.ok_parts Z c J)).up (by omega)
end L2
namespace L2
open PySem PySem.Spec PyProof.Rows
section
variable{X:Cx}{CX:CXT}{k:Nat}{f C:Addr}{fd:FuncData}{ps:kq}{sp:Sp}{dvs:kF}{ds:kj}{E:St->XK}{x:Str}{p pos:Pos}{e:Expr}{es:kP}{t:TA}
def IY(C:Addr)(sp:Sp)(dvs:kF)(E:St->XK)(t:TA):TE:=λU H Q=>t U H λG J=>∀x Z,J x=none->J Z=none->Z≠x->sp (.ref x::(G++ dvs)) (upd (upd J Z (.own x)) x (.ins C Z [])) (λv L=>v=.non/\Q (.ref x) L) (E U)
theorem FI{Z:kb}{U:St}{H:Hp}{s:Shared}{Q:VK}{G:kj}{N:kF}(M:Mk X.K C f)(F:Yk X.prog X.w X.K X.mg X.base CX k f fd ps sp)(S:Vk (k+1) X.A)(y:Binds X.K fd ps ds)(j:Vals dvs ds)(A:∀U,TD CX X U (E U))(I:Inv X Z U H s)(r:Vals N G)(h:∀x L,H x=none->H L=none->L≠x->sp (.ref x::(N++ dvs)) (upd (upd H L (.own x)) x (.ins C L [])) (λv d=>v=.non/\Q (.ref x) d) (E U)):
  wpAny (model X.prog X.w) X.A (call (.ref C) G) (EP X Z U Q) X.xe s:=by
 have R:=h (s.heap.objs.size+1) s.heap.objs.size (I.hok.fresh (yY _)) (I.hok.fresh (ZF _)) (Zc (yG _));have J:=Inv.made (C:=C) I;have O:Vals (V.ref (s.heap.objs.size+1)::(N++ dvs)) (Value.ref (s.heap.objs.size+1)::(G++ ds)):=.cons rfl (r.append j)
 have P:(Value.ref (s.heap.objs.size+1)::G++ ds).length=ps.length:=by
  have q:=O.length;rw[F.len _ _ _ _ R]at q;exact q.symm
 refine wpAny_call (Nl (f:=f) I.kIn M.makes M.init (beq_iff_eq.mp M.fn) (yX (F.run _ X.stack _ _ ⟨Value.ref (s.heap.objs.size+1)::G,[]⟩ (Value.ref (s.heap.objs.size+1)::(G++ ds)) _ _ (E U) (S.make C G []) (J.env0.make C G []) (y _ (Value.ref (s.heap.objs.size+1)::G) J.kIn P) O R) λr T z=>?_))
 cases r with
 |error e=>exact A U Z _ _ e T J z
 |ok m=>
  cases m with
  |ret u=>
   obtain⟨v,w,c,B,g,D⟩:=J.after z;subst g;exact⟨B,⟨V.ref (s.heap.objs.size+1),w,c,rfl,D⟩⟩
  |next=>exact False.elim z
  |brk=>exact False.elim z
  |cont=>exact False.elim z
theorem Kl(M:Mk X.K C f)(F:Yk X.prog X.w X.K X.mg X.base CX k f fd ps sp)(O:Vk (k+1) X.A)(T:Gl X x)(R:X.mg x=some (.ref C))(A:Binds X.K fd ps ds)(D:Vals dvs ds)(N:∀U,TD CX X U (E U))(S:PA X (e::es) t)(G:(x==("__debug__":Str))=false:=by decide)(B:starEach (e::es) X.env=(false,eval e X.env)::starEach es X.env:=by rfl)(J:(backTo pos (starEach es X.env)).any (·.1)=false:=by rfl):
  PE X (.Call (.Name x p) (e::es) [] pos) (IY C sp dvs E t):=by
 intro Z s U H Q I h;refine yg (XC I T R ?_ G);refine vv (h₀:=X.base) I.ok.mod.kin M.kp (thn (S pos Z s U H _ I h) λj y ⟨P,z,L,r,q⟩=>⟨L.kIn,?_⟩) B J;exact FI M F O A D N L r q
end
theorem Tn(K:W.Frag)(h:X.K=K)(Z:PE X e ta)(J:attributeBase e f X.env (eval e X.env)=eval e X.env):PE X (.Attribute e f pos) (P9 K ta f):=h ▸ Oo Z J
theorem UC(J:Gl X x)(Z:X.mg x=some (.ref C))(G:(x==("__debug__":Str))=false:=by decide):PE X (.Name x pos) (tC (.ref C)):=JL (v:=.ref C) J Z rfl G
end L2
namespace K4
open PySem L2
end K4
namespace L2
open PySem
end L2
namespace K4
open PySem L2
end K4
namespace L2
open PySem
end L2
namespace K4
open PySem L2
end K4
namespace L2
open PySem
theorem Bd.pls_app:∀(Z J:List Bd)(k:Nat),Bd.pls k (Z++ J)=Bd.pls k Z++ Bd.pls (k+Z.length) J
 |[],J,k=>by simp[Bd.pls]
 |x::Z,J,k=>by
  rw[yT];rw[Bd.pls,Bd.pls,Bd.pls_app Z J (k+1),yw,Zd,show k+1+Z.length=k+(Z.length+1) by omega]
theorem Bd.pls_snoc{Z:List Bd}{i:Nat}{c:Bd}(h:Z[i]?=some c):Bd.pls 0 (Z.take (i+1))=Bd.pls 0 (Z.take i)++ c.places.map λw=>((i:Nat):Int)::w:=by
 have J:=(ZE.mp h).1;rw[show Z.take (i+1)=Z.take i++[c]from take_snoc h,Bd.pls_app];rw[ZL,Nat.zero_add,zQ (Zf J)];simp[Bd.pls]
theorem Bd.pls_le(Z:List Bd)(i:Nat):(Bd.pls 0 (Z.take i)).length<=(Bd.pls 0 Z).length:=by
 have e:Z=Z.take i++ Z.drop i:=(zZ i Z).symm
 have J:Bd.pls 0 Z=Bd.pls 0 (Z.take i)++ Bd.pls (0+(Z.take i).length) (Z.drop i):=by
  conv=>lhs;rw[e]
  exact Bd.pls_app _ _ _
 rw[J,ZJ];omega
theorem Bd.part_le{b c:Bd}{i:Nat}(h:b.parts[i]?=some c):1+(Bd.pls 0 (b.parts.take i)).length+c.places.length<=b.places.length:=by
 have e:=congrArg List.length (Bd.pls_snoc h);rw[ZJ,ZA]at e;have l:=Bd.pls_le b.parts (i+1);rw[Bd.places_eq b,Zd];omega
theorem Bd.pls_mem:∀{Z:List Bd}{k:Nat}{w:kz},w∈Bd.pls k Z->∃c∈Z,∃(m:Nat)(r:kz),r∈c.places/\w=((m:Nat):Int)::r
 |[],_,_,h=>by unfold Bd.pls at h;cases h
 |b::Z,k,w,h=>by
  unfold Bd.pls at h;rcases ZV.mp h with h|h
  .obtain ⟨r,hr,e⟩:=ZU.mp h
   exact⟨b,ZY,k,r,hr,e.symm⟩
  .obtain ⟨c,hc,m,r,h1,h2⟩:=Bd.pls_mem h
   exact⟨c,ZK _ hc,m,r,h1,h2⟩
theorem Bd.way_len:∀(n:Nat)(b:Bd),b.dep<=n->∀w∈b.places,w.length<=n
 |n,b,h,w,Z=>by
  rw[Bd.places_eq]at Z;rcases Zb.mp Z with e|Z
  .rw [e];exact Za _
  .obtain ⟨c,hc,m,r,h1,rfl⟩:=Bd.pls_mem Z
   have:=Bd.dep_mem hc
   cases n with
   |zero=>omega
   |succ n=>
    have:=Bd.way_len n c (by omega) r h1;simp;omega
theorem Bd.pls_len:∀{Z:List Bd}{k:Nat},(∀c∈Z,c.places.length=c.size)->(Bd.pls k Z).length=Bd.sizes Z
 |[],k,_=>by simp[Bd.pls,Bd.sizes]
 |b::Z,k,h=>by
  rw[Bd.pls,ZJ,ZA,h b ZY,Bd.pls_len (k:=k+1) λc J=>h c (ZK _ J)];simp[Bd.sizes]
theorem Bd.places_len:∀(n:Nat)(b:Bd),b.dep<=n->b.places.length=b.size
 |n,b,h=>by
  rw[Bd.places_eq,Bd.size_eq,Zd]
  have:(Bd.pls 0 b.parts).length=Bd.sizes b.parts:=Bd.pls_len λc Z=>by
   have:=Bd.dep_mem Z
   cases n with
   |zero=>omega
   |succ n=>exact Bd.places_len n c (by omega)
  omega
theorem Bd.pls_at:∀{Z:List Bd}{k:Nat}{w:kz},w∈Bd.pls k Z->∃(m:Nat)(c:Bd)(r:kz),Z[m]?=some c/\r∈c.places/\w=((k+m:Nat):Int)::r
 |[],_,_,h=>by unfold Bd.pls at h;cases h
 |b::Z,k,w,h=>by
  rw[Bd.pls]at h;rcases ZV.mp h with h|h
  .obtain ⟨r,hr,e⟩:=ZU.mp h
   exact⟨0,b,r,rfl,hr,e.symm⟩
  .obtain ⟨m,c,r,h1,h2,h3⟩:=Bd.pls_at h
   exact⟨m+1,c,r,h1,h2,by rw[h3];congr 2;omega⟩
theorem Bd.at_places:∀(n:Nat)(b:Bd),b.dep<=n->∀w∈b.places,∃c,b.at w=some c
 |n,b,h,w,Z=>by
  rw[Bd.places_eq]at Z;rcases Zb.mp Z with e|Z
  .rw [e];exact⟨b,by unfold Bd.at;rfl⟩
  .obtain ⟨m,c,r,h1,h2,rfl⟩:=Bd.pls_at Z
   have:=Bd.dep_mem (ZH h1)
   cases n with
   |zero=>omega
   |succ n=>
    obtain⟨d,J⟩:=Bd.at_places n c (by omega) r h2;refine⟨d,?_⟩;unfold Bd.at;rw[Zn (by omega),show(((0+m:Nat):Int)).toNat=m by omega,h1];exact J
end L2
namespace K4
open PySem L2
section
theorem Px{Q:VK}{i:Int}{w:kz}(N:H pw=some (.tup (w.map V.int)))(l:w.length<=20)(q:∀t L,Same H L->L t=some (.tup ((i::w).map V.int))->Q (.ref t) L):
  ∀Z,H Z=none->GS K (.ref Z) (.ref pw) (upd H Z (.tup [.int i])) Q:=λZ G=>by
 have J:=Yg G (.tup [.int i]);have M:upd H Z (.tup [.int i]) Z=some (.tup [.int i]):=Ya;refine⟨Z,pw,_,_,rfl,rfl,Z0 M,Z0 (J _ _ N),by simp,Zf (Yp (by simp;omega)),λe=>?_,λR p O=>?_⟩
 .have e':w=[]:=by cases w with|nil=>rfl|cons _ _=>cases e
  subst e';exact q Z _ J M
 .exact q p _ (J.trans (Yg O _)) Ya
end
end K4
namespace L2
open PySem PySem.Spec PyProof.Rows
end L2
namespace L2
open PySem
theorem Pa{K:W.Frag}(X:K.In h)(G:K.lookup a=some ⟨.type "dict",none,.dict es n,#[]⟩)(L:W.KeysLit w.params es.toList):h.MapOf (VP P w) a λk=>findBy Jw es k:=by
 have keys:KeysOf (VP P w) es:=λd M=>by
  have⟨x,t,Z,J⟩:=W.KeysLit.all L d (by simpa using M);refine⟨Sum.inr x,?_,J⟩;show Jw (Sum.inr x) d.key=true;rw[Z,Rm]
 exact⟨_,es,n,X a _ G,⟨rfl,rfl,rfl⟩,rfl,keys,λk=>rfl⟩
theorem Xa(Z:K.lookup a=some ⟨.type "dict",none,.dict es n,#[]⟩)(e:W.nsIn K a x=some (some v)):findBy Jw es (Sum.inr x)=some v:=by
 have q:=W.find_K Z e;exact q
end L2
namespace K4
open PySem L2
section
variable{f g C CK:Addr}
abbrev wps:kq:=["book","around","body"]
def RA(P:Program)(w:World)(K:W.Frag)(mg:Str->Option Value)(base:Heap)(C CK:Addr)(mR:Key->Option Value)(x:Str)(p:Bd->Prop):Prop:=∃g Z,mR (Sum.inr x)=some (.ref g)/\Yk P w K mg base CX0 3 g Z rps (WG C CK p)/\W.keepIn K (.ref g)=true/\Binds K Z rps []
theorem RA.at(r:RA P w K J base C CK G x p)(L:Nat)(e:b.word=x)(h:p b):∃(g:Addr)(Z:FuncData)(p:Bd->Prop),G (Sum.inr b.word)=some (.ref g)/\Yk P w K J base CX0 (L+3) g Z rps (WG C CK p)/\p b/\W.keepIn K (.ref g)=true/\Binds K Z rps []:=by
 obtain⟨g,Z,R,O,N,M⟩:=r;exact⟨g,Z,p,by rw[e];exact R,O.mono (by omega),h,N,M⟩
theorem KZ(L:Nat)(S:RA P w K Z base C CK J "tag" λb=>∃t,b=.tag t)(I:RA P w K Z base C CK J "name" λb=>∃x,b=.name x)(A:RA P w K Z base C CK J "pair" λb=>∃e g,b=.pair e g)(F:RA P w K Z base C CK J "one" λb=>∃e,b=.one e)(E:RA P w K Z base C CK J "other" λb=>∃e,b=.other e)(D:RA P w K Z base C CK J "choose" λb=>∃e M G,b=.choose e M G/\1<=G.length)(B:RA P w K Z base C CK J "ask" λb=>∃N O,b=.ask N O)(T:RA P w K Z base C CK J "let" λb=>∃x k e g,b=.letb x k e g):
  ∀b:Bd,(∀e M G,b=.choose e M G->1<=G.length)->∃(g:Addr)(R:FuncData)(p:Bd->Prop),J (Sum.inr b.word)=some (.ref g)/\Yk P w K Z base CX0 (L+3) g R rps (WG C CK p)/\p b/\W.keepIn K (.ref g)=true/\Binds K R rps []
 |.tag t,_=>S.at L rfl ⟨t,rfl⟩
 |.name x,_=>I.at L rfl ⟨x,rfl⟩
 |.pair e g,_=>A.at L rfl ⟨e,g,rfl⟩
 |.one e,_=>F.at L rfl ⟨e,rfl⟩
 |.other e,_=>E.at L rfl ⟨e,rfl⟩
 |.choose e M G,h=>D.at L rfl ⟨e,M,G,rfl,h e M G rfl⟩
 |.ask N O,_=>B.at L rfl ⟨N,O,rfl⟩
 |.letb x k e g,_=>T.at L rfl ⟨x,k,e,g,rfl⟩
theorem QU(B:Blt Z)(J:Z "enumerate"=none)(y:BCl K C)(j:KCl K CK)(F:Fun K "kind_or_place" "kind_or_place" sKP f A)(S:Binds K A wps [])(M:Z "kind_or_place"=some (.ref f))(O:Vn K C "kinds" u)(q:Yk P w K Z base CX0 3 u r ["self"] (JE C CK))(X:Binds K r ["self"] [])(N:Vn K CK "names" d)(z:Yk P w K Z base CX0 3 d v ["self"] (U4 CK))(U:Binds K v ["self"] [])(t:Df P w K Z base 3 "parts" ["body"] U3)(G:Z "RULES"=some (.ref l))(T:base.MapOf (VP P w) l k)(R:∀(L:Nat)(b:Bd),(∀e m I,b=.choose e m I->1<=I.length)->∃(g:Addr)(D:FuncData)(p:Bd->Prop),k (Sum.inr b.word)=some (.ref g)/\Yk P w K Z base CX0 (L+3) g D rps (WG C CK p)/\p b/\W.keepIn K (.ref g)=true/\Binds K D rps []):
  ∀n,Yk P w K Z base CX0 (n+3) f A wps (TU C CK n)
 |0=>.none λo H Q E h=>by
  obtain⟨_,_,_,_,_,_,_,_,_,_,_,_,_,_,_,_,_,_,_,c,_⟩:=h;exact Zu _ c
 |n+1=>(An (L:=n) B J y j F (QU B J y j F S M O q X N z U t G T R n) S M O (q.mono (by omega)) X N (z.mono (by omega)) U (t.up (by omega)) G T (R n)).mono (by omega)
end
end K4
namespace L2
open PySem
structure Pen(K:W.Frag)(sa:Addr)(H:Hp)(p:Addr):Prop where
 ex:∃(ns:List Int)(k x:Nat),SqL K H sa (ns.map V.int)/\H p=some (.lst [.ref sa,.int (k:Nat),.int (x:Nat)])/\sa≠p
theorem SqL.sb{K:W.Frag}(h:SqL K H a Z)(s:SameB p H J)(n:a≠p):SqL K J a Z:=
 h.imp (λh=>h.imp (λh=>s _ _ n h) λ⟨o,h⟩=>⟨o,s _ _ n h⟩) id
theorem Fun.oi{K:W.Frag}{L:Stmt}(F:Fun K x qual L f D)(S:Yo N T (Yc L))(J:∀(M:Value)(A:Around)(Z:List Env)(s:Shared)(H:Hp)(G:kF)(Q:VK)(E:XK),Vk k (A.deeper (PyProof.Rows.envOfC qual (Yc L) s.heap.objs.size f M))->R G H Q E->
   ∃t,PSs (Vl CX0 P w K B base N qual (Yc L) f M A Z s H E).nox (JW L) t/\t {nx:=λ_ I=>Q .non I,rt:=Q} (start N G) H)(O:∀G H Q E,R G H Q E->G.length=T.length:=by intro G H Q E h;cases h;rfl):Yk P w K B base CX0 (k+1) f D T R:=F.ok S O J
theorem Pen.same(h:Pen K sa H p)(s:Same H M):Pen K sa M p:=let⟨Z,k,x,L,G,J⟩:=h.ex;⟨Z,k,x,s.seq L,s _ _ G,J⟩
theorem Pen.put(h:Pen K sa H p)(s:SameB p H J)(N:Pen K sa J p)(e:H a=none)(n:a≠p):Pen K sa (upd J a o) p:=by
 obtain⟨G,_,_,M,_,Z⟩:=h.ex;obtain⟨_,k,x,_,L,_⟩:=N.ex;exact⟨G,k,x,M.sb (s.put e) Z,by rw[Yd (Zq n)];exact L,Z⟩
theorem Pen.ne(h:Pen K sa H p)(e:H r=none):r≠p:=λz=>by
 obtain⟨J,k,x,L,Z,G⟩:=h.ex;rw[<-z,e]at Z;cases Z
theorem Pen.tup(h:Pen K sa H p)(e:H r=some (.tup J)):r≠p:=λz=>by
 obtain⟨G,k,x,M,Z,L⟩:=h.ex;rw[<-z,e]at Z;cases Z
theorem Pen.tk(h:Pen K sa H p)(s:SameB p H Z):TK H Z:=λb J e=>s b _ (h.tup e) e
mutual
def Dat.ni:Dat->Bool
 |.int _=>false
 |.tup ds=>Dat.nis ds
 |.lst ds=>Dat.nis ds
 |_=>true
def Dat.nis:List Dat->Bool
 |[]=>true
 |d::ds=>d.ni && Dat.nis ds
end
theorem EM:∀{Z:kK},(∀d∈Z,d.ni=true)->Dat.nis Z=true
 |[],_=>by unfold Dat.nis;rfl
 |d::Z,h=>by unfold Dat.nis;rw[h d ZY,EM λe J=>h e (ZK _ J)];rfl
theorem PP{α:Type}{f:α->Dat}(h:∀a,(f a).ni=true)(l:List α):Dat.nis (l.map f)=true:=EM λd Z=>by
 obtain⟨a,_,rfl⟩:=ZU.mp Z;exact h a
mutual
theorem Dat.ni_of:∀{d:Dat},d.st=true->d.ni=true
 |.str _,_=>by unfold Dat.ni;rfl
 |.tup ds,t=>by
  unfold Dat.st at t;unfold Dat.ni;exact Dat.nis_of t
 |.non,_=>by unfold Dat.ni;rfl
 |.bl _,_=>by unfold Dat.ni;rfl
 |.int _,t=>by unfold Dat.st at t;cases t
 |.lst _,t=>by unfold Dat.st at t;cases t
theorem Dat.nis_of:∀{Z:kK},Dat.sts Z=true->Dat.nis Z=true
 |[],_=>by unfold Dat.nis;rfl
 |d::Z,t=>by
  unfold Dat.sts at t;have J:=yE.mp t;unfold Dat.nis;rw[Dat.ni_of J.1,Dat.nis_of J.2];rfl
end
mutual
theorem VC{K:W.Frag}{H R:Hp}(s:SameB p H R)(J:Pen K sa H p):∀(d:Dat){v:V},d.ni=true->Has H v d->Has R v d
 |.non,_,_,h=>by unfold Has at h |-;exact h
 |.bl _,_,_,h=>by unfold Has at h |-;exact h
 |.int _,_,t,_=>by unfold Dat.ni at t;cases t
 |.str _,_,_,h=>by unfold Has at h |-;exact h
 |.tup ds,_,t,h=>by
  unfold Has at h |-;obtain⟨a,L,M,Z,G⟩:=h;unfold Dat.ni at t;exact⟨a,L,M,s _ _ (J.tup Z) Z,Vd s J ds t G⟩
 |.lst ds,_,t,h=>by
  unfold Has at h |-;obtain⟨a,L,M,Z,G⟩:=h;unfold Dat.ni at t;refine⟨a,L,M,s _ _ (λz=>?_) Z,Vd s J ds t G⟩;obtain⟨D,k,x,_,e,_⟩:=J.ex;rw[z,e]at Z;cases Z;obtain⟨B,N,T⟩:=G.get (i:=1) rfl;have:B=.int (k:Nat):=Has.inj _ _ T (by unfold Has;rfl);subst this
  match ds,N,t with
  |_::_::_,N,t=>
   cases N;unfold Dat.nis at t;rw[ZX]at t;have O:=t.2;unfold Dat.nis Dat.ni at O;cases O
theorem Vd{K:W.Frag}{H M:Hp}(s:SameB p H M)(L:Pen K sa H p):∀(Z:kK){J:kF},Dat.nis Z=true->HasL H J Z->HasL M J Z
 |[],[],_,h=>Z4
 |[],_::_,_,h=>by unfold HasL at h;exact h.elim
 |_::_,[],_,h=>by unfold HasL at h;exact h.elim
 |d::Z,x::J,t,h=>by
  unfold HasL at h;unfold Dat.nis at t;have G:=yE.mp t;exact Z2 (VC s L d G.1 h.1) (Vd s L Z G.2 h.2)
end
theorem Pen.lst(M:Pen K sa H p)(h:H a=some (.lst L))(g:HasL H L G)(t:Dat.nis G=true):a≠p:=λz=>by
 obtain⟨R,k,x,_,e,_⟩:=M.ex;rw[z,e]at h;cases h;obtain⟨O,Z,N⟩:=g.get (i:=1) rfl;have:O=.int (k:Nat):=Has.inj _ _ N (by unfold Has;rfl);subst this
 match G,Z,t with
 |_::_::_,Z,t=>
  cases Z;unfold Dat.nis at t;rw[ZX]at t;have J:=t.2;unfold Dat.nis Dat.ni at J;cases J
end L2
namespace K4
open PySem L2
section
theorem Bf:Yo ["_law_cell","_law_at","_law_x"] ["_law_cell","_law_at"] (Yc LP):=Y3
inductive Qc(H:Hp)(Q:VK):List V->Prop
 |mk (c:Int) (k:Nat) (q:∀r:Nat,Q (.int (r:Nat)) H):Qc H Q [.int c,.int (k:Nat)]
def BV:Sp:=λZ H Q _=>Qc H Q Z
theorem PK(F:Fun K "_law_fill" "_law_fill" LP f G):Yk P w K I base CX0 (n+1) f G ["_law_cell","_law_at"] BV:=by
 refine F.oi Bf λM A Z s H D Q E C h=>?_;obtain⟨c,k,q⟩:=h
 have J:∀r:Int,0<=r->Q (.int r) H:=λr h=>by
  have:=q r.toNat
  rwa [Int.toNat_of_nonneg h]at this
 refine⟨_,YW (Y5 (Ys QK (pv 0) (Y1 SO YX YX) (Yy _)) (YY (Yt (pv 0))) Yv)
  (YW (Ym 2 Bf.nd (Y1 XZ (Y1 Vf (Y1 Vf (Y1 Jb (Y1 XZ (pv 0) YX) YX) (Y1 Jb (pv 1) YX)) YX) YX))
  (YW (Ym 2 Bf.nd (Y1 XZ (Y1 Vf (Y1 Vf (Y1 Jb (pv 2) (pv 2)) (Y1 Jb YX (pv 2))) (pv 1)) YX))
  (YY (Yt (Y1 Vf (Y1 Jb (pv 2) YX) (Y1 XZ (Y1 Vf (Y1 Jb (pv 2) (pv 2)) (Y1 Jb YX (pv 1))) YX)))))),?_⟩
 show let a:=_;let b:=Yh _ a;let c:=Yh _ b;let d:=_;Yh (VN _ d _) c _ _ _
 intros
 have L:CS 10 18:=⟨by decide,by decide,by decide⟩;refine⟨L,_,rfl,?_⟩;refine Jn (λN=>J c (Int.le_trans (by decide) (Zr N))) (λ_=>?_);have U:=ve c (show(2147483647:Int)≠0 by decide);have S:=ja c (show(0:Int)<2147483647 by decide);refine⟨(by show(0:Int)<_;decide),.inl ⟨by omega,by omega⟩,.inr ⟨by decide,by decide⟩,(by show(0:Int)<_;decide),?_⟩;generalize hx:(c % 2147483647*48271+(k:Int)*69621+11) % 2147483629=x;have B:0<=x:=by rw[<-hx];exact ve _ (by decide)
 have T:x<2147483629:=by rw[<-hx];exact ja _ (by decide)
 refine⟨.inl ⟨by omega,by omega⟩,.inl ⟨by decide,by decide⟩,(by show(0:Int)<_;decide),?_⟩;generalize hy:(x*x+48271*x+(k:Int)) % 2147483587=y;have R:0<=y:=by rw[<-hy];exact ve _ (by decide)
 have O:y<2147483587:=by rw[<-hy];exact ja _ (by decide)
 refine⟨.inl ⟨by omega,by omega⟩,.inl ⟨by omega,by omega⟩,.inl ⟨by decide,by decide⟩,(by show(0:Int)<_;decide),?_⟩;exact J _ (Int.add_nonneg (Int.mul_nonneg (ve _ (by decide)) (by decide)) (ve _ (by decide)))
theorem Wl:Yo ["_law_pen","_law_many","_law_at","_law_cell","_law_found"] ["_law_pen","_law_many"] (Yc LL):=Y3
abbrev pnm:kq:=["_law_pen","_law_many"]
inductive OA(K:W.Frag)(H:Hp)(Q:VK):List V->Prop
 |mk (p sa:Addr) (many:Nat) (pn:Pen K sa H p) (m0:0<many) (m1:many<1000) (q:∀(r:Nat)(H':Hp),r<many->But p H H'->Pen K sa H' p->Q (.int (r:Nat)) H'):OA K H Q [.ref p,.int (many:Nat)]
def JY(K:W.Frag):Sp:=λZ H Q _=>OA K H Q Z
theorem O7(B:Blt X)(F:Fun K "_law_next" "_law_next" LL f o)(DF:Df P w K X base n "_law_fill" ["_law_cell","_law_at"] BV):Yk P w K X base CX0 (n+1) f o pnm (JY K):=by
 refine F.oi Wl λZ8 A D s H vs Q E l h=>?_;obtain⟨p,L,many,t,m,m1,q⟩:=h;refine⟨_,YW (Y5 (Ys Ts (Yi Y4 (pv 0) YX) (pv 1) (Yy _))
   (YW (Ym 2 Wl.nd (Yi Y4 (pv 0) YX))
   (YW (Ym 3 Wl.nd YX)
   (YW (Y5 (Ys Ts (pv 2) (Yr Yj rfl B.len Zs (pa1 (Yi Y4 (pv 0) YX))) (Yy _))
    (YY (Ym 3 Wl.nd (Yi Y4 (Yi Y4 (pv 0) YX) (pv 2))))
    (YY (Y5 (Ys Ur (Yr Yj rfl B.len Zs (pa1 (Yi Y4 (pv 0) YX))) YX (Yy _))
     (YY (Ym 3 Wl.nd (Y1 Vf (Y1 XZ (Yi Y4 (Yi Y4 (pv 0) YX) (Y1 XZ (Y1 Jb (pv 2) YX) (Yr Yj rfl B.len Zs (pa1 (Yi Y4 (pv 0) YX))))) YX) (Y1 Jb (pv 2) YX)))) Yv)))
   (YW (JP (Y1 Vf (pv 2) YX) (Ms (pv 0) YX set_list))
   (YY (JP (Yw DF l (pa2 (pv 3) (pv 2))) (Ms (pv 0) YX set_list))))))) Yv)
  (YW (Ym 4 Wl.nd (Y1 XZ (Yi Y4 (pv 0) YX) (pv 1)))
  (YW (JP (Y1 G0 (Yi Y4 (pv 0) YX) (pv 1)) (Ms (pv 0) YX set_list))
  (YY (Yt (pv 4))))),?_⟩
 dsimp only[Vl,Cx.nox,Cx.wish];show let a:=_;let b:=Yh _ a;let c:=Yh _ b;let d:=_;let e:=Yh _ d;let f:=_;let g:=_;let h:=VN _ g _;let i:=Yh (VN _ f h) e;let j:=Yh _ i;let k:=Yh _ j;Yh (VN _ k _) c _ _ _
 intros
 obtain⟨Z,k,x,M,J,y⟩:=t.ex;refine V7 (λT G=>But p H G/\∃(k x:Nat)(C U:kJ),G p=some (.lst [.ref L,.int (k:Nat),.int (x:Nat)])/\T=[some (.ref p),some (.int (many:Nat)),C,U,none]) ?_ ?_
 .rintro T G ⟨b',v,O,C,U,hp',rfl⟩
  refine⟨_,_,Z1 hp',rfl,(by show(0:Int)<_;omega),?_⟩;refine⟨_,_,Z1 hp',rfl,⟨(by show(0:Int)<_;omega),(by show(many:Int)<1073741824;omega)⟩,p,_,2,2,rfl,rfl,hp',rfl,?_⟩;have e:((O:Int) % (many:Int))=((O % many:Nat):Int):=by omega
  have e2:((O:Int) / (many:Int))=((O / many:Nat):Int):=by omega
  dsimp only[List.set];rw[e,e2];have z:=b'.trans (But.upd (p:=p) (H:=G) (.lst [.ref L,.int (v:Nat),.int ((O / many:Nat):Int)]));exact q _ _ (Nat.mod_lt _ m) z ⟨Z,_,_,M.sb z.sb y,Ya,y⟩
 .intro N key
  refine⟨_,_,Z1 J,rfl,_,rfl,?_⟩;refine Jn (λ_=>?_) (λ_=>key _ _ ⟨But.refl _ _,k,x,_,_,J,rfl⟩);refine⟨_,_,Z1 J,rfl,?_⟩;dsimp only[Vu];refine Gf ?_;refine V7 (λT G=>G=H/\∃c:Int,T=[some (.ref p),some (.int (many:Nat)),some (.int (k:Nat)),some (.int c),none]) ?_ ?_
  .rintro T G ⟨rfl,c,rfl⟩
   refine⟨p,_,1,1,rfl,rfl,J,rfl,?_⟩;have I:upd G p (.lst [.ref L,.int ((k:Int)+1),.int (x:Nat)]) p=some (.lst [.ref L,.int ((k:Int)+1),.int (x:Nat)]):=Ya;exact⟨c,k,λr=>⟨p,_,2,2,rfl,rfl,I,rfl,key _ _ ⟨(But.upd _).trans (But.upd _),k+1,r,_,_,Ya,rfl⟩⟩⟩
  .intro N2 key2
   refine⟨_,_,Z1 J,rfl,L,_,rfl,.inl M,_,rfl,?_⟩;refine Jn (λc=>?_) (λc=>?_)
   .have S:(k:Int)<((Z.map V.int).length:Nat):=Zr c
    rw[ZA]at S;have R:k<Z.length:=by omega
    exact⟨_,_,Z1 J,rfl,_,_,M,Yq (by rw[ZG,ZC R];rfl),key2 _ _ ⟨rfl,Z[k],rfl⟩⟩
   .refine ⟨_,_,Z1 J,rfl,L,_,rfl,.inl M,_,rfl,?_⟩
    refine Jn (λc=>?_) (λc=>key2 _ _ ⟨rfl,0,rfl⟩);have S:(0:Int)<((Z.map V.int).length:Nat):=Zr c;have u:(Z.map V.int).length=Z.length:=ZA _;have R:k*7 % Z.length<Z.length:=Nat.mod_lt _ (by omega);have e:((k:Int)*7 % (((Z.map V.int).length:Nat):Int))=((k*7 % Z.length:Nat):Int):=by rw[u,Int.natCast_emod,vd];rfl
    refine⟨_,_,Z1 J,rfl,.inr ⟨by decide,by decide⟩,_,_,Z1 J,rfl,L,_,rfl,.inl M,S,?_⟩;exact⟨_,.int (Z[k*7 % Z.length]'(R)),M,(by rw[e];exact Yq (by rw[ZG,ZC R];rfl)),(by show(0:Int)<_;decide),.inr ⟨by decide,by decide⟩,key2 _ _ ⟨rfl,(Z[k*7 % Z.length]'(R)) % 1000003+(k:Int)*1000003,rfl⟩⟩
end
end K4
namespace L2
open PySem PySem.Builtin.Str PySem.Builtin
theorem RE(Z:List Nat)(a:Nat):∀n,a+n<=Z.length->((List.range n).map (a + ·)).filterMap ((txt Z).cps[·]?)=(Z.drop a).take n
 |0,_=>by simp
 |n+1,h=>by
  have e:(txt Z).cps[a+n]?=some (Z[a+n]'(by omega)):=by
   show Z.toArray[a+n]?=_;rw[List.getElem?_toArray,ZC (by omega)]
  rw[List.range_succ,ZI,List.filterMap_append,RE Z a n (by omega),jh,yL,ZC (show a+n<Z.length by omega)];simp[e]
theorem Qr{j n:Nat}(h:j<=n):strSliceIndices none (some (j:Int)) 1 n=(List.range j).map (0 + ·):=by
 unfold strSliceIndices sliceRange;simp only[show(1:Int) > 0 by decide,if_true,show ¬((j:Int)<0) by omega,if_false];have e:(if(0:Int)<max 0 (min (j:Int) (n:Int))then(max 0 (min (j:Int) (n:Int))-0+1-1) / 1 else 0).toNat=j:=by split <;> omega
 rw[e];refine vX λk _=>by omega
theorem Ig{j n:Nat}(h:j<=n):strSliceIndices (some (j:Int)) none 1 n=(List.range (n-j)).map (j + ·):=by
 unfold strSliceIndices sliceRange;simp only[show(1:Int) > 0 by decide,if_true,show ¬((j:Int)<0) by omega,if_false];have e:(if max 0 (min (j:Int) (n:Int))<(n:Int)then((n:Int)-max 0 (min (j:Int) (n:Int))+1-1) / 1 else 0).toNat=n-j:=by split <;> omega
 rw[e];refine vX λk _=>by omega
theorem NT{Z:List Nat}{j:Nat}(h:j<=Z.length):Txt.slice (txt Z) none (some (j:Int))=txt (Z.take j):=by
 unfold Txt.slice;rw[Xh,Qr h,RE Z 0 j (by omega)]
 split
 .rename_i e
  have:j=Z.length:=by simpa using e
  rw[this,zS]
 .rfl
theorem BY{Z:List Nat}{j:Nat}(h:j<=Z.length):Txt.slice (txt Z) (some (j:Int)) none=txt (Z.drop j):=by
 unfold Txt.slice;rw[Xh,Ig h,RE Z j _ (by omega)]
 split
 .rename_i e
  have:j=0:=by
   have J:Z.length-j=Z.length:=by simpa using e
   omega
  rw[this,vQ]
 .rw [Ze (by rw[zp];omega)];rfl
def atW(way r:Nat):Nat:=if way=0 then 0 else if way=1 then r else r / 2
theorem Dt(Z r:Nat):atW Z r<=r:=by unfold atW;split <;> (try split) <;> omega
def wd7(o:Nat)(cs:List Nat)(way t k r:Nat):List Nat:=(cs.take r).take (atW way r)++[o+(t+7*k) % 26]++ (cs.take r).drop (atW way r)
theorem ME(h:cs.length=7)(Z:r<=7):(wd7 o cs way t k r).length=r+1:=by
 have:=Dt way r;unfold wd7;rw[ZJ,ZJ,ZL,zp,ZL,h,zg];omega
theorem AS(Z:k<l)(h:l<26):(i+7*k) % 26≠(i+7*l) % 26:=λe=>by
 have q:=Nat.sub_mod_eq_zero_of_mod_eq e.symm;have f:∀d:Fin 26,d.val≠0->7*d.val % 26≠0:=by decide
 refine f ⟨l-k,by omega⟩ (by show l-k≠0;omega) ?_;show 7*(l-k) % 26=0;rw[Nat.mul_sub,<-Nat.add_sub_add_left i (7*l) (7*k)];exact q
theorem Qh(h:cs.length=7)(L:r<=7)(Z:r'<=7)(J:k<l)(M:l<26):wd7 o cs way t k r≠wd7 o cs way t l r':=λe=>by
 have q:=congrArg List.length e;rw[ME h L,ME h Z]at q;have N:r=r':=by omega
 subst N
 have G:((cs.take r).take (atW way r)).length=atW way r:=by
  have:=Dt way r;rw[ZL,ZL,h];omega
 have g:∀x:Nat,((cs.take r).take (atW way r)++[x]++ (cs.take r).drop (atW way r))[atW way r]?=some x:=λx=>by
  rw[yw,zt (yq G),G];simp
 have z:=congrArg (λx:List Nat=>x[atW way r]?) e;exact AS (i:=t) J M (Nat.add_left_cancel (ZP ((g _).symm.trans (z.trans (g _)))))
theorem Qi(Z:∀c∈cs,o<=c/\c<o+26):∀c∈wd7 o cs way t k r,o<=c/\c<o+26:=by
 intro c h;unfold wd7 at h;simp only[ZV,ZO]at h;rcases h with(h|h)|h
 .exact Z c (Zi (Zi h))
 .rw [h];omega
 .exact Z c (Zi (yi h))
def NF(o:Nat)(cs:List Nat)(way t:Nat)(rs:List Nat):kq:=(List.range rs.length).map λk=>txt (wd7 o cs way t k (rs.getD k 0))
theorem E5(o:Nat)(G:List Nat)(Z t:Nat)(J:List Nat)(r:Nat):NF o G Z t (J++[r])=NF o G Z t J++[txt (wd7 o G Z t J.length r)]:=by
 unfold NF;rw[ZJ,zg,List.range_succ,ZI]
 congr 1
 .refine vX λk L=>?_
  have:=List.mem_range.mp L;rw[zj,zj,zn this]
 .simp
theorem OG(h:cs.length=7)(M:∀r∈rs,r<=7)(T:rs.length<=26)(N:∀c∈cs,o<=c/\c<o+26):Wds o (NF o cs way t rs):=by
 have Z:∀k,rs.getD k 0<=7:=λk=>by
  rw[zj]
  cases e:rs[k]? with
  |none=>exact Za _
  |some r=>exact M r (ZH e)
 refine⟨?_,λy J=>?_,λy J c G=>?_⟩
 .show List.Pairwise _ _
  unfold NF;rw[yz];refine List.Pairwise.imp_of_mem ?_ (List.pairwise_lt_range (n:=rs.length));intro a b R O L e;exact Qh h (Z a) (Z b) L (by have:=List.mem_range.mp O;omega) (OH e)
 .obtain ⟨k,_,rfl⟩:=ZU.mp J
  have:=Z k;rw[Xh,ME h this];omega
 .obtain ⟨k,_,rfl⟩:=ZU.mp J
  exact Qi N c (by simpa[txt]using G)
theorem QF{Z:List Nat}(h:Z.length=7):∃a b c d e f g,Z=[a,b,c,d,e,f,g]:=by
 match Z,h with
 |[a,b,c,d,e,f,g],_=>exact⟨a,b,c,d,e,f,g,rfl⟩
theorem CC(h:cs.length=7):Txt.join (Str.ofString "") (cs.map one)=txt cs:=by
 obtain⟨a,b,c,d,e,f,g,rfl⟩:=QF h
 rfl
end L2
namespace L2
open PySem
theorem Rl(o:Nat){r:Nat}(h:r<26):atI (alpha o).cps.toList ((r:Nat):Int)=some (o+r):=by
 have:=L7 o (r:Int) (by omega) (by omega)
 rwa [yN]at this
theorem AF{Z r:Nat}(h:Z<3):atI [V.int 0,.int (r:Nat),.int ((r / 2:Nat):Int)] ((Z:Nat):Int)=some (.int (atW Z r:Nat)):=by
 match Z,h with
 |0,_|1,_|2,_=>rfl
end L2
namespace K4
open PySem L2
section
theorem WL:Yo ["_law_pen","_law_many","_law_letters","_law_k","_law_base","_law_turn","_law_way","_law_found","_law_part","_law_at","_law_sign"] ["_law_pen","_law_many","_law_letters"] (Yc DX):=Y3
theorem Sb:List.Nodup [("_law_k":Str),"_law_letters","_law_pen"]:=by decide +kernel
def WQ(K:W.Frag)(sa:Addr)(o:Nat)(p:Addr)(many:Nat)(H:Hp)(Q:VK):Prop:=∀(r:Addr)(J:kq)(Z:Hp),SameB p H Z->Pen K sa Z p->H r=none->Z r=some (.lst (J.map V.str))->J.length=many->Wds o J->Q (.ref r) Z
inductive P4(K:W.Frag)(H:Hp)(Q:VK):List V->Prop
 |mk (p sa:Addr) (many o:Nat) (pn:Pen K sa H p) (m26:many<=26) (q:WQ K sa o p many H Q):P4 K H Q [.ref p,.int (many:Nat),.str (alpha o)]
def NS(K:W.Frag):Sp:=λZ H Q _=>P4 K H Q Z
theorem SS(B:Blt mg)(F:Fun K "_law_spelt" "_law_spelt" DX f fd)(DN:Df P w K mg base n "_law_next" pnm (JY K)):Yk P w K mg base CX0 (n+1) f fd ["_law_pen","_law_many","_law_letters"] (NS K):=by
 refine F.oi WL λJ2 A Z9 s H T Q E hr h=>?_;obtain⟨p,j,many,o,pn,J1,q⟩:=h;refine⟨_,YW (Ym 4 WL.nd (Jk PySem.F.plainAttrs_str PySem.F.slot_str_join PySem.F.type_str_join PY Y7 (pa1 (Vh ["_law_k"] [2,0] (Uo rfl B.range (pa1 YX)) (VR (i:=0) (by decide))
   (λcl C fp s H=>YZ 0 Sb rfl (Or.inl rfl) (Or.inr rfl)) (λcl C fp s H=>Yi (r:=AX) LT (pv 1) (Yw DN hr (pa2 (pv 2) YX)) (λ_ _=>rfl))))))
  (YW (Ym 5 WL.nd (Yw DN hr (pa2 (pv 0) YX)))
  (YW (Ym 6 WL.nd (Yw DN hr (pa2 (pv 0) YX)))
  (YW (Ym 7 WL.nd (Vs Vi))
  (YW (Vo Zt rfl (Uo rfl B.range (pa1 (pv 1))) (YZ 3 WL.nd)
   (YW (Ym 8 WL.nd (VM BZ (pv 4) Vb (Va (Yw DN hr (pa2 (pv 0) YX)))))
   (YW (Ym 9 WL.nd (Yi Y4 (Vs (pa3 YX (Yr XH rfl B.len Zs (pa1 (pv 8))) (Y1 G0 (Yr XH rfl B.len Zs (pa1 (pv 8))) YX))) (pv 6) (λ_ _=>rfl)))
   (YW (Ym 10 WL.nd (Yi LT (pv 2) (Y1 XZ (Y1 Vf (pv 5) (Y1 Jb YX (pv 3))) YX) (λ_ _=>rfl)))
   (YY (VO (Jk Zx Zy Zz Vj (pv 7) (pa1 (Y1 Tu (Y1 Tu (VM BZ (pv 8) Vb (Va (pv 9))) (pv 10)) (VM BZ (pv 8) (Va (pv 9)) Vb))))))))))
  (YY (Yt (pv 7))))))),?_⟩
 dsimp only[Vl,Cx.nox,Cx.wish];show let T0:=_;let T1:=_;let T2:=Yh _ T1;let T3:=Yh _ T2;let T4:=Yh _ T3;let T5:=Yh (Jx _ _ T4) T0;let T6:=Yh _ T5;let T7:=Yh _ T6;let T8:=Yh _ T7;Yh _ T8 _ _ _
 intros
 show let a:=_;let b:=_;let c:=Yh _ b;let d:=Yh _ c;let e:=Yh _ d;let f:=Yh (Jx _ _ e) a;let g:=Yh _ f;let h:=Yh _ g;let i:=Yh _ h;Yh _ i _ _ _
 intros
 have em:((many:Nat):Int).toNat=many:=yN _;refine⟨rfl,7,rfl,by decide,by decide,?_⟩;refine JG 7 (Yp (by decide)) (λi T G=>SameB p H G/\Pen K j G p/\∃Z:List Nat,T=Z.map (λc=>V.str (one c))/\Z.length=i/\∀c∈Z,o<=c/\c<o+26) ⟨SameB.refl _ _,pn,[],rfl,rfl,λc h=>nomatch h⟩
  (λi T G z=>by obtain⟨_,_,Z,e,l,_⟩:=z;rw[e,ZA,l]) (λi T G hi z=>hi) (λT G z=>ZF _) ?_ ?_
 .intro i T G x H'' R hi z yl hR
  obtain⟨rfl,rfl⟩:=yl;obtain⟨O,N,Z,rfl,zl,zc⟩:=z;refine⟨p,j,26,N,by decide,by decide,λr H3 r1 b s3=>?_⟩;refine⟨alpha o,(r:Nat),o+r,rfl,rfl,by rw[GE];decide,Rl o r1,hR _ _ ⟨O.trans b.sb,s3,Z++[o+r],by rw[ZI];rfl,by rw[ZJ,zl];rfl,λc hc=>?_⟩⟩;rcases ZV.mp hc with h|h
  .exact zc c h
  .rw [ZO.mp h];omega
 intro T H1 pl z v;obtain⟨O,N,Z,rfl,k,zc⟩:=z;have e1:Z.map (λc=>V.str (one c))=(Z.map one).map V.str:=by rw[za];rfl
 refine⟨_,pl,Z.map one,rfl,rfl,Z1 (by rw[Ya,e1]),?_,?_⟩
 .obtain ⟨a,b,c,d,e,f,g,rfl⟩:=QF k
  show(7:Nat)+7*0<=16777216
  decide
 rw[CC k];have s1:=N.same (Yg v (.lst (Z.map λc=>V.str (one c))));have b1:SameB p H (upd H1 pl (.lst (Z.map λc=>V.str (one c)))):=O.trans (Yg v _).sb;generalize upd H1 pl (.lst (Z.map λc=>V.str (one c)))=H2 at s1 b1;refine⟨p,j,26,s1,by decide,by decide,λL H3 t1 b3 s3=>?_⟩;refine⟨p,j,3,s3,by decide,by decide,λJ H4 w1 b4 s4=>?_⟩;refine⟨sl 0,λX M=>?_⟩;have b5:SameB p H H4:=(b1.trans b3.sb).trans b4.sb;have D:X≠p:=s4.ne M;have S:H X=none:=b5.free D M;refine⟨many,rfl,by omega,by omega,?_⟩
 let I:kH:=λi U G=>SameB p H G/\Pen K j G p/\∃(y:List Nat)(O N z3 z4:kJ),G X=some (.lst ((NF o Z J L y).map V.str))/\y.length=i/\(∀r∈y,r<=7)/\
  U=[some (.ref p),some (.int (many:Nat)),some (.str (alpha o)),O,some (.str (txt Z)),some (.int (L:Nat)),some (.int (J:Nat)),some (.ref X),N,z3,z4]
 refine RG (n:=((many:Nat):Int).toNat) I ⟨b5.trans (Yg M _).sb,s4.same (Yg M _),[],_,_,_,_,Ya,rfl,(λr h=>nomatch h),rfl⟩ ?_ ?_
 .rintro BB RR i U G hi ⟨y1,y2,y,O,N,z3,z4,y3,lr,r7,rfl⟩
  rw[em]at hi;have tl:(txt Z).length<=sizeLine:=by rw[Xh,k];decide
  have e0:((L:Int)+7*(0+(i:Int))) % 26=(((L+7*i) % 26:Nat):Int):=by rw[show(L:Int)+7*(0+(i:Int))=((L+7*i:Nat):Int) by omega];rfl
  refine⟨p,j,8,y2,by decide,by decide,λr H5 r8 b6 s6=>⟨_,rfl,txt Z,rfl,tl,?_⟩⟩;rw[NT (by omega)];have lt:(txt (Z.take r)).length=r:=by rw[Xh,ZL,k];omega
  have ll:(Z.take r).length=r:=by rw[<-Xh];exact lt
  have tr:(txt (Z.take r)).length<=sizeLine:=by rw[lt];exact Zf (Yp (by omega))
  refine⟨txt (Z.take r),rfl,tr,txt (Z.take r),rfl,tr,⟨by decide,by decide⟩,sl 3,λt ht=>?_⟩;refine up_in ht _ λH6 s7 g7=>?_;refine⟨_,.int (atW J r:Nat),Z1 g7,(by rw[lt];exact AF w1),?_⟩;refine⟨.inl ⟨by decide,by decide⟩,(by show(0:Int)<_;decide),alpha o,_,_,rfl,rfl,by rw[GE];decide,(by rw[e0];exact Rl o (Nat.mod_lt _ (by decide))),?_⟩;have sg:(⟨#[o+(L+7*i) % 26]⟩:Str)=txt [o+(L+7*i) % 26]:=rfl;rw[sg];have aw:=Dt J r;have u:=s7 _ _ (b6.sb _ _ D y3);have small:∀m:Nat,m<=100->m<=sizeLine:=λm h=>Zf (Yp (by omega));have x1:(txt [o+(L+7*i) % 26]).length=1:=rfl;refine⟨.inl ⟨rfl,_,Z1 u⟩,_,rfl,txt (Z.take r),rfl,tr,_,_,rfl,rfl,small _ (by have:=Txt.slice_le (txt (Z.take r)) none (some (atW J r:Int));omega),_,rfl,txt (Z.take r),rfl,tr,_,_,rfl,rfl,small _ (by have:=Txt.slice_le (txt (Z.take r)) none (some (atW J r:Int));have:=Txt.slice_le (txt (Z.take r)) (some (atW J r:Int)) none;rw[NR];omega),X,_,_,rfl,rfl,u,?_,?_⟩
  .rw [ZA];unfold NF;rw[ZA,vq];exact Yp (by omega)
  rw[NT (by omega),BY (by omega),D1,D1];have Z8:=s6.same s7;refine⟨λb o' n e=>?_,?_,y++[r],_,_,_,_,?_,by rw[ZJ,lr];rfl,λx hx=>?_,rfl⟩
  .rw [Yd (Yf e S)];exact s7 _ _ (b6.sb b o' n (y1 b o' n e))
  .exact pn.put ((y1.trans b6.sb).trans s7.sb) Z8 S D
  .rw [Ya,E5,ZI,lr];rfl
  .rcases ZV.mp hx with h|h
   .exact r7 x h
   .rw [ZO.mp h];omega
 .rintro U G ⟨y1,y2,y,O,N,z3,z4,y3,lr,r7,rfl⟩
  rw[em]at lr;refine q X _ G y1 y2 S y3 (by unfold NF;simp[lr]) (OG k r7 (by omega) zc)
end
end K4
namespace L2
open PySem
theorem Wi(h:n<=10000):n<sizeLine:=v7 h (by decide)
structure Itx(J:It)(H:Hp)(xs:List V):Prop where
 go:∀i,i<xs.length->J.go i H
 stop:J.stop xs.length H
 yld:∀i x H',J.yld i H x H'->H'=H/\xs[i]?=some x
theorem itl(h:SqL K H a Z):Itx (Itl K a) H Z:=⟨λi J=>⟨Z,Z[i],h,ZC J⟩,⟨Z,h,ZF _⟩,λi x G y=>⟨y.1,y.2 Z h⟩⟩
theorem itt(h:SqT K H a Z):Itx (Itt K a) H Z:=⟨λi J=>⟨Z,Z[i],h,ZC J⟩,⟨Z,h,ZF _⟩,λi x G y=>⟨y.1,y.2 Z h⟩⟩
theorem getD{α:Type}{J:List α}{D:α->Dat}{H:Hp}{Z:kF}{i:Nat}{x:V}(h:HasL H Z (J.map D))(e:Z[i]?=some x):∃u,J[i]?=some u/\Has H x (D u):=by
 obtain⟨d,G,M⟩:=h.get e;rw[ZG]at G;obtain⟨u,L,rfl⟩:=Zh.mp G;exact⟨u,L,M⟩
theorem Ub{α:Type}{t:α->Bool}{Z:List α}{i:Nat}{u:α}(h:Z[i]?=some u):(Z.take (i+1)).filter t=(Z.take i).filter t++ if t u=true then[u]else[]:=by
 rw[take_snoc h,List.filter_append]
 congr 1
 cases e:t u <;> simp[e]
theorem Ju{α:Type}{us:List α}{D E:α->Dat}(t:α->Bool)(N:Itx J H O)(F:HasL H O (us.map D))(P:us.length<=10000)(U:∀u x (R:Bool->V->Hp->Prop),u∈us->Has H x (D u)->(∀v,t u=true->Has H v (E u)->R true v H)->(t u=false->R false .non H)->g x s0 H λT X=>tc T X λb A=>if b=true then te T A (R true)else R false .non A)(C:∀Z p G,H p=none->Same H G->G p=some (.lst Z)->HasL G Z ((us.filter t).map E)->Q (.ref p) G):RS J g tc te s0 Q H:=by
 have B:=F.length;rw[ZA]at B;refine RP O.length (Wi (by omega)) (λi Z G=>G=H/\Z.length<=i/\HasL H Z (((us.take i).filter t).map E)) ⟨rfl,ZF _,Z4⟩ (λi Z G z=>z.2.1) ?_ ?_ ?_ ?_
 .rintro i Z G hi ⟨rfl,_⟩
  exact N.go i hi
 .rintro Z G ⟨rfl,_⟩
  exact N.stop
 .rintro i Z G x H'' R hi ⟨rfl,z2,z3⟩ yl rT rF
  obtain⟨rfl,y⟩:=N.yld i x H'' yl;obtain⟨u,M,S⟩:=getD F y;refine U u x R (ZH M) S (λv L I=>rT _ _ ⟨rfl,by rw[ZJ];exact jo z2,?_⟩) λL=>rF _ ⟨rfl,jd z2,?_⟩
  .rw [Ub M,Zn L,ZI]
   exact Z5 z3 (Z3 I)
  .rw [Ub M,Zo (by rw[L];exact Zg),zV]
   exact z3
 .rintro Z G p ⟨rfl,z2,z3⟩ hp
  rw[Ze (yq B.symm)]at z3;exact C Z p _ hp (Yg hp _) Ya (z3.mono (Yg hp _))
theorem US{α:Type}{us:List α}{D E:α->Dat}(L:Itx J H M)(O:HasL H M (us.map D))(C:us.length<=10000)(I:∀u x (R:V->Hp->Prop),u∈us->Has H x (D u)->(∀v,Has H v (E u)->R v H)->g x s0 H λB U=>te B U R)(S:∀Z p G,H p=none->Same H G->G p=some (.lst Z)->HasL G Z (us.map E)->Q (.ref p) G):MA J g te s0 Q H:=by
 have N:=O.length;rw[ZA]at N;refine JG M.length (Wi (by omega)) (λi Z G=>G=H/\Z.length=i/\HasL H Z ((us.take i).map E)) ⟨rfl,rfl,Z4⟩ (λi Z G z=>z.2.1) ?_ ?_ ?_ ?_
 .rintro i Z G hi ⟨rfl,_⟩
  exact L.go i hi
 .rintro Z G ⟨rfl,_⟩
  exact L.stop
 .rintro i Z G x H'' R hi ⟨rfl,z2,z3⟩ yl rT
  obtain⟨rfl,y⟩:=L.yld i x H'' yl;obtain⟨u,T,A⟩:=getD O y;refine I u x R (ZH T) A λv F=>rT _ _ ⟨rfl,by rw[ZJ,z2];rfl,?_⟩;rw[take_snoc T,ZI];exact Z5 z3 (Z3 F)
 .rintro Z G p ⟨rfl,z2,z3⟩ hp
  rw[Ze (yq N.symm)]at z3;exact S Z p _ hp (Yg hp _) Ya (z3.mono (Yg hp _))
def Each{α β:Type}(E:α->β->Prop)(us:List α)(bs:List β):Prop:=bs.length=us.length/\∀(i:Nat) u b,us[i]?=some u->bs[i]?=some b->E u b
theorem Each.nil{α β:Type}{E:α->β->Prop}:Each E [] []:=⟨rfl,λi u b h=>by simp at h⟩
theorem Each.snoc{α β:Type}{E:α->β->Prop}{G:List α}{L:List β}{i:Nat}{u:α}{b:β}(h:Each E (G.take i) L)(N:G[i]?=some u)(e:E u b):Each E (G.take (i+1)) (L++[b]):=by
 have R:=(ZE.mp N).1;have M:(G.take i).length=i:=by rw[ZL];exact zQ (Zf R)
 have O:L.length=i:=h.1.trans M;rw[take_snoc N];refine⟨by rw[ZJ,ZJ,h.1];rfl,λj v c J Z=>?_⟩
 by_cases hj:j<i
 .rw [zn (by omega)]at J Z
  exact h.2 j v c J Z
 .have:j=i:=by
   have:=(ZE.mp Z).1;rw[ZJ,zg]at this;omega
  subst this;rw[zt (by omega)]at J Z;rw[M,jg]at J;rw[O,jg]at Z;cases J;cases Z;exact e
theorem Each.mem{α β:Type}{E:α->β->Prop}{Z:List α}{L:List β}{b:β}(h:Each E Z L)(M:b∈L):∃u∈Z,E u b:=by
 obtain⟨i,G⟩:=zh.mp M;have J:i<Z.length:=by rw[<-h.1];exact(ZE.mp G).1
 exact⟨Z[i],yV J,h.2 i _ b (ZC J) G⟩
structure Itp(J:It)(p:Addr)(H:Hp)(xs:List V):Prop where
 at_:∀H',SameB p H H'->Itx J H' xs
theorem Cy{H:Hp}(h:H a=some (.lst Z))(n:a≠p):Itp (Itl K a) p H Z:=⟨λJ s=>itl (Z1 (s _ _ n h))⟩
theorem Pb{H:Hp}(h:H a=some (.tup Z))(J:Pen K' sa H p):Itp (Itt K a) p H Z:=⟨λG s=>itt (Z0 (s _ _ (J.tup h) h))⟩
theorem Uv{α β:Type}{us:List α}{D:α->Dat}{F:β->Dat}(E:α->β->Prop)(T:Itp J p H B)(I:Pen K sa H p)(U:HasL H B (us.map D))(j:∀u,(D u).ni=true)(X:∀b,(F b).st=true)(w:us.length<=10000)(m:∀u x O (R:V->Hp->Prop),u∈us->SameB p H O->Pen K sa O p->Has O x (D u)->(∀v b N,SameB p O N->Pen K sa N p->Has N v (F b)->E u b->R v N)->g x s0 O λM f=>te M f R)(k:∀L G q Z,H q=none->SameB p H Z->Pen K sa Z p->Z q=some (.lst L)->HasL Z L (G.map F)->Each E us G->Q (.ref q) Z):MA J g te s0 Q H:=by
 have S:=U.length;rw[ZA]at S
 have d:∀G:List β,Dat.sts (G.map F)=true:=λG=>by
  induction G with
  |nil=>unfold List.map Dat.sts;rfl
  |cons b G ih=>rw[ZT];unfold Dat.sts;rw[X b,ih];rfl
 refine JG B.length (Wi (by omega)) (λi L Z=>SameB p H Z/\Pen K sa Z p/\L.length=i/\∃G,HasL Z L (G.map F)/\Each E (us.take i) G) ⟨SameB.refl _ _,I,rfl,[],Z4,Each.nil⟩ (λi L Z z=>z.2.2.1) ?_ ?_ ?_ ?_
 .rintro i L Z hi ⟨s,_⟩
  exact(T.at_ Z s).go i hi
 .rintro L Z ⟨s,_⟩
  exact(T.at_ Z s).stop
 .rintro i L Z x H'' R hi ⟨s,pn',z2,G,z3,z4⟩ yl rT
  obtain⟨rfl,y⟩:=(T.at_ Z s).yld i x H'' yl;obtain⟨u,C,t⟩:=getD U y;refine m u x _ R (ZH C) s pn' (VC s I _ (j u) t) λv b N A P c e=>rT _ _ ⟨s.trans A,P,by rw[ZJ,z2];rfl,G++[b],?_,z4.snoc C e⟩;rw[ZI];exact Z5 (VS (pn'.tk A) _ (d G) z3) (Z3 c)
 .rintro L Z q ⟨s,pn',z2,G,z3,z4⟩ hq
  rw[Ze (yq S.symm)]at z4;have M:=Yg hq (.lst L);exact k L G q _ (s.free (pn'.ne hq) hq) (s.trans M.sb) (pn'.same M) Ya (z3.mono M) z4
def Su:Str×Shp->Bool
 |(_,.tags _)=>true
 |(_,.pair _ _)=>false
def flat(ks:kL):kL:=ks.filter Su
def shW:Shp->Str
 |.tags _=>"tags"
 |.pair _ _=>"pair"
theorem Ip{s:Shp}(h:Has H v s.dat):∃a Z,v=.ref a/\H a=some (.tup (.str (shW s)::Z)):=by
 cases s <;> (unfold Shp.dat at h;obtain⟨t,Z,rfl,G,L⟩:=Yz h;obtain⟨N,J,rfl,M,_⟩:=Yb L;obtain rfl:=has_str M;exact⟨t,J,rfl,G⟩)
theorem FM:¬decide (V.str (shW (.pair a b))=V.str "tags")=true:=by show ¬decide (V.str "pair"=V.str "tags")=true;decide +kernel
theorem Vc(k:Str×Shp):(Vq k).st=true:=by
 have e:=Shp.st k.2;simp[Vq,Dat.st,Dat.sts,e]
end L2
namespace K4
open PySem L2
section
theorem Iw:Yo pnm pnm (Yc My):=Y3
inductive Eu(K:W.Frag)(H:Hp)(Q:VK):List V->Prop
 |mk (p sa:Addr) (many:Nat) (pn:Pen K sa H p) (m26:many<=26) (q:WQ K sa 97 p many H Q):Eu K H Q [.ref p,.int (many:Nat)]
def XS(K:W.Frag):Sp:=λZ H Q _=>Eu K H Q Z
theorem FP(F:Fun K "_law_small_words" "_law_small_words" My f O)(T:Df P w K M base n "_law_spelt" ["_law_pen","_law_many","_law_letters"] (NS K)):Yk P w K M base CX0 (n+1) f O pnm (XS K):=by
 refine F.oi Iw λR A Z s H B Q E N h=>?_;obtain⟨p,G,many,L,J,q⟩:=h;refine⟨_,YY (Yt (Yw T N (pa3 (pv 0) (pv 1) Y7))),?_⟩;have z:=P4.mk (K:=K) (H:=H) p G many 97 L J q;rw[<-Wh]at z;exact z
theorem Q8:Yo ["_law_kinds_here"] ["_law_kinds_here"] (Yc LO):=Y3
theorem A5:List.Nodup [("_law_kind":Str)]:=by decide +kernel
inductive Qb(H:Hp)(Q:VK):List V->Prop
 |mk (v:V) (ks:List (Str×Shp)) (hv:Has H v (.lst (ks.map Vq))) (hn:ks.length<=900) (q:∀l ys H',H l=none->Same H H'->H' l=some (.lst ys)->HasL H' ys ((flat ks).map Vq)->Q (.ref l) H'):Qb H Q [v]
def Xy:Sp:=λZ H Q _=>Qb H Q Z
theorem PJ(F:Fun K "_law_flat_kinds" "_law_flat_kinds" LO f d):Yk P w K mg base CX0 (n+1) f d ["_law_kinds_here"] Xy:=by
 refine F.oi Q8 λl A Z s H J Q E hr h=>?_;obtain⟨v,ks,I,z,q⟩:=h;refine⟨_,YY (Yt (Xl ["_law_kind"] [] (VF (pv 0)) (VR (i:=0) (by decide)) (λN C M s H=>YZ 0 A5 rfl (Or.inl rfl) (Or.inr rfl))
  (λN C M s H=>Ys V9 (Yi (r:=J9 K) Yl (Yi (r:=J9 K) Yl (pv 0) YX) YX) Y7 (Yy _)) (λN C M s H=>pv 0))),?_⟩
 obtain⟨a,xs,rfl,L,D⟩:=V2 I;refine⟨⟨_,Z1 L⟩,?_⟩;refine Ju (E:=Vq) Su (itl (Z1 L)) D (ZZ z (by decide)) (λu x R hm G T B=>?_) λJ p o X s m k=>q p J o X s m k;obtain⟨y,O⟩:=u;obtain⟨t,v,rfl,S,U⟩:=Jt G;obtain⟨b,zs,rfl,c⟩:=Ip U;refine⟨_,_,Z0 S,rfl,_,_,Z0 c,Yq (j:=0) rfl,rfl,_,rfl,?_⟩
 cases O with
 |tags ts=>exact V1 rfl (T _ rfl G)
 |pair e g=>exact Y9 FM (B rfl)
theorem Iu:Yo ["_law_kinds_here","_law_kind"] ["_law_kinds_here","_law_kind"] (Yc Mx):=Y3
theorem LC:List.Nodup [("_law_name":Str),"_law_shape","_law_kind"]:=by decide +kernel
inductive Et(H:Hp)(Q:VK):List V->Prop
 |mk (v:V) (y:Str) (ks:List (Str×Shp)) (ts:List Str) (hv:Has H v (.lst (ks.map Vq))) (hn:ks.length<=900) (hs:VG ks y=some (.tags ts)) (q:∀r H',Same H H'->Has H' r (.tup (ts.map Dat.str))->Q r H'):Et H Q [v,.str y]
def J7:Sp:=λZ H Q _=>Et H Q Z
def tgD(k:Str×Shp):Dat:=match k.2 with|.tags ts=>.tup (ts.map Dat.str)|.pair a _=>.str a
theorem Pe{s:Shp}(h:Has H v s.dat):∃a u J,v=.ref a/\H a=some (.tup (.str (shW s)::u::J))/\Has H u (tgD (y,s)):=by
 cases s <;> (unfold Shp.dat at h;obtain⟨t,J,rfl,M,O⟩:=Yz h;obtain⟨B,D,rfl,T,Z⟩:=Yb O;obtain⟨G,L,rfl,R,N⟩:=Yb Z;obtain rfl:=has_str T;exact⟨t,G,L,rfl,M,R⟩)
theorem Nz{α:Type}{t:α->Bool}{l:List α}{x:α}(h:l.find? t=some x):∃r,l.filter t=x::r:=by
 induction l with
 |nil=>cases h
 |cons a l ih=>
  rw[zK]at h;rw[List.filter_cons]
  cases e:t a with
  |true=>rw[e]at h;cases h;exact⟨_,by rw[Zn rfl]⟩
  |false=>rw[e]at h;rw[Zo Zg];exact ih h
theorem FO(F:Fun K "_law_tags_of" "_law_tags_of" Mx f fd):Yk P w K mg base CX0 (n+1) f fd ["_law_kinds_here","_law_kind"] J7:=by
 refine F.oi Iu λZ8 A Z s H B Q E hr h=>?_;obtain⟨v,y,ks,ts,X,d,L,q⟩:=h;refine⟨_,YY (Yt (Yi Y4 (Xl ["_law_name","_law_shape"] [1] (VF (pv 0)) J3 (λT C O s H=>VE (n:=2) rfl (Ye (YZ 0 LC rfl (Or.inl rfl) (Or.inr rfl)) (Ye (YZ 1 LC rfl (Or.inl rfl) (Or.inr rfl)) Y6)))
  (λT C O s H=>Ys V9 (pv 0) (pv 2) (Yy _)) (λT C O s H=>Yi (r:=J9 K) Yl (pv 1) YX)) YX)),?_⟩
 obtain⟨a,xs,rfl,N,S⟩:=V2 X;refine⟨⟨_,Z1 N⟩,?_⟩;refine Ju (E:=tgD) (λk=>decide (k.1=y)) (itl (Z1 N)) S (ZZ d (by decide)) (λu x R hm m D I=>?_) λB p H' hp s l M=>?_
 .obtain ⟨z,s'⟩:=u
  obtain⟨t,v,rfl,g,J⟩:=Jt m;obtain⟨b,w,zs,rfl,i,U⟩:=Pe (y:=z) J;refine⟨_,Z0 g,rfl,rfl,_,rfl,?_⟩;refine Jn (λc=>⟨_,_,Z0 i,Yq (j:=1) rfl,D _ (decide_eq_true (V.str.inj (Zr c))) U⟩) λc=>I (Zw λe=>c (decide_eq_true (congrArg V.str e)))
 .unfold VG at L
  obtain⟨k,o,e⟩:=Zh.mp L;obtain⟨r,er⟩:=Nz o;rw[er,ZT]at M;obtain⟨x1,r1,rfl,G,_⟩:=Yb M;refine⟨_,_,Z1 l,Yq (j:=0) rfl,q _ _ s ?_⟩;unfold tgD at G;rw[e]at G;exact G
end
end K4
namespace L2
open PySem
structure Lb(K:W.Frag)(sa:Addr)(H0:Hp)(p l:Addr)(ds:List Dat)(H:Hp):Prop where
 p0:Pen K sa H0 p
 fl:H0 l=none
 sb:SameB p H0 H
 pn:Pen K sa H p
 zs:∃zs,H l=some (.lst zs)/\HasL H zs ds/\Dat.sts ds=true
theorem Lb.np(b:Lb K sa H0 p l Z H):l≠p:=b.p0.ne b.fl
theorem Lb.new(J:Pen K sa H p)(Z:H l=none):Lb K sa H p l [] (upd H l (.lst [])):=⟨J,Z,(Yg Z _).sb,J.same (Yg Z _),[],Ya,Z4,by unfold Dat.sts;rfl⟩
theorem Lb.mv(b:Lb K sa H0 p l O H)(s:SameB p H J)(L:Pen K sa J p):Lb K sa H0 p l O J:=
 let⟨G,N,M,Z⟩:=b.zs;⟨b.p0,b.fl,b.sb.trans s,L,G,s _ _ b.np N,VS (b.pn.tk s) _ Z M,Z⟩
theorem Lb.sm(b:Lb K sa H0 p l Z H)(s:Same H J):Lb K sa H0 p l Z J:=b.mv s.sb (b.pn.same s)
theorem Id(h:Dat.sts Z=true)(e:d.st=true):Dat.sts (Z++[d])=true:=by
 induction Z with
 |nil=>rw[List.nil_append];unfold Dat.sts;rw[e];unfold Dat.sts;rfl
 |cons a Z ih=>
  unfold Dat.sts at h;have t:=yE.mp h;rw[yT];unfold Dat.sts;rw[t.1,ih t.2];rfl
theorem Lb.ap{Z:kF}(b:Lb K sa H0 p l R H)(h:H l=some (.lst Z))(N:Has H v d)(e:d.st=true):Lb K sa H0 p l (R++[d]) (upd H l (.lst (Z++[v]))):=by
 obtain⟨M,L,O,G⟩:=b.zs;rw[h]at L;cases L;have J:TK H (upd H l (.lst (Z++[v]))):=Ue h λT z=>nomatch z
 exact⟨b.p0,b.fl,b.sb.put b.fl,b.p0.put b.sb b.pn b.fl b.np,_,Ya,Z5 (VS J _ G O) (Z3 (Jd J _ e N)),Id G e⟩
theorem S6{K:PySem.W.Frag}{g:TG}{A:TS}{D:Ends}(n:Nat)(Z:kH)(u:Z 0 U H)(k:∀i U H,i<=n->Z i U H->Sq K t1 H a L/\Sq K t2 H b G)(w:n<=L.length)(v:n=G.length)(q:∀(B:kI)(R:VK) i x y U H r,i<n->L[i]?=some x->G[i]?=some y->Z i U H->H r=none->g (.ref r) U (upd H r (.tup [x,y])) fun σ2 F=>A {nx:=Z (i+1),rt:=R,bk:=B,ct:=Z (i+1)} σ2 F)(f:∀U H,Z n U H->D.nx U H):
  ∃W:Nat->Nat->St->Hp->Prop,(∃m,W 0 m U H)/\∀i m U H,W i m U H->
   ((Itz K t1 a t2 b).stop i H/\D.nx U H)\/((Itz K t1 a t2 b).go i H/\∃N:kI,(∀E J,N E J->∃I,I<m/\W (i+1) I E J)/\∀x J,(Itz K t1 a t2 b).yld i H x J->g x U J fun σ2 F=>A {D with nx:=N,ct:=N,bk:=D.nx} σ2 F):=by
 refine⟨λi m U H=>m=n-i/\i<=n/\Z i U H,⟨n,by simp,Za _,u⟩,λi m U H z=>?_⟩;obtain⟨rfl,c,p⟩:=z;obtain⟨T,O⟩:=k i U H c p;rcases je i n with M|d
 .refine .inr ⟨⟨L,G,L[i]'(by omega),G[i]'(by omega),T,O,ZC _,ZC _⟩,Z (i+1),λE J X=>⟨n-(i+1),by omega,rfl,M,X⟩,λx J y=>?_⟩
  obtain⟨r,C,S,rfl,t,rfl,j,Q⟩:=y;exact q _ _ i C S U H r M (j L T) (Q G O) p t
 .have e:i=n:=by omega
  exact .inl ⟨⟨L,G,T,O,.inr (by omega)⟩,by subst e;exact f U H p⟩
def off(ss:List Nat)(j:Nat):Nat:=(ss.take j).sum
theorem K8(h:ss[j]?=some s):off ss (j+1)=off ss j+s:=by
 unfold off;rw[take_snoc h,vM];simp
theorem DM(Z:List Nat){i j:Nat}(h:i<=j):off Z i<=off Z j:=by
 unfold off
 have e:Z.take j=Z.take i++ (Z.drop i).take (j-i):=by
  rw[<-zZ i (Z.take j),vR,zQ h,List.drop_take]
 rw[e,vM];omega
def RT(ss:List Nat)(tg:kq)(j:Nat):kq:=(tg.drop (off ss j)).take (ss.getD j 0)
def ks7(ys:kq)(ss:List Nat)(tg:kq)(n:Nat):kL:=(List.range n).map λj=>(ys.getD j "",.tags (RT ss tg j))
theorem LR(Z:kq)(G:List Nat)(J:kq)(n:Nat):ks7 Z G J (n+1)=ks7 Z G J n++[(Z.getD n "",.tags (RT G J n))]:=by
 unfold ks7;rw[List.range_succ,ZI];rfl
theorem Xc(h:(ks7 J ss tg n)[i]?=some (y,s)):i<n/\y=J.getD i "" /\s=.tags (RT ss tg i):=by
 unfold ks7 at h;rw[ZG]at h;obtain⟨j,Z,G⟩:=Zh.mp h;have:=(ZE.mp Z).1;rw[vq]at this;rw[vV this]at Z;cases Z;cases G;exact⟨this,rfl,rfl⟩
theorem Wy(h:n<=Z.length):(ks7 Z ss tg n).map (·.1)=Z.take n:=by
 unfold ks7;rw[za];refine yx λi=>?_;rw[ZG,yM]
 by_cases hi:i<n
 .rw [vV hi,Zn hi,ZC (show i<Z.length by omega)]
  show some (Z.getD i "")=_;rw[zj,ZC (show i<Z.length by omega)];rfl
 .rw [Zo hi,zo.mpr (by rw[vq];omega)];rfl
structure Szs(ss:List Nat)(tg:List Str):Prop where
 sz:∀s∈ss,1<=s/\s<=4
 lt:tg.length=ss.sum
 wd:Wds 65 tg
theorem Szs.at(z:Szs ss tg)(h:i<ss.length):(RT ss tg i).length=ss.getD i 0/\1<=ss.getD i 0/\ss.getD i 0<=4/\off ss i+ss.getD i 0=off ss (i+1)/\off ss (i+1)<=tg.length:=by
 have e:ss[i]?=some ss[i]:=ZC h;have g:ss.getD i 0=ss[i]:=by rw[zj,e];rfl
 have b:=z.sz _ (ZH e);have o:=K8 e
 have l:off ss (i+1)<=tg.length:=by
  have:=DM ss (show i+1<=ss.length by omega);rw[z.lt];have t:off ss ss.length=ss.sum:=by unfold off;rw[zS]
  omega
 rw[g];refine⟨?_,b.1,b.2,o.symm,l⟩;unfold RT;rw[g,ZL,zp];omega
theorem Szs.kg(z:Szs ss tg)(L:Wds 97 N)(h:n<=N.length)(v:n<=ss.length):KG (ks7 N ss tg n):=by
 have Z:∀i,(RT ss tg i).Sublist tg:=λi=>(zU _ _).trans (List.drop_sublist _ _);refine⟨?_,λy U m=>?_,λi j y p U f x M A X C=>?_,λE u d c a b M A=>?_⟩
 .rw [Wy h]
  exact⟨L.nd.sublist (zU _ _),λy m=>L.len y (Zi m),λy m=>L.abc y (Zi m)⟩
 .obtain ⟨i,F⟩:=zh.mp m
  obtain⟨_,_,e⟩:=Xc F;cases e;exact⟨z.wd.nd.sublist (Z i),λy m=>z.wd.len y ((Z i).subset m),λy m=>z.wd.abc y ((Z i).subset m)⟩
 .obtain ⟨E,_,e1⟩:=Xc M
  obtain⟨P,_,Q⟩:=Xc A;cases e1;cases Q
  have J:∀i,i<n->∀x∈RT ss tg i,∃k,off ss i<=k/\k<off ss (i+1)/\tg[k]?=some x:=λi F x m=>by
   obtain⟨a,G⟩:=zh.mp m;have o:=(ZE.mp G).1;have q:=z.at (show i<ss.length by omega);refine⟨off ss i+a,by omega,by omega,?_⟩;unfold RT at G;rw[yM,Zn (by omega),yL]at G;exact G
  obtain⟨D,a1,l,g⟩:=J i E x X;obtain⟨B,s,r,t⟩:=J j P x C;obtain⟨T,S⟩:=ZE.mp g;obtain⟨R,I⟩:=ZE.mp t;have O:=List.pairwise_iff_getElem.mp z.wd.nd
  have w:D=B:=by
   rcases jj D B with q|q|q
   .exact Zp (S.trans I.symm) (O _ _ T R q)
   .exact q
   .exact Zp (I.trans S.symm) (O _ _ R T q)
  rcases jj i j with q|q|q
  .have:=DM ss (show i+1<=j by omega);omega
  .exact q
  .have:=DM ss (show j+1<=i by omega);omega
 .obtain ⟨_,_,e⟩:=Xc M
  cases e
def cF(ks:kL)(z:Str):Nat:=match VG ks z with|some (.tags ts)=>1+ts.length|_=>0
structure Xv(ks:List (Str×Shp))(c d:Str->Nat):Prop where
 kk:KK 30 c d ks
 nd:(ks.map (·.1)).Nodup
 kg:KG ks
 k0:0<ks.length
 k6:ks.length<=6
 f0:0<(flat ks).length
 f3:(flat ks).length<=3
 h0:∃y ts,ks[0]?=some (y,.tags ts)
theorem Ll:flat (ks7 Z ss tg n)=ks7 Z ss tg n:=List.filter_eq_self.mpr λk m=>by
 obtain⟨i,J⟩:=zh.mp m;obtain⟨y,s⟩:=k;obtain⟨_,_,rfl⟩:=Xc J
 rfl
theorem XD:(ks7 Z ss tg n).length=n:=by unfold ks7;rw[ZA,vq]
theorem A9(z:Szs ss tg)(J:Wds 97 Z)(h:n<=Z.length)(L:n<=ss.length)(N:1<=n)(M:n<=3):Xv (ks7 Z ss tg n) (cF (ks7 Z ss tg n)) λ_=>0:=by
 have G:((ks7 Z ss tg n).map (·.1)).Nodup:=by rw[Wy h];exact J.nd.sublist (zU _ _)
 refine⟨λi y s e=>?_,G,z.kg J h L,by rw[XD];omega,by rw[XD];omega,by rw[Ll,XD];omega,by rw[Ll,XD];omega,?_⟩
 .have sh:=UH G (ZH e)
  obtain⟨O,rfl,rfl⟩:=Xc e;have q:=z.at (show i<ss.length by omega);exact⟨by omega,by omega,by unfold cF;rw[sh],rfl,((z.kg J h L).tw _ _ (ZH e)).nd⟩
 .cases e:(ks7 Z ss tg n)[0]? with
  |none=>have:=zo.mp e;rw[XD]at this;omega
  |some k=>
   obtain⟨y,s⟩:=k;obtain⟨_,rfl,rfl⟩:=Xc e;exact⟨_,_,rfl⟩
theorem Xv.pair(k:Xv Z c d)(T:flat Z=Z)(M:Wds 97 (Z.map (·.1)++[y]))(p:∀z,d z=0)(h:Z[0]?=some (a,.tags J)):∃v f,Xv (Z++[(y,.pair a a)]) v f:=by
 have B:a∈Z.map (·.1):=ZU.mpr ⟨_,ZH h,rfl⟩;have A:a≠y:=λe=>(yP.mp M.nd).2.2 a B y (by simp) e;have C:=k.kk 0 a _ h;obtain⟨o,l,u,da,w⟩:=C
 have D:∀(i:Nat)(x:Str)(s:Shp),Z[i]?=some (x,s)->∃J,s=Shp.tags J:=λi x s e=>by
  have m:=ZH e;rw[<-T]at m;have:=(ze.mp m).2
  cases s with
  |tags J=>exact⟨J,rfl⟩
  |pair _ _=>cases this
 have L:flat (Z++[(y,.pair a a)])=Z:=by
  have e:flat (Z++[(y,.pair a a)])=flat Z++ flat [(y,.pair a a)]:=List.filter_append _ _;rw[e,T];show Z++[]=Z;rw[zV]
 have G:∀i x s,(Z++[(y,Shp.pair a a)])[i]?=some (x,s)->Z[i]?=some (x,s)\/(i=Z.length/\x=y/\s=.pair a a):=λi x s e=>by
  by_cases hi:i<Z.length
  .rw [zn hi]at e;exact .inl e
  .rw [zt (by omega)]at e
   have Q:i-Z.length=0:=by
    have:=(ZE.mp e).1;rw[zg]at this;omega
   rw[Q]at e;cases e;exact .inr ⟨by omega,rfl,rfl⟩
 have F:=k.f0;have E:=k.f3;have g:=k.k0;rw[T]at F E;refine⟨_,_,k.kk.snoc (n:=1+c a*c a) (m:=1) M.nd ⟨B,B,?_,?_,?_,?_⟩,by rw[ZI];exact M.nd,⟨by rw[ZI];exact M,λx N m=>?_,λi j x z N I t R O U S=>?_,λP X x z b e R O=>?_⟩,by rw[ZJ];omega,by rw[ZJ,zg];omega,by rw[L];exact F,by rw[L];exact E,⟨a,J,by rw[zn g];exact h⟩⟩
 .dsimp only;rw[Zn rfl,Zo A]
 .dsimp only;rw[Zn rfl,u]
  have:=Nat.mul_le_mul (show 1+J.length<=5 by omega) (show 1+J.length<=5 by omega);omega
 .dsimp only;rw[Zn rfl,Zo A,p];rfl
 .dsimp only;rw[Zn rfl];decide
 .obtain ⟨i,hi⟩:=zh.mp m
  rcases G i x _ hi with q|⟨_,_,q⟩
  .exact k.kg.tw x N (ZH q)
  .cases q
 .rcases G i x _ R with q|⟨_,_,q⟩
  .rcases G j z _ O with r|⟨_,_,r⟩
   .exact k.kg.ap i j x z N I t q r U S
   .cases r
  .cases q
 .rcases G P x _ R with q|⟨q,_,_⟩
  .obtain ⟨_,q⟩:=D _ _ _ q;cases q
  .rcases G X z _ O with r|⟨r,_,_⟩
   .obtain ⟨_,r⟩:=D _ _ _ r;cases r
   .rw [q,r]
theorem Ce{r:Nat}(h:r<6):∃s:Nat,1<=s/\s<=4/\atI [V.int 2,.int 1,.int 3,.int 2,.int 4,.int 2] ((r:Nat):Int)=some (.int (s:Nat)):=by
 match r,h with
 |0,_=>exact⟨2,by decide,by decide,rfl⟩
 |1,_=>exact⟨1,by decide,by decide,rfl⟩
 |2,_=>exact⟨3,by decide,by decide,rfl⟩
 |3,_=>exact⟨2,by decide,by decide,rfl⟩
 |4,_=>exact⟨4,by decide,by decide,rfl⟩
 |5,_=>exact⟨2,by decide,by decide,rfl⟩
theorem MI:∀Z:List Nat,(Z.map λs=>((s:Nat):Int)).sum=((Z.sum:Nat):Int)
 |[]=>rfl
 |s::Z=>by rw[ZT,List.sum_cons,List.sum_cons,MI Z];omega
theorem BO:∀Z:List Nat,(∀s∈Z,s<=4)->Z.sum<=4*Z.length
 |[],_=>ZF _
 |s::Z,h=>by
  have:=BO Z λt m=>h t (ZK _ m);have:=h s ZY;rw[List.sum_cons,Zd];omega
theorem PX{Z:List Nat}(h:∀s∈Z,s<=4)(l:Z.length<=100):PyProof.Rows.SumFits (Z.map λs=>((s:Nat):Int)):=λj J=>by
 rw[ZA]at J;have L:(Z.map λs=>((s:Nat):Int)).getD j 0=((Z[j]:Nat):Int):=by rw[zj,ZG,ZC J];rfl
 have M:=h _ (yV J);have G:=BO (Z.take (j+1)) λs m=>h s (Zi m);rw[ZL]at G;rw[L,<-yj,MI];unfold InLong;omega
theorem Lw(Z:kF)(k:Nat)(h:k<=Z.length):XN Z (some (k:Int)) none=Z.drop k:=by
 unfold XN;rw[HT.sIx_none,HT.sIx_nat,zQ h,Ze (by rw[zp];omega)]
end L2
namespace K4
open PySem L2
section
theorem Jp:Yo ["_law_pen","_law_many","_law_names_here","_law_sizes","_law_tags","_law_found","_law_name","_law_size"] ["_law_pen"] (Yc DZ):=Y3
theorem A4:List.Nodup [("_law_k":Str),"_law_pen"]:=by decide +kernel
inductive E1(K:W.Frag)(H:Hp)(Q:VK):List V->Prop
 |mk (p sa:Addr) (pn:Pen K sa H p) (q:∀l xs ks c d H',SameB p H H'->Pen K sa H' p->H l=none->H' l=some (.lst xs)->HasL H' xs (ks.map Vq)->Xv ks c d->Q (.ref l) H'):E1 K H Q [.ref p]
def TR(K:W.Frag):Sp:=λZ H Q _=>E1 K H Q Z
theorem FV(B:Blt mg)(ms:mg "sum"=none)(F:Fun K "_law_kinds_drawn" "_law_kinds_drawn" DZ f fd)(DN:Df P w K mg base n "_law_next" pnm (JY K))(DW:Df P w K mg base n "_law_small_words" pnm (XS K))(DS:Df P w K mg base n "_law_spelt" ["_law_pen","_law_many","_law_letters"] (NS K)):Yk P w K mg base CX0 (n+1) f fd ["_law_pen"] (TR K):=by
 refine F.oi Jp λcdv A F7 s H vs Q E hr h=>?_;obtain⟨p,g,pn,q⟩:=h;refine⟨_,YW (Ym 1 Jp.nd (Y1 Vf YX (Yw DN hr (pa2 (pv 0) YX))))
  (YW (Ym 2 Jp.nd (Yw DW hr (pa2 (pv 0) (Y1 Vf (pv 1) YX))))
  (YW (Mp (i0:=3) ["_law_k"] [0] Jp.nd rfl (Or.inl rfl) (Uo rfl B.range (pa1 (pv 1))) (VR (i:=0) (by decide)) (λcl C fp s H=>YZ 0 A4 rfl (Or.inl rfl) (Or.inr rfl))
   (λcl C fp s H=>Yi (r:=Kf K) Y4 (Vs (pa6 YX YX YX YX YX YX)) (Yw DN hr (pa2 (pv 1) YX)) (λ_ _=>rfl)))
  (YW (Ym 4 Jp.nd (Yw DS hr (pa3 (pv 0) (Yr (Fv rfl) rfl ms Fz (pa1 (pv 3))) Y7)))
  (YW (Ym 5 Jp.nd (Vs Vi))
  (YW (Vo Zt rfl (SE rfl B.zip (pa2 (pv 2) (pv 3))) (VE (n:=2) rfl (Ye (YZ 6 Jp.nd) (Ye (YZ 7 Jp.nd) Y6)))
   (YW (VO (Jk Zx Zy Zz Vj (pv 5) (pa1 (Yx (pa2 (pv 6) (Yx (pa2 Y7 (VA VW rfl B.tuple Vm (pa1 (VM WJ (pv 4) Vb (Va (pv 7))))))))))))
   (YY (Ym 4 Jp.nd (VM WJ (pv 4) (Va (pv 7)) Vb)))))
  (YW (Y5 (Ys V9 (Yw DN hr (pa2 (pv 0) YX)) YX (Yy _))
   (YY (VO (Jk Zx Zy Zz Vj (pv 5) (pa1 (Yx (pa2 (Yi Y4 (pv 2) (EJ MG YX)) (Yx (pa3 Y7 (Yi Y4 (pv 2) YX) (Yi Y4 (pv 2) YX))))))))) Yv)
  (YY (Yt (pv 5))))))))),?_⟩
 dsimp only[Vl,Cx.nox,Cx.wish];show let T0:=_;let T1:=_;let T2:=Yh (VN _ T1 _) T0;let T3:=_;let T4:=Yh _ T3;let T5:=Yh (Jx _ _ T4) T2;let T6:=Yh _ T5;let T7:=Yh _ T6;let T8:=Yh _ T7;let T9:=Yh _ T8;Yh _ T9 _ _ _
 intros
 refine⟨p,g,3,pn,by decide,by decide,λG H1 r3 b1 s1=>?_⟩;refine⟨p,g,1+G+1,s1,by omega,λnm J H2 R3 s2 fnm I6 lys wn=>?_⟩;have v:nm≠p:=s1.ne fnm;refine⟨_,rfl,by omega,by omega,?_⟩;have em:(1+(G:Int)).toNat=1+G:=by omega
 refine JG (1+(G:Int)).toNat (Yp (by omega)) (λi vs M=>SameB p H2 M/\Pen K g M p/\∃Z:List Nat,vs=Z.map (λs=>V.int (s:Nat))/\Z.length=i/\∀s∈Z,1<=s/\s<=4) ⟨SameB.refl _ _,s2,[],rfl,rfl,λc h=>nomatch h⟩
  (λi vs M z=>by obtain⟨_,_,cs,e,l,_⟩:=z;rw[e,ZA,l]) (λi vs M hi z=>hi) (λvs M z=>ZF _) ?_ ?_
 .rintro i vs M x H'' R hi ⟨z1,z2,Z,rfl,zl,zc⟩ yl hR
  obtain⟨rfl,rfl⟩:=yl;refine⟨sl 6,λt ht=>?_⟩;refine up_in ht _ λH3 s3 g3=>?_;refine⟨p,g,6,z2.same s3,by decide,by decide,λr H4 r6 b4 s4=>?_⟩;obtain⟨k,k1,k4,ek⟩:=Ce r6;refine⟨_,_,Z1 (b4.sb _ _ (z2.ne ht) g3),ek,hR _ _ ⟨(z1.trans s3.sb).trans b4.sb,s4,Z++[k],by rw[ZI];rfl,by rw[ZJ,zl];rfl,λc hc=>?_⟩⟩;rcases ZV.mp hc with h|h
  .exact zc c h
  .rw [ZO.mp h];exact⟨k1,k4⟩
 rintro vs H3 sz ⟨Z8,s3,Z,rfl,R7,G2⟩ F1;refine up_in F1 _ λH4 s4 g4=>?_;rw[em]at R7;have R6:sz≠p:=s3.ne F1;have R5:=s3.same s4;have e1:(Z.map λs=>V.int (s:Nat))=(Z.map λs=>((s:Nat):Int)).map V.int:=by rw[za];rfl
 have sm:=BO Z λs m=>(G2 s m).2
 have z0:∀R:VK,WQ K g 65 p Z.sum H4 R->P4 K H4 R [.ref p,.int ((Z.map λs=>((s:Nat):Int)).sum),.str (Str.ofString "ABCDEFGHIJKLMNOPQRSTUVWXYZ")]:=λR w=>by
  rw[MI,W1];exact⟨p,g,Z.sum,65,R5,by omega,w⟩
 refine⟨sz,Z.map λs=>((s:Nat):Int),rfl,Z1 (by rw[<-e1];exact g4),PX (λs m=>(G2 s m).2) (by omega),z0 _ λT tg H5 R1 s5 C2 O F9 wt=>?_⟩;have Z9:T≠p:=R5.ne C2;have a:Szs Z tg:=⟨G2,F9,wt⟩;have D:=s4.sb.trans R1;have J2:=D _ _ v (Z8 _ _ v I6);have N2:=R1 _ _ R6 g4;refine⟨sl 0,λl hl=>?_⟩;have I1:=Lb.new s5 hl;refine⟨nm,sz,false,false,_,_,rfl,Z1 (Yg hl _ _ _ J2),Z1 (Yg hl _ _ _ N2),?_⟩
 let I:kH:=λi U Hi=>Lb K g H5 p l ((ks7 J Z tg i).map Vq) Hi/\∃(T:Addr)(z6 z7:kJ),T≠p/\T≠l/\Hi T=some (.lst ((tg.drop (off Z i)).map V.str))/\U=[some (.ref p),some (.int (1+(G:Int))),some (.ref nm),some (.ref sz),some (.ref T),some (.ref l),z6,z7]
 refine S6 (1+G) I ⟨I1,T,_,_,Z9,Yf O hl,Yg hl _ _ _ O,rfl⟩ (λi U Hi _ z=>⟨Z1 (z.1.sb _ _ v J2),Z1 (z.1.sb _ _ R6 N2)⟩) (by rw[ZA];omega) (by rw[ZA];exact R7.symm) ?_ ?_
 .rintro BB RR i x y U Hi r hi hx hy ⟨lb,T,z6,z7,Z9,ntl2,O,rfl⟩ hr'
  refine up_in hr' _ λH6 s6 g6=>?_;obtain⟨F8,F2,rfl⟩:=WE hx;rw[ZG]at hy;obtain⟨sn,I4,rfl⟩:=Zh.mp hy;have gd:Z.getD i 0=sn:=by rw[zj,I4];rfl
  have gn:J.getD i ""=F8:=by rw[zj,F2];rfl
  have q5:=a.at (show i<Z.length by omega);rw[gd]at q5;have ld:((tg.drop (off Z i)).map V.str).length=tg.length-off Z i:=by rw[ZA,zp]
  refine⟨_,Z0 g6,rfl,?_⟩;have F4:=s6 _ _ O;obtain⟨X,N,_⟩:=(lb.sm s6).zs;refine⟨.inl ⟨rfl,_,Z1 N⟩,_,rfl,T,_,rfl,Z1 F4,λq1 I5=>?_⟩;rw[RM _ _ (by omega),<-yj];refine up_in I5 _ λH7 s7 g7=>?_;refine⟨q1,_,rfl,.inl ⟨Z1 g7,λt1 G1=>?_⟩⟩;refine up_in G1 _ λH8 s8 g8=>?_;refine⟨sl 2,λt2 J5=>?_⟩;refine up_in J5 _ λH9 s9 g9=>?_;refine⟨sl 2,λt3 I3=>?_⟩;refine up_in I3 _ λL1 u S2=>?_;have sA:=(((s6.trans s7).trans s8).trans s9).trans u;have R8:=lb.sm sA;have J4:=((((s7.trans s8).trans s9).trans u) _ _ N);obtain⟨zs1,S,D3,_⟩:=R8.zs;rw[J4]at S;cases S;have ln:=D3.length;rw[ZA,XD]at ln;refine⟨l,_,_,rfl,rfl,J4,Yp (by omega),?_⟩
  have hk:Has L1 (.ref t3) (Vq (J.getD i "",.tags (RT Z tg i))):=by
   rw[gn];unfold RT;rw[gd];exact Yn S2 (Z2 Yu (Z3 (Yn (u _ _ g9) (Z2 Yu (Z3 (Yn (u _ _ (s9 _ _ g8)) (VZ _)))))))
  have L:=R8.ap J4 hk (Vc _);have M2:upd L1 l (.lst (X++[.ref t3])) T=some (.lst ((tg.drop (off Z i)).map V.str)):=by rw[Yd ntl2];exact sA _ _ O
  generalize upd L1 l (.lst (X++[.ref t3]))=H11 at L M2 |-;refine⟨_,rfl,T,_,rfl,Z1 M2,λq2 G3=>?_⟩;rw[Lw _ _ (by omega),<-List.map_drop,List.drop_drop,q5.2.2.2.1];refine up_in G3 _ λH12 F5 I9=>?_;obtain⟨zsB,I2,_⟩:=L.zs;refine⟨?_,q2,_,_,L.pn.ne G3,(Yf I2 G3).symm,I9,rfl⟩;rw[LR,ZI];exact L.sm F5
 .rintro U Hi ⟨lb,T,z6,z7,Z9,ntl2,O,rfl⟩
  have o:=A9 a wn (show 1+G<=J.length by omega) (by omega) (by omega) (by omega);have F3:∀M o c d,SameB p H5 M->Pen K g M p->(∃a,M l=some (.lst a)/\HasL M a (o.map Vq))->Xv o c d->Q (.ref l) M:=λM o c d s5 F6 ⟨a,h1,h2⟩ k=>q l a o c d M (((((b1.sb.trans R3).trans Z8).trans D).trans s5)) F6 ((((b1.sb.trans R3).trans Z8).trans D).free lb.np lb.fl) h1 h2 k;refine⟨p,g,2,lb.pn,by decide,by decide,λr2 H6 r22 b6 s6=>⟨rfl,_,rfl,?_⟩⟩;have b:=lb.mv b6.sb s6;obtain⟨X,N,S,D3⟩:=b.zs;refine Jn (λ_=>?_) (λ_=>F3 _ _ _ _ b.sb s6 ⟨X,N,S⟩ o);have J1:=b.sb _ _ v J2;obtain⟨y0,ts0,h0⟩:=o.h0;have e0:=(Xc h0).2.1;have yl:1+G<J.length:=by omega
  have ey:J=J.take (1+G)++[J[1+G]]:=by
   rw[<-take_snoc (ZC yl),Ze (by omega)]
  have a1:atI (J.map V.str) (-1)=some (.str J[1+G]):=by
   have:=L5 ((J.take (1+G)).map V.str) (.str J[1+G]);rw[show(J.take (1+G)).map V.str++[V.str J[1+G]]=(J.take (1+G)++[J[1+G]]).map V.str by rw[ZI];rfl,<-ey]at this;exact this
  have a0:atI (J.map V.str) 0=some (.str y0):=Yq (j:=0) (by rw[ZG,e0,zj,ZC (show 0<J.length by omega)];rfl);refine⟨.inl ⟨rfl,_,Z1 N⟩,_,rfl,_,_,Z1 J1,a1,_,_,Z1 J1,a0,_,_,Z1 J1,a0,sl 3,λt1 G1=>?_⟩;refine up_in G1 _ λH7 s7 g7=>?_;refine⟨sl 2,λt2 J5=>?_⟩;refine up_in J5 _ λH8 s8 g8=>?_;have R4:=s7.trans s8;have I0:=b.sm R4;have D0:=R4 _ _ N;have ln:=S.length;rw[ZA,XD]at ln;refine⟨l,_,_,rfl,rfl,D0,Yp (by omega),?_⟩;have L:=I0.ap D0 (d:=Vq (J[1+G],.pair y0 y0)) (Yn g8 (Z2 Yu (Z3 (Yn (s8 _ _ g7) (Z2 Yu (Z2 Yu (Z3 Yu))))))) (Vc _);obtain⟨c',d',k'⟩:=o.pair (y:=J[1+G]) Ll (by rw[Wy (by omega),<-ey];exact wn) (λ_=>rfl) h0;obtain⟨zB,I8,I7,_⟩:=L.zs;refine F3 _ _ c' d' L.sb L.pn ⟨zB,I8,?_⟩ k';rw[ZI];exact I7
end
end K4
namespace L2
open PySem
structure IK(fl:List (Str×Shp))(c:Str->Nat):Prop where
 f0:0<fl.length
 f3:fl.length<=3
 nd:(fl.map (·.1)).Nodup
 ok:∀y s,(y,s)∈fl->∃ts,s=.tags ts/\c y=1+ts.length/\1<=ts.length/\ts.length<=4/\ts.Nodup
theorem Xv.fl(k:Xv L c d):IK (flat L) c:=⟨k.f0,k.f3,k.nd.sublist (List.filter_sublist.map _),λy s m=>by
 obtain⟨G,J⟩:=ze.mp m
 cases s with
 |pair _ _=>cases J
 |tags Z=>
  obtain⟨i,M⟩:=zh.mp G;obtain⟨T,R,O,_,N⟩:=k.kk i y _ M;exact⟨Z,rfl,O,T,R,N⟩⟩
theorem RH{J:kL}{r:Nat}(M:IK J c)(h:HasL H G (J.map Vq))(S:r<J.length):∃y Z a b t,J[r]?=some (y,.tags Z)/\atI G ((r:Nat):Int)=some (.ref a)/\H a=some (.tup [.str y,.ref b])/\H b=some (.tup [.str "tags",.ref t])/\H t=some (.tup (Z.map V.str))/\c y=1+Z.length/\1<=Z.length/\Z.length<=4:=by
 have N:=h.length;rw[ZA]at N;have e:G[r]?=some (G[r]'(by omega)):=ZC _;obtain⟨k,L,O⟩:=getD h e;obtain⟨y,s⟩:=k;obtain⟨Z,rfl,A,F,E,_⟩:=M.ok y s (ZH L);obtain⟨a,v,I,D,R⟩:=Jt O;obtain⟨b,t,rfl,B,T⟩:=Jg R;exact⟨y,Z,a,b,t,L,by rw[I]at e;exact Yq e,D,B,T,A,F,E⟩
def prD(p:Str×Str):Dat:=.tup [.str p.1,.str p.2]
theorem X3(p:Str×Str):(prD p).st=true:=by simp[prD,Dat.st,Dat.sts]
theorem Mr(Z:List (Str×Str)):psD Z=.tup (Z.map prD):=rfl
def hdT(h:Hd):Dat:=.tup [.str h.1,psD h.2.1,.str h.2.2]
theorem Mq(Z:List (Str×Str)):(psD Z).st=true:=by unfold psD Dat.st;exact Gx Z
theorem UQ(h:Hd):(hdT h).st=true:=by unfold hdT;simp[Dat.st,Dat.sts,Mq]
theorem Jc{Z:kK}(h:Dat.sts Z=true):(Dat.lst Z).ni=true:=by unfold Dat.ni;exact Dat.nis_of h
theorem Y0{α:Type}{f:α->Dat}(h:∀a,(f a).st=true):∀l:List α,Dat.sts (l.map f)=true
 |[]=>by unfold List.map Dat.sts;rfl
 |a::l=>by rw[ZT];unfold Dat.sts;rw[h a,Y0 h l];rfl
structure RY(fl:List (Str×Shp))(c:Str->Nat)(ws:List Str)(ps:List (Str×Str))(n:Nat):Prop where
 sub:(ps.map (·.1)).Sublist ws
 kin:∀p∈ps,p.2∈fl.map (·.1)
 row:n=Vy c ps
theorem RY.up(h:RY fl c Z J n):RY fl c (Z++[w]) J n:=⟨h.sub.trans (List.sublist_append_left _ _),h.kin,h.row⟩
theorem RY.snoc(h:RY fl c Z J n)(m:y∈fl.map (·.1)):RY fl c (Z++[w]) (J++[(w,y)]) (n*c y):=⟨by rw[ZI];exact h.sub.append (List.Sublist.refl _),λp G=>by
 rcases ZV.mp G with q|q
 .exact h.kin p q
 .rw [ZO.mp q];exact m,by rw[X0,<-h.row]⟩
theorem RY.hd{G:kL}(h:RY G c (L.take j) J n)(w:Wds 97 L)(l:L.length<=3)(t:n<=top)(own:y∈G.map (·.1)):UW (G.map (·.1)) c top (x,J,y):=by
 have Z:=h.sub.trans (zU _ _);refine⟨?_,h.kin,own,w.nd.sublist Z,λp M=>w.wdS (Z.subset (ZU.mpr ⟨p,M,rfl⟩)),by show Vy c J<=top;rw[<-h.row];exact t⟩;have:=Z.length_le;rw[ZA]at this;show J.length<=3;omega
end L2
namespace K4
open PySem L2
section
theorem JF:Yo ["_law_pen","_law_flat_here","_law_left","_law_found","_law_name","_law_parameters","_law_rows","_law_word","_law_kind","_law_shape","_law_own"] ["_law_pen","_law_flat_here"] (Yc Da):=Y3
inductive E2(K:W.Frag)(H:Hp)(Q:VK):List V->Prop
 |mk (p sa:Addr) (v:V) (fl:List (Str×Shp)) (c:Str->Nat) (pn:Pen K sa H p) (hv:Has H v (.lst (fl.map Vq))) (ok:IK fl c)
  (q:∀(l:Addr)(xs:List V)(hs:List Hd)(H':Hp),SameB p H H'->Pen K sa H' p->H l=none->H' l=some (.lst xs)->HasL H' xs (hs.map hdT)->0<hs.length->hs.length<=5->Wds 97 (hs.map (·.1))->(∀h∈hs,UW (fl.map (·.1)) c 40 h)->Q (.ref l) H'):E2 K H Q [.ref p,v]
def TX(K:W.Frag):Sp:=λZ H Q _=>E2 K H Q Z
theorem FY(B:Blt mg)(F:Fun K "_law_heads_drawn" "_law_heads_drawn" Da f fd)(DN:Df P w K mg base n "_law_next" pnm (JY K))(DW:Df P w K mg base n "_law_small_words" pnm (XS K)):Yk P w K mg base CX0 (n+1) f fd ["_law_pen","_law_flat_here"] (TX K):=by
 refine F.oi JF λcdv A F1 s H vs Q E hr h=>?_;obtain⟨p,o,v,fl,c,pn,hv,ok,q⟩:=h;refine⟨_,YW (Ym 2 JF.nd YX)
  (YW (Ym 3 JF.nd (Vs Vi))
  (YW (Vo Zt rfl (VF (Yw DW hr (pa2 (pv 0) (Y1 Vf YX (Yw DN hr (pa2 (pv 0) YX)))))) (YZ 4 JF.nd)
   (YW (Ym 5 JF.nd (Vs Vi))
   (YW (Ym 6 JF.nd YX)
   (YW (Vo Zt rfl (VF (VM WJ (Yw DW hr (pa2 (pv 0) YX)) Vb (Va (Yw DN hr (pa2 (pv 0) YX))))) (YZ 7 JF.nd)
    (YW (JP (Yi Y4 (pv 1) (Yw DN hr (pa2 (pv 0) (Yr Yj rfl B.len Zs (pa1 (pv 1))))) (λ_ _=>rfl)) (VE (n:=2) rfl (Ye (YZ 8 JF.nd) (Ye (YZ 9 JF.nd) Y6))))
    (YY (Y5 (Ys GX (Y1 Jb (pv 6) (Y1 Vf YX (Yr Yj rfl B.len Zs (pa1 (Yi Yl (pv 9) YX))))) (pv 2) (Yy _))
     (YW (Ym 6 JF.nd (Y1 Jb (pv 6) (Y1 Vf YX (Yr Yj rfl B.len Zs (pa1 (Yi Yl (pv 9) YX))))))
     (YY (VO (Jk Zx Zy Zz Vj (pv 5) (pa1 (Yx (pa2 (pv 7) (pv 8)))))))) Yv))))
   (YW (Ym 2 JF.nd (Yr (W7 rfl) rfl B.max W9 (pa2 YX (Y1 UP (pv 2) (pv 6)))))
   (YW (Ym 10 JF.nd (Yi Yl (Yi Y4 (pv 1) (Yw DN hr (pa2 (pv 0) (Yr Yj rfl B.len Zs (pa1 (pv 1))))) (λ_ _=>rfl)) YX))
   (YY (VO (Jk Zx Zy Zz Vj (pv 3) (pa1 (Yx (pa3 (pv 4) (VA VW rfl B.tuple Vm (pa1 (pv 5))) (pv 10)))))))))))))
  (YY (Yt (pv 3))))),?_⟩
 dsimp only[Vl,Cx.nox,Cx.wish];show let T0:=_;let T1:=_;let T2:=Yh _ T1;let T3:=Yh _ T2;let T4:=_;let T5:=Yh _ T4;let T6:=VN _ T5 _;let T7:=Yh _ T6;let T8:=Yh (Jx _ _ T7) T3;let T9:=Yh _ T8;let T10:=Yh _ T9;let T11:=Yh (Jx _ _ T10) T0;let T12:=Yh _ T11;Yh _ T12 _ _ _
 intros
 obtain⟨la,xf,rfl,J5,u⟩:=V2 hv;have N:=Y0 Vc fl;have F5:=u.length;rw[ZA]at F5;have f0:=ok.f0;have f3:=ok.f3;have X:=pn.lst J5 u (Dat.nis_of N);refine Gf ?_;refine⟨sl 0,λl hl=>?_⟩;have k:=Lb.new pn hl;generalize upd H l (.lst [])=H1 at k |-;refine⟨p,o,5,k.pn,by decide,by decide,λr1 H2 r5 b2 s2=>?_⟩;refine⟨p,o,1+r1,s2,by omega,λnm ys H3 D3 s3 R6 T lys wn=>?_⟩;have G2:nm≠p:=s2.ne R6;have F9:=(k.mv b2.sb s2).mv D3 s3;obtain⟨z3,I2,_⟩:=(k.mv b2.sb s2).zs;have F4:nm≠l:=(Yf I2 R6).symm;refine⟨⟨_,Z1 T⟩,?_⟩
 let I:kH:=λi U e=>∃hs:List Hd,Lb K o H p l (hs.map hdT) e/\e nm=some (.lst (ys.map V.str))/\hs.map (·.1)=ys.take i/\(∀h∈hs,UW (fl.map (·.1)) c 40 h)/\∃(L:Nat)(z4 z5 z6 z7 z8 z9 S:kJ),1<=L/\L<=40/\U=[some (.ref p),some (.ref la),some (.int (L:Nat)),some (.ref l),z4,z5,z6,z7,z8,z9,S]
 refine Ua (xs:=ys.map V.str) I ⟨[],F9,T,rfl,(λh m=>nomatch m),40,_,_,_,_,_,_,_,by decide,by decide,rfl⟩ (λi U e _ z=>let⟨_,_,h,_⟩:=z;Z1 h) ?_ ?_
 .rintro BB RR i x U e hx ⟨hs,lb,T,ehs,hok,L,z4,z5,z6,z7,z8,z9,S,L1,L40,rfl⟩
  obtain⟨Z8,R5,rfl⟩:=WE hx;refine⟨sl 0,λl5 I8=>?_⟩;have g:=Lb.new lb.pn I8;obtain⟨z0,R3,_⟩:=lb.zs;generalize upd e l5 (.lst [])=H4 at g |-;dsimp only[Vu];refine Gf ?_;refine⟨p,o,3,g.pn,by decide,λwl wy H5 D0 s5 S2 I4 lwy R8=>?_⟩;refine⟨p,o,4,s5,by decide,by decide,λkn H6 k4 b6 s6=>?_⟩;refine⟨_,rfl,wl,_,rfl,Z1 (b6.sb _ _ (g.pn.ne S2) I4),λw2 J4=>?_⟩;rw[RM _ _ (by rw[ZA];omega),<-yj];have M2:=(g.mv D0 s5).mv b6.sb s6;obtain⟨z6',I1,_⟩:=M2.zs;have F2:w2≠l5:=(Yf I1 J4).symm;have F3:w2≠p:=s6.ne J4;refine up_in J4 _ λH7 s7 g7=>?_;have F7:=M2.sm s7;refine⟨⟨_,Z1 g7⟩,?_⟩
  let J:kH:=λj U Hj=>∃C:List (Str×Str),Lb K o e p l5 (C.map prD) Hj/\Hj w2=some (.lst ((wy.take kn).map V.str))/\∃(R:Nat)(z7 z8 z9:kJ),RY fl c ((wy.take kn).take j) C R/\R<=L/\U=[some (.ref p),some (.ref la),some (.int (L:Nat)),some (.ref l),some (.str Z8),some (.ref l5),some (.int (R:Nat)),z7,z8,z9,S]
  refine Ua (xs:=(wy.take kn).map V.str) J ⟨[],F7,g7,1,_,_,_,⟨List.nil_sublist _,(λp m=>nomatch m),rfl⟩,L1,rfl⟩ (λi U e _ z=>let⟨_,_,h,_⟩:=z;Z1 h) ?_ ?_
  .rintro BB RR j x U Hj hx ⟨C,lc,hw,R,z7,z8,z9,pk,RL,rfl⟩
   obtain⟨wd,J2,rfl⟩:=WE hx;have jl:=(ZE.mp J2).1;rw[ZL]at jl;have J1:=Vd (lb.sb.trans lc.sb) pn _ (Dat.nis_of N) u;have M:=(lb.sb.trans lc.sb) _ _ X J5;refine⟨la,_,rfl,.inl (Z1 M),p,o,_,lc.pn,by omega,by omega,λr H8 r8 D s8=>?_⟩;obtain⟨y,ts,a,b,t,hy,ea,ha,hb,ht,cy,t1,t4⟩:=RH ok (VS (lc.pn.tk D.sb) _ N J1) (show r<fl.length by omega);have ym:y∈fl.map (·.1):=ZU.mpr ⟨_,ZH hy,rfl⟩;have lt:(ts.map V.str).length=ts.length:=ZA _;refine⟨_,_,Z1 (D.sb _ _ X M),ea,⟨_,Z0 ha,rfl,?_⟩⟩;have G:=lc.mv D.sb s8;have R4:=D.sb _ _ F3 hw;have G3:((R:Nat):Int)*(1+(((ts.map V.str).length:Nat):Int))=((R*c y:Nat):Int):=by rw[lt,cy,vd];rfl
   have mle:=Nat.mul_le_mul (show R<=40 by omega) (show c y<=5 by omega);refine⟨_,_,Z0 hb,rfl,t,_,rfl,.inr (Z0 ht),.inl ⟨by omega,by omega⟩,_,rfl,?_⟩;refine Jn (λc1=>?_) (λ_=>⟨C,G,R4,R,_,_,_,by rw[take_snoc J2];exact pk.up,RL,rfl⟩);have C2:=Zr c1;rw[G3]at C2;refine⟨_,_,Z0 hb,rfl,t,_,rfl,.inr (Z0 ht),.inl ⟨by omega,by omega⟩,?_⟩;obtain⟨R7,Z,O,_⟩:=G.zs;refine⟨.inl ⟨rfl,_,Z1 Z⟩,sl 2,λt9 I5=>?_⟩;refine up_in I5 _ λH9 s9 g9=>?_
   have lp:C.length<=3:=by
    have:=pk.sub.length_le;rw[ZA,ZL,ZL]at this;omega
   have ln:=O.length;rw[ZA]at ln;refine⟨l5,_,_,rfl,rfl,s9 _ _ Z,Yp (by omega),?_⟩;have F6:=(G.sm s9).ap (d:=prD (wd,y)) (s9 _ _ Z) (Yn g9 (Z2 Yu (Z3 Yu))) (X3 _);refine⟨C++[(wd,y)],by rw[ZI];exact F6,by rw[Yd F2];exact s9 _ _ R4,R*c y,_,_,_,by rw[take_snoc J2];exact pk.snoc ym,by omega,by rw[<-G3];rfl⟩
  .rintro U Hj ⟨C,lc,hw,R,z7,z8,z9,pk,RL,rfl⟩
   have Z9:=lb.mv lc.sb lc.pn;have J1:=Vd Z9.sb pn _ (Dat.nis_of N) u;have M:=Z9.sb _ _ X J5;refine⟨_,_,rfl,?_⟩;have em:(if(L:Int)-(R:Int) > 1 then(L:Int)-(R:Int)else 1)=((max 1 (L-R):Nat):Int):=by split <;> omega
   refine⟨la,_,rfl,.inl (Z1 M),p,o,_,lc.pn,by omega,by omega,λr H8 r8 D s8=>?_⟩;obtain⟨y,ts,a,b,t,hy,ea,ha,hb,ht,cy,t1,t4⟩:=RH ok (VS (lc.pn.tk D.sb) _ N J1) (show r<fl.length by omega);have ym:y∈fl.map (·.1):=ZU.mpr ⟨_,ZH hy,rfl⟩;refine⟨_,_,Z1 (D.sb _ _ X M),ea,_,_,Z0 ha,rfl,?_⟩;have N2:=Z9.mv D.sb s8;have G:=lc.mv D.sb s8;obtain⟨R7,Z,O,_⟩:=N2.zs;obtain⟨zc,I0,R1,_⟩:=G.zs;refine⟨.inl ⟨rfl,_,Z1 Z⟩,l5,_,rfl,.inl ⟨Z1 I0,λt1 I7=>?_⟩⟩;refine up_in I7 _ λH9 s9 g9=>?_;refine⟨sl 3,λt2 I6=>?_⟩;refine up_in I6 _ λH10 G1 I9=>?_;have sA:=s9.trans G1;have lh:=congrArg List.length ehs;rw[ZA,ZL]at lh;have ln:=O.length;rw[ZA]at ln;refine⟨l,_,_,rfl,rfl,sA _ _ Z,Yp (by omega),?_⟩;have F8:=(N2.sm sA).ap (d:=hdT (Z8,C,y)) (sA _ _ Z) (Yn I9 (Z2 Yu (Z2 (Yn (G1 _ _ g9) (R1.mono sA)) (Z3 Yu)))) (UQ _);refine⟨hs++[(Z8,C,y)],by rw[ZI];exact F8,by rw[Yd F4];exact sA _ _ (D.sb _ _ G2 (lc.sb _ _ G2 T)),by rw[ZI,ehs,take_snoc R5];rfl,λh hm=>?_,max 1 (L-R),_,_,_,_,_,_,_,by omega,by omega,by rw[<-em];rfl⟩;rcases ZV.mp hm with m|m
   .exact hok h m
   .rw [ZO.mp m]
    rw[vR]at pk;exact pk.hd R8 (by omega) (by omega) ym
 .rintro U e ⟨hs,lb,T,ehs,hok,L,z4,z5,z6,z7,z8,z9,S,L1,L40,rfl⟩
  rw[ZA,zS]at ehs;have lh:=congrArg List.length ehs;rw[ZA]at lh;obtain⟨z0,R3,I3,_⟩:=lb.zs;exact q l z0 hs e lb.sb lb.pn lb.fl R3 I3 (by omega) (by omega) (by rw[ehs];exact wn) hok
end
end K4
namespace L2
open PySem
def tot(c:kM)(hs:List Hd):Nat:=(hs.map λh=>Vy c h.2.1).sum
theorem NI(c:kM)(Z:List Hd)(h:Hd):tot c (Z++[h])=tot c Z+Vy c h.2.1:=by unfold tot;rw[ZI,vM];simp
def Cov(fl:kL)(hs:List Hd):Prop:=∀(j:Nat)(k:Str×Shp)(h:Hd),fl[j]?=some k->hs[j]?=some h->h.2.2=k.1
theorem Cov.snoc(c:Cov fl J)(e:∀k,fl[J.length]?=some k->h.2.2=k.1):Cov fl (J++[h]):=λj k g G Z=>by
 by_cases hj:j<J.length
 .rw [zn hj]at Z
  exact c j k g G Z
 .rw [zt (by omega)]at Z
  have L:j-J.length=0:=by
   have:=(ZE.mp Z).1;rw[zg]at this;omega
  rw[L]at Z;cases Z;exact e k (by rw[show J.length=j by omega];exact G)
theorem Cov.all(c:Cov fl Z)(l:fl.length<=Z.length)(m:y∈fl.map (·.1)):∃h∈Z,h.2.2=y:=by
 obtain⟨k,G,rfl⟩:=ZU.mp m;obtain⟨j,J⟩:=zh.mp G;have L:=(ZE.mp J).1;have e:Z[j]?=some (Z[j]'(by omega)):=ZC _;exact⟨_,ZH e,c j k _ J e⟩
end L2
namespace K4
open PySem L2
section
theorem Jq{v:V}(p Z:Addr)(many:Nat)(e:v=.int (many:Nat))(G:Pen K Z H p)(M:0<many)(L:many<1000)(q:∀(r:Nat)(J:Hp),r<many->But p H J->Pen K Z J p->Q (.int (r:Nat)) J):OA K H Q [.ref p,v]:=by
 subst e;exact⟨p,Z,many,G,M,L,q⟩
theorem Ji:Yo ["_law_pen","_law_flat_here","_law_many","_law_left","_law_found","_law_name","_law_stands","_law_parameters","_law_word","_law_kind","_law_shape","_law_own"] ["_law_pen","_law_flat_here"] (Yc LK):=Y3
inductive Qa(K:W.Frag)(H:Hp)(Q:VK):List V->Prop
 |mk (p sa:Addr) (v:V) (fl:List (Str×Shp)) (c:Str->Nat) (pn:Pen K sa H p) (hv:Has H v (.lst (fl.map Vq))) (ok:IK fl c)
  (q:∀(l:Addr)(xs:List V)(hs:List Hd)(H':Hp),SameB p H H'->Pen K sa H' p->H l=none->H' l=some (.lst xs)->HasL H' xs (hs.map hdT)->fl.length<=hs.length->hs.length<=6->Wds 97 (hs.map (·.1))->(∀h∈hs,UW (fl.map (·.1)) c 24 h)->tot c hs<=24->Cov fl hs->Q (.ref l) H'):Qa K H Q [.ref p,v]
def BQ(K:W.Frag):Sp:=λZ H Q _=>Qa K H Q Z
theorem O4(B:Blt mg)(F:Fun K "_law_row_heads" "_law_row_heads" LK f fd)(DN:Df P w K mg base n "_law_next" pnm (JY K))(DW:Df P w K mg base n "_law_small_words" pnm (XS K)):Yk P w K mg base CX0 (n+1) f fd ["_law_pen","_law_flat_here"] (BQ K):=by
 refine F.oi Ji λcdv A I3 s H vs Q E hr h=>?_;obtain⟨p,sa,v,o,c,pn,hv,ok,q⟩:=h;refine⟨_,YW (Ym 2 Ji.nd (Y1 Vf (Yr Yj rfl B.len Zs (pa1 (pv 1))) (Yw DN hr (pa2 (pv 0) (Y1 UP YX (Yr Yj rfl B.len Zs (pa1 (pv 1))))))))
  (YW (Ym 3 Ji.nd YX)
  (YW (Ym 4 Ji.nd (Vs Vi))
  (YW (Vo Zt rfl (VF (Yw DW hr (pa2 (pv 0) (pv 2)))) (YZ 5 Ji.nd)
   (YW (Ym 3 Ji.nd (Y1 UP (pv 3) YX))
   (YW (Ym 6 Ji.nd YX)
   (YW (Ym 7 Ji.nd (Vs Vi))
   (YW (Vo Zt rfl (VF (VM WJ (Yw DW hr (pa2 (pv 0) YX)) Vb (Va (Yw DN hr (pa2 (pv 0) YX))))) (YZ 8 Ji.nd)
    (YW (JP (Yi Y4 (pv 1) (Yw DN hr (pa2 (pv 0) (Yr Yj rfl B.len Zs (pa1 (pv 1))))) (λ_ _=>rfl)) (VE (n:=2) rfl (Ye (YZ 9 Ji.nd) (Ye (YZ 10 Ji.nd) Y6))))
    (YY (Y5 (Ys GX (Y1 UP (Y1 Jb (pv 6) (Y1 Vf YX (Yr Yj rfl B.len Zs (pa1 (Yi Yl (pv 10) YX))))) (pv 6)) (Y1 UP (pv 3) (Y1 UP (Y1 UP (pv 2) (Yr Yj rfl B.len Zs (pa1 (pv 4)))) YX)) (Yy _))
     (YW (Ym 3 Ji.nd (Y1 UP (pv 3) (Y1 Jb (pv 6) (Yr Yj rfl B.len Zs (pa1 (Yi Yl (pv 10) YX))))))
     (YW (Ym 6 Ji.nd (Y1 Jb (pv 6) (Y1 Vf YX (Yr Yj rfl B.len Zs (pa1 (Yi Yl (pv 10) YX))))))
     (YY (VO (Jk Zx Zy Zz Vj (pv 7) (pa1 (Yx (pa2 (pv 8) (pv 9))))))))) Yv))))
   (YW (Ym 11 Ji.nd (Yi Yl (Yi Y4 (pv 1) (Yw DN hr (pa2 (pv 0) (Yr Yj rfl B.len Zs (pa1 (pv 1))))) (λ_ _=>rfl)) YX))
   (YW (Y5 (Ys Ts (Yr Yj rfl B.len Zs (pa1 (pv 4))) (Yr Yj rfl B.len Zs (pa1 (pv 1))) (Yy _)) (YY (Ym 11 Ji.nd (Yi Yl (Yi Y4 (pv 1) (Yr Yj rfl B.len Zs (pa1 (pv 4))) (λ_ _=>rfl)) YX))) Yv)
   (YY (VO (Jk Zx Zy Zz Vj (pv 4) (pa1 (Yx (pa3 (pv 5) (VA VW rfl B.tuple Vm (pa1 (pv 7))) (pv 11))))))))))))))
  (YY (Yt (pv 4)))))),?_⟩
 dsimp only[Vl,Cx.nox,Cx.wish];show let T0:=_;let T1:=_;let T2:=_;let T3:=Yh (VN _ T2 _) T1;let T4:=Yh _ T3;let T5:=_;let T6:=Yh _ T5;let T7:=Yh _ T6;let T8:=VN _ T7 _;let T9:=Yh _ T8;let T10:=Yh (Jx _ _ T9) T4;let T11:=Yh _ T10;let T12:=Yh _ T11;let T13:=Yh _ T12;let T14:=Yh (Jx _ _ T13) T0;let T15:=Yh _ T14;let T16:=Yh _ T15;Yh _ T16 _ _ _
 intros
 obtain⟨la,xf,rfl,J2,M2⟩:=V2 hv;have T:=Y0 Vc o;have I8:=M2.length;rw[ZA]at I8;have f0:=ok.f0;have f3:=ok.f3;have S:=pn.lst J2 M2 (Dat.nis_of T);refine⟨la,_,rfl,.inl (Z1 J2),la,_,rfl,.inl (Z1 J2),?_⟩;refine Jq p sa (7-xf.length) (by show V.int (7-(xf.length:Int))=_;congr 1;omega) pn (by omega) (by omega) λrM H0 rM7 b0 G1=>?_;have F5:=Vd b0.sb pn _ (Dat.nis_of T) M2;have D3:=b0.sb _ _ S J2;dsimp only[Vu];refine Gf ?_;refine⟨sl 0,λl hl=>?_⟩;have C:=Lb.new G1 hl;generalize upd H0 l (.lst [])=H1 at C |-;refine⟨p,sa,xf.length+rM,C.pn,by omega,λnm ys H3 I2 s3 F7 u lys wn=>?_⟩;have R5:nm≠p:=C.pn.ne F7;have lb3:=C.mv I2 s3;obtain⟨z3,hz3,_⟩:=C.zs;have I6:nm≠l:=(Yf hz3 F7).symm;refine⟨⟨_,Z1 u⟩,?_⟩
 let I:kH:=λi U Hi=>∃D:List Hd,Lb K sa H0 p l (D.map hdT) Hi/\Hi nm=some (.lst (ys.map V.str))/\D.map (·.1)=ys.take i/\(∀h∈D,UW (o.map (·.1)) c 24 h)/\Cov o D/\∃(L:Nat)(z5 z6 z7 z8 z9 G Z8:kJ),L+tot c D=24/\xf.length+rM<=L+i/\U=[some (.ref p),some (.ref la),some (.int ((xf.length:Int)+(rM:Int))),some (.int (L:Nat)),some (.ref l),z5,z6,z7,z8,z9,G,Z8]
 refine Ua (xs:=ys.map V.str) I ⟨[],lb3,u,rfl,(λh m=>nomatch m),(λj k h _ e=>by simp at e),24,_,_,_,_,_,_,_,rfl,by omega,rfl⟩ (λi U Hi _ z=>let⟨_,_,h,_⟩:=z;Z1 h) ?_ ?_
 .rintro BB RR i x U Hi hx ⟨D,lb,u,ehs,hok,cov,L,z5,z6,z7,z8,z9,G,Z8,L24,LM,rfl⟩
  obtain⟨Z9,J5,rfl⟩:=WE hx;have il:=(ZE.mp J5).1;have lh:=congrArg List.length ehs;rw[ZA,ZL]at lh;have lhi:D.length=i:=by omega
  dsimp only[Vu];refine Gf ?_;refine⟨sl 0,λl5 hl5=>?_⟩;have J1:=Lb.new lb.pn hl5;generalize upd Hi l5 (.lst [])=H4 at J1 |-;refine⟨p,sa,3,J1.pn,by decide,λwl wy H5 I1 s5 fwl hwl lwy I0=>?_⟩;refine⟨p,sa,4,s5,by decide,by decide,λkn H6 k4 b6 s6=>?_⟩;refine⟨_,rfl,wl,_,rfl,Z1 (b6.sb _ _ (J1.pn.ne fwl) hwl),λw2 R1=>?_⟩;rw[RM _ _ (by rw[ZA];omega),<-yj];have R8:=(J1.mv I1 s5).mv b6.sb s6;obtain⟨z6',hz6,_⟩:=R8.zs;have I4:w2≠l5:=(Yf hz6 R1).symm;have I5:w2≠p:=s6.ne R1;refine up_in R1 _ λH7 s7 g7=>?_;have S2:=R8.sm s7;refine⟨⟨_,Z1 g7⟩,?_⟩
  let J:kH:=λj U Hj=>∃ps:List (Str×Str),Lb K sa Hi p l5 (ps.map prD) Hj/\Hj w2=some (.lst ((wy.take kn).map V.str))/\∃(R M:Nat)(z8 z9 G:kJ),RY o c ((wy.take kn).take j) ps R/\M+R+tot c D=24/\xf.length+rM<=M+i+1/\U=[some (.ref p),some (.ref la),some (.int ((xf.length:Int)+(rM:Int))),some (.int (M:Nat)),some (.ref l),some (.str Z9),some (.int (R:Nat)),some (.ref l5),z8,z9,G,Z8]
  have eL:((L:Nat):Int)-1=((L-1:Nat):Int):=by omega
  refine Ua (xs:=(wy.take kn).map V.str) J ⟨[],S2,g7,1,L-1,_,_,_,⟨List.nil_sublist _,(λp m=>nomatch m),rfl⟩,by omega,by omega,by rw[<-eL];rfl⟩ (λi U Hi _ z=>let⟨_,_,h,_⟩:=z;Z1 h) ?_ ?_
  .rintro BB RR j x U Hj hx ⟨ps,lc,hw,R,M,z8,z9,G,pk,M24,MM,rfl⟩
   obtain⟨wd,N2,rfl⟩:=WE hx;have jl:=(ZE.mp N2).1;rw[ZL]at jl;have J4:=lb.sb.trans lc.sb;have L1:=Vd J4 G1 _ (Dat.nis_of T) F5;have X:=J4 _ _ S D3;refine⟨la,_,rfl,.inl (Z1 X),p,sa,_,lc.pn,by omega,by omega,λr H8 r8 b8 s8=>?_⟩;obtain⟨y,ts,a,b,t,hy,ea,ha,hb,ht,cy,t1,t4⟩:=RH ok (VS (lc.pn.tk b8.sb) _ T L1) (show r<o.length by omega);have ym:y∈o.map (·.1):=ZU.mpr ⟨_,ZH hy,rfl⟩;have lt:(ts.map V.str).length=ts.length:=ZA _;refine⟨_,_,Z1 (b8.sb _ _ S X),ea,⟨_,Z0 ha,rfl,?_⟩⟩;have O:=lc.mv b8.sb s8;have F6:=b8.sb _ _ I5 hw;obtain⟨zl,hzl,F1,_⟩:=(lb.mv O.sb s8).zs;have I7:=F1.length;rw[ZA]at I7;have R7:((R:Nat):Int)*(1+(((ts.map V.str).length:Nat):Int))=((R*c y:Nat):Int):=by rw[lt,cy,vd];rfl
   have R6:((R:Nat):Int)*(((ts.map V.str).length:Nat):Int)=((R*ts.length:Nat):Int):=by rw[lt,vd]
   have ec:R*c y=R+R*ts.length:=by rw[cy,Nat.mul_add,Nat.mul_one]
   have mle:=Nat.mul_le_mul (show R<=24 by omega) (show c y<=5 by omega);refine⟨_,_,Z0 hb,rfl,t,_,rfl,.inr (Z0 ht),.inl ⟨by omega,by omega⟩,l,_,rfl,.inl (Z1 hzl),_,rfl,?_⟩;refine Jn (λc1=>?_) (λ_=>⟨ps,O,F6,R,M,_,_,_,by rw[take_snoc N2];exact pk.up,M24,MM,rfl⟩);have F9:=Zr c1;rw[R7]at F9;refine⟨_,_,Z0 hb,rfl,t,_,rfl,.inr (Z0 ht),.inl ⟨by omega,by omega⟩,?_⟩;refine⟨_,_,Z0 hb,rfl,t,_,rfl,.inr (Z0 ht),.inl ⟨by omega,by omega⟩,?_⟩;obtain⟨R3,Z,g,_⟩:=O.zs;refine⟨.inl ⟨rfl,_,Z1 Z⟩,sl 2,λt9 ht9=>?_⟩;refine up_in ht9 _ λH9 s9 g9=>?_
   have lp:ps.length<=3:=by
    have:=pk.sub.length_le;rw[ZA,ZL,ZL]at this;omega
   have ln:=g.length;rw[ZA]at ln;refine⟨l5,_,_,rfl,rfl,s9 _ _ Z,Yp (by omega),?_⟩;have I9:=(O.sm s9).ap (d:=prD (wd,y)) (s9 _ _ Z) (Yn g9 (Z2 Yu (Z3 Yu))) (X3 _);have eM:((M:Nat):Int)-((R:Nat):Int)*(((ts.map V.str).length:Nat):Int)=((M-R*ts.length:Nat):Int):=by rw[R6];omega
   exact⟨ps++[(wd,y)],by rw[ZI];exact I9,by rw[Yd I4];exact s9 _ _ F6,R*c y,M-R*ts.length,_,_,_,by rw[take_snoc N2];exact pk.snoc ym,by omega,by omega,by rw[<-R7,<-eM];rfl⟩
  .rintro U Hj ⟨ps,lc,hw,R,M,z8,z9,G,pk,M24,MM,rfl⟩
   have G2:=lb.mv lc.sb lc.pn;have L1:=Vd G2.sb G1 _ (Dat.nis_of T) F5;have X:=G2.sb _ _ S D3;refine⟨la,_,rfl,.inl (Z1 X),p,sa,_,lc.pn,by omega,by omega,λr H8 r8 b8 s8=>?_⟩;have F4:=VS (lc.pn.tk b8.sb) _ T L1;obtain⟨y,ts,a,b,t,hy,ea,ha,hb,ht,cy,t1,t4⟩:=RH ok F4 (show r<o.length by omega);have ym:y∈o.map (·.1):=ZU.mpr ⟨_,ZH hy,rfl⟩;have G3:=b8.sb _ _ S X;refine⟨_,_,Z1 G3,ea,_,_,Z0 ha,rfl,?_⟩;have D0:=G2.mv b8.sb s8;have O:=lc.mv b8.sb s8;obtain⟨R3,Z,g,_⟩:=D0.zs;obtain⟨zc,hzc,F2,_⟩:=O.zs;have ln:=g.length;rw[ZA]at ln;dsimp only[Vu];refine V7 (λU' H'=>H'=H8/\∃y,y∈o.map (·.1)/\(∀k,o[D.length]?=some k->y=k.1)/\U'=[some (.ref p),some (.ref la),some (.int ((xf.length:Int)+(rM:Int))),some (.int (M:Nat)),some (.ref l),some (.str Z9),some (.int (R:Nat)),some (.ref l5),z8,z9,G,some (.str y)]) ?_ ?_
   .rintro U' H' ⟨rfl,y,ym,yc,rfl⟩
    refine⟨.inl ⟨rfl,_,Z1 Z⟩,l5,_,rfl,.inl ⟨Z1 hzc,λt1 ht1=>?_⟩⟩;refine up_in ht1 _ λH9 s9 g9=>?_;refine⟨sl 3,λt2 ht2=>?_⟩;refine up_in ht2 _ λH10 R4 g10=>?_;have sA:=s9.trans R4;refine⟨l,_,_,rfl,rfl,sA _ _ Z,Yp (by omega),?_⟩;have C2:=(D0.sm sA).ap (d:=hdT (Z9,ps,y)) (sA _ _ Z) (Yn g10 (Z2 Yu (Z2 (Yn (R4 _ _ g9) (F2.mono sA)) (Z3 Yu)))) (UQ _);refine⟨D++[(Z9,ps,y)],by rw[ZI];exact C2,by rw[Yd I6];exact sA _ _ (b8.sb _ _ R5 (lc.sb _ _ R5 u)),by rw[ZI,ehs,take_snoc J5];rfl,λh hm=>?_,cov.snoc yc,M,_,_,_,_,_,_,_,by rw[NI];have:=pk.row;omega,by omega,rfl⟩;rcases ZV.mp hm with m|m
    .exact hok h m
    .rw [ZO.mp m]
     rw[vR]at pk;exact pk.hd I0 (by omega) (by omega) ym
   .intro N key
    refine⟨l,_,rfl,.inl (Z1 Z),la,_,rfl,.inl (Z1 G3),_,rfl,?_⟩;refine Jn (λc1=>?_) (λc1=>key _ _ ⟨rfl,y,ym,λk hk=>?_,rfl⟩)
    .have F9:=Zr c1
     obtain⟨y2,ts2,a2,b2,t2,F3,F8,ha2,_⟩:=RH ok F4 (show D.length<o.length by omega);rw[<-ln]at F8;exact⟨l,_,rfl,.inl (Z1 Z),_,_,Z1 G3,F8,_,_,Z0 ha2,rfl,key _ _ ⟨rfl,y2,ZU.mpr ⟨_,ZH F3,rfl⟩,λk hk=>by rw[F3]at hk;cases hk;rfl,rfl⟩⟩
    .have:=(ZE.mp hk).1
     exact Zp (decide_eq_true (show((R3.length:Nat):Int)<((xf.length:Nat):Int) by omega)) c1
 .rintro U Hi ⟨D,lb,u,ehs,hok,cov,L,z5,z6,z7,z8,z9,G,Z8,L24,LM,rfl⟩
  rw[ZA,zS]at ehs;have lh:=congrArg List.length ehs;rw[ZA]at lh;obtain⟨z0,hz0,hz1,_⟩:=lb.zs;exact q l z0 D Hi (b0.sb.trans lb.sb) lb.pn (b0.sb.free lb.np lb.fl) hz0 hz1 (by omega) (by omega) (by rw[ehs];exact wn) hok (by omega) cov
end
end K4
namespace L2
open PySem
mutual
def Bd.nl:Bd->Prop
 |.tag _=>True
 |.name _=>True
 |.pair a b=>a.nl/\b.nl
 |.one e=>e.nl
 |.other e=>e.nl
 |.choose e _ bs=>e.nl/\Bd.nls bs
 |.ask _ as=>Bd.nls as
 |.letb _ _ _ _=>False
def Bd.nls:List Bd->Prop
 |[]=>True
 |b::bs=>b.nl/\Bd.nls bs
end
theorem Bd.nls_iff:∀{bs:List Bd},Bd.nls bs↔∀b∈bs,b.nl
 |[]=>⟨λ_ b h=>(nomatch h),λ_=>by unfold Bd.nls;trivial⟩
 |b::bs=>by
  unfold Bd.nls;rw[Bd.nls_iff (bs:=bs)];exact⟨λh c m=>(Zb.mp m).elim (λe=>e ▸ h.1) (h.2 c),λh=>⟨h b ZY,λc m=>h c (ZK _ m)⟩⟩
theorem Bd.oks_iff:∀{bs:List Bd},Bd.oks bs↔∀b∈bs,b.ok
 |[]=>⟨λ_ b h=>(nomatch h),λ_=>by unfold Bd.oks;trivial⟩
 |b::bs=>by
  unfold Bd.oks;rw[Bd.oks_iff (bs:=bs)];exact⟨λh c m=>(Zb.mp m).elim (λe=>e ▸ h.1) (h.2 c),λh=>⟨h b ZY,λc m=>h c (ZK _ m)⟩⟩
theorem Bd.deps_lt:∀{bs:List Bd},0<n->(∀b∈bs,b.dep<n)->Bd.deps bs<n
 |[],h,_=>by unfold Bd.deps;exact h
 |b::bs,h,k=>by
  unfold Bd.deps;exact Nat.max_lt.mpr ⟨k b ZY,Bd.deps_lt h λc m=>k c (ZK _ m)⟩
structure Sd(ks:List (Str×Shp))(hd:Hds)(kv:List (Key×V))(y:Str)(n:Nat)(b:Bd):Prop where
 kd:Kd ks hd kv y b
 ok:b.ok
 dep:b.dep<n
 nl:b.nl
structure SWd(H:Hp)(wv av:V)(ks fl:List (Str×Shp))(hs:List Hd)(ps:List (Str×Str))(c:Str->Nat):Prop where
 hw:Has H wv (.tup [.lst (fl.map Vq),.lst (hs.map hdT)])
 ha:Has H av (.lst (ps.map prD))
 ok:IK fl c
 sk:∀y s,(y,s)∈fl->VG ks y=some s
 nh:(hs.map (·.1)).Nodup
 h8:hs.length<=8
 ho:∀h∈hs,h.2.1.length<=3/\∀p∈h.2.1,p.2∈fl.map (·.1)
 np:(ps.map (·.1)).Nodup
 p3:ps.length<=3
theorem NE(J:kL)(Z:List Hd):(Dat.tup [.lst (J.map Vq),.lst (Z.map hdT)]).ni=true:=by
 simp[Dat.ni,Dat.nis,Dat.nis_of (Y0 Vc J),Dat.nis_of (Y0 UQ Z)]
theorem SWd.pn(w:SWd H wv av L fl G Z c)(s:SameB p H M)(J:Pen K sa H p):SWd M wv av L fl G Z c:=
 {w with hw:=VC s J _ (NE fl G) w.hw,ha:=VC s J _ (Jc (Y0 X3 Z)) w.ha}
theorem SWd.at(w:SWd H wv av y fl B j c):∃G M L J Z,wv=.ref G/\H G=some (.tup [.ref M,.ref L])/\H M=some (.lst J)/\HasL H J (fl.map Vq)/\H L=some (.lst Z)/\HasL H Z (B.map hdT):=by
 obtain⟨G,U,rfl,A,F⟩:=Yz w.hw;obtain⟨X,Q,rfl,S,E⟩:=Yb F;obtain⟨C,P,rfl,I,D⟩:=Yb E;obtain rfl:=VD D;obtain⟨M,J,rfl,T,R⟩:=V2 S;obtain⟨L,Z,rfl,O,N⟩:=V2 I;exact⟨G,M,L,J,Z,rfl,A,T,R,O,N⟩
theorem X8(h:Has H v (prD p)):∃t,v=.ref t/\H t=some (.tup [.str p.1,.str p.2]):=Xp h
theorem XG(h:Has H v (hdT x)):∃t u Z,v=.ref t/\H t=some (.tup [.str x.1,.ref u,.str x.2.2])/\H u=some (.tup Z)/\HasL H Z (x.2.1.map prD):=by
 unfold hdT at h;obtain⟨t,E,rfl,O,R⟩:=Yz h;obtain⟨I,C,rfl,D,L⟩:=Yb R;obtain⟨A,U,rfl,B,G⟩:=Yb L;obtain⟨F,S,rfl,T,J⟩:=Yb G;obtain rfl:=VD J;obtain rfl:=has_str D;obtain rfl:=has_str T;obtain⟨u,Z,rfl,N,M⟩:=Yz B;exact⟨t,u,Z,rfl,O,N,M⟩
theorem X9:∀{ns:kq}{Z:kF},HasL H Z (ns.map Dat.str)->Z=ns.map V.str
 |[],Z,h=>VD h
 |n::ns,Z,h=>by
  obtain⟨x,r,rfl,G,J⟩:=Yb h;rw[has_str G,X9 J];rfl
theorem Si{Z:List (Str×Str)}(G:(Z.map (·.1)).Nodup)(m:p∈Z):VH (kvP Z) (Sum.inr p.1)=some (.str p.2):=by
 have J:((kvP Z).map (·.1)).Nodup:=by
  unfold kvP;rw[za];unfold List.Nodup at G |-;rw[yz]at G |-;exact G.imp λL q=>L (Sum.inr.inj q)
 exact Gk J (kv:=(Sum.inr p.1,V.str p.2)) (ZU.mpr ⟨p,m,rfl⟩)
theorem Fh(J:List Hd)(l:J.length<=900)(h:∀h∈J,h.2.1.length<=3):(Dat.lst (J.map hdT)).dep<=4:=
 (Lo (m:=3) (λd Z=>by
  obtain⟨x,G,rfl⟩:=ZU.mp Z;unfold hdT;refine UR (m:=2) (λd Z=>?_) (by show 3<=1000;decide);simp only[Zb,yp,or_false]at Z;rcases Z with rfl|rfl|rfl
  .exact (Jf _).up (by decide)
  .rw [Mr]
   refine UR (m:=1) (λd Z=>?_) (by rw[ZA];have:=h x G;omega);obtain⟨p,_,rfl⟩:=ZU.mp Z;exact M7 (Jf _) (Jf _)
  .exact (Jf _).up (by decide)) (by rw[ZA];omega)).1
def brF(x:Str×Bd):Dat:=.tup [.str x.1,x.2.dat]
theorem AD(x:Str×Bd):(brF x).st=true:=by simp[brF,Dat.st,Dat.sts,Bd.st]
theorem L3:∀Z:List (Str×Bd),Z.map brF=Bd.brs (Z.map (·.2)) (Z.map (·.1))
 |[]=>by unfold List.map Bd.brs;rfl
 |z::Z=>by rw[ZT,L3 Z,ZT,ZT];(conv=>rhs;unfold Bd.brs);rfl
theorem N1{α:Type}{E:Str->α->Prop}{Z:kq}{J:List (Str×α)}(h:Each (λt z=>z.1=t/\E t z.2) Z J):J.map (·.1)=Z:=by
 refine yx λi=>?_;rw[ZG]
 cases e:J[i]? with
 |none=>
  have:=zo.mp e;rw[h.1]at this;rw[zo.mpr this];rfl
 |some z=>
  have L:i<Z.length:=by rw[<-h.1];exact(ZE.mp e).1
  have G:Z[i]?=some Z[i]:=ZC L;rw[G];exact congrArg some (h.2 i _ z G e).1
theorem half_lt{r s n:Nat}(h:r+1<2 ^ (n+1))(J:2*s<=r-1)(Z:1<=r):s+1<2 ^ n:=by
 rw[Nat.pow_succ]at h;omega
theorem Lu(a b:Nat)(h:2<=b):2*(a / b)<=a:=by
 have J:=Nat.div_mul_le_self a b;have Z:=Nat.mul_le_mul_left (a / b) h;rw[Nat.mul_comm]at Z;rw[Nat.mul_comm (a / b) b]at J;omega
end L2
namespace K4
open PySem L2
section
abbrev dps:kq:=["_law_pen","_law_world_here","_law_around","_law_kind","_law_room"]
theorem UL:Yo ["_law_pen","_law_world_here","_law_around","_law_kind","_law_room","_law_way","_law_here","_law_other","_law_shape","_law_share","_law_first","_law_asked","_law_head","_law_tags"] dps (Yc ES):=Y3
theorem LD:List.Nodup [("_law_name":Str),"_law_own","_law_kind"]:=by decide +kernel
theorem QR:List.Nodup [("_law_head":Str),"_law_kind"]:=by decide +kernel
theorem Az:List.Nodup [("_law_tag":Str),"_law_pen","_law_world_here","_law_around","_law_kind","_law_share"]:=by decide +kernel
theorem QQ:List.Nodup [("_law_name":Str),"_law_own","_law_pen","_law_world_here","_law_around","_law_share"]:=by decide +kernel
inductive QZ(K:W.Frag)(n:Nat)(H:Hp)(Q:VK):List V->Prop
 |mk (p sa:Addr) (wv av:V) (y:Str) (r:Nat) (ks fl:List (Str×Shp)) (hs:List Hd) (ps:List (Str×Str)) (c:Str->Nat) (pn:Pen K sa H p) (sw:SWd H wv av ks fl hs ps c) (ym:y∈fl.map (·.1)) (rn:r+1<2 ^ n) (r3:r<=30)
  (q:∀u b H',SameB p H H'->Pen K sa H' p->Has H' u b.dat->Sd ks (Y2 hs) (kvP ps) y n b->Q u H'):QZ K n H Q [.ref p,wv,av,.str y,.int (r:Nat)]
def XU(K:W.Frag)(n:Nat):Sp:=λZ H Q _=>QZ K n H Q Z
theorem O3(B:Blt mg)(F:Fun K "_law_said" "_law_said" ES f fd)(DN:Df P w K mg base (L+5) "_law_next" pnm (JY K))(DT:Df P w K mg base (L+5) "_law_tags_of" ["_law_kinds_here","_law_kind"] J7)(G:Yk P w K mg base CX0 (L+5) f fd dps (XU K n))(bG:Binds K fd dps [])(mG:mg "_law_said"=some (.ref f)):Yk P w K mg base CX0 (L+5+1) f fd dps (XU K (n+1)):=by
 have DG:Df P w K mg base (L+5) "_law_said" dps (XU K n):=⟨f,fd,mG,F.kp,bG,G⟩;refine F.oi UL λcdv A outer s H vs Q E hr h=>?_;obtain⟨p,sa,wv,av,y,r,ks,fl,hs,ps,c,pn,I,ym,rn,r3,q⟩:=h;have hr5:Vk (4+1) _:=hr.mono (show 5<=L+5 by omega);refine⟨_,YW (Ym 5 UL.nd (Yw DN hr (pa2 (pv 0) YX)))
  (YW (Xk (i0:=6) ["_law_name","_law_own"] [3] UL.nd rfl (Or.inl rfl) (VF (pv 2)) J3 (λcl C fp s H=>VE (n:=2) rfl (Ye (YZ 0 LD rfl (Or.inl rfl) (Or.inr rfl)) (Ye (YZ 1 LD rfl (Or.inl rfl) (Or.inr rfl)) Y6)))
   (λcl C fp s H=>Ys V9 (pv 1) (pv 2) (Yy _)) (λcl C fp s H=>pv 0))
  (YW (Y5 (PW.pt (X1 (Ys Ts (pv 5) YX (Yy _)) (U8 (Ys (XW hr5) (pv 6) (Vs Vi) (Yy _)))))
   (YY (Yt (Yx (pa2 Y7 (Yi Y4 (pv 6) (Yw DN hr (pa2 (pv 0) (Yr Yj rfl B.len Zs (pa1 (pv 6))))) (λ_ _=>rfl)))))) Yv)
  (YW (JP (Yi Y4 (Yi Yl (pv 1) YX) (Yw DN hr (pa2 (pv 0) (Yr Yj rfl B.len Zs (pa1 (Yi Yl (pv 1) YX))))) (λ_ _=>rfl)) (VE (n:=2) rfl (Ye (YZ 7 UL.nd) (Ye (YZ 8 UL.nd) Y6))))
  (YW (Y5 (PW.pt (X1 (Tl Ts Ts YX (pv 5) YX) (U8 (Ys Ur (pv 4) (Y1 Vf YX (Yr Yj rfl B.len Zs (pa1 (Yi Yl (pv 8) YX)))) (Yy _)))))
   (YW (Ym 9 UL.nd (Y1 G0 (Y1 UP (pv 4) YX) (Y1 Vf YX (Yr Yj rfl B.len Zs (pa1 (Yi Yl (pv 8) YX))))) (by exact rfl) (Or.inr rfl))
   (YW (Ym 10 UL.nd (Yw DG hr (pa5 (pv 0) (pv 1) (pv 2) (pv 7) (pv 9))))
   (YY (Yt (Yx (pa3 Y7 (pv 10) (VA VW rfl B.tuple Vm (pa1 (Vh ["_law_tag"] [0,1,2,3,9] (JH (Yi Yl (pv 8) YX)) (VR (i:=0) (by decide)) (λcl C fp s H=>YZ 0 Az rfl (Or.inl rfl) (Or.inr rfl))
    (λcl C fp s H=>Yx (pa2 (pv 0) (Yw DG hr (pa5 (pv 1) (pv 2) (pv 3) (pv 4) (pv 5)))))))))))))) Yv)
  (YW (Xk (i0:=11) ["_law_head"] [3] UL.nd rfl (Or.inl rfl) (VF (Yi Yl (pv 1) YX)) (VR (i:=0) (by decide)) (λcl C fp s H=>YZ 0 QR rfl (Or.inl rfl) (Or.inr rfl))
   (λcl C fp s H=>Ys V9 (Yi (r:=J9 K) Yl (pv 0) YX) (pv 1) (Yy _)) (λcl C fp s H=>pv 0))
  (YW (Y5 (PW.pt (X1 (Ys Ur (pv 5) YX (Yy _)) (U8 (Ys (XW hr5) (pv 11) (Vs Vi) (Yy _)))))
   (YW (Ym 12 UL.nd (Yi Y4 (pv 11) (Yw DN hr (pa2 (pv 0) (Yr Yj rfl B.len Zs (pa1 (pv 11))))) (λ_ _=>rfl)))
   (YY (Y5 (Ys Ur (pv 4) (Y1 Jb YX (Yr Yj rfl B.len Zs (pa1 (Yi Yl (pv 12) YX)))) (Yy _))
    (YW (Ym 9 UL.nd (Y1 G0 (Y1 UP (pv 4) YX) (Yr (W7 rfl) rfl B.max W9 (pa2 YX (Yr Yj rfl B.len Zs (pa1 (Yi Yl (pv 12) YX)))))) (by exact rfl) (Or.inr rfl))
    (YY (Yt (Yx (pa3 Y7 (Yi Yl (pv 12) YX) (VA VW rfl B.tuple Vm (pa1 (Vh ["_law_name","_law_own"] [0,1,2,9] (JH (Yi Yl (pv 12) YX)) J3 (λcl C fp s H=>VE (n:=2) rfl (Ye (YZ 0 QQ rfl (Or.inl rfl) (Or.inr rfl)) (Ye (YZ 1 QQ rfl (Or.inl rfl) (Or.inr rfl)) Y6)))
     (λcl C fp s H=>Yw DG hr (pa5 (pv 2) (pv 3) (pv 4) (pv 1) (pv 5))))))))))) Yv))) Yv)
  (YW (Ym 13 UL.nd (Yw DT hr (pa2 (Yi Yl (pv 1) YX) (pv 3))))
  (YY (Yt (Yx (pa2 Y7 (Yi Yl (pv 13) (Yw DN hr (pa2 (pv 0) (Yr Yj rfl B.len Zs (pa1 (pv 13))))) (λ_ _=>rfl))))))))))))),?_⟩
 dsimp only[Vl,Cx.nox,Cx.wish];show let T0:=_;let T1:=Yh _ T0;let T2:=_;let T3:=Yh _ T2;let T4:=VN _ T3 _;let T5:=Yh _ T4;let T6:=Yh (VN _ T5 _) T1;let T7:=Yh _ T6;let T8:=_;let T9:=Yh _ T8;let T10:=Yh _ T9;let T11:=Yh (VN _ T10 _) T7;let T12:=Yh _ T11;let T13:=_;let T14:=Yh (VN _ T13 _) T12;let T15:=Yh _ T14;Yh _ T15 _ _ _
 intros
 refine⟨p,sa,9,pn,by decide,by decide,λR4 H1 w9 b1 I7=>?_⟩;have sw1:=I.pn b1.sb pn;obtain⟨aa,xa,rfl,haa,hxa⟩:=V2 sw1.ha;refine⟨⟨_,Z1 haa⟩,?_⟩;refine Ju (E:=λp=>.str p.1) (λp=>decide (p.2=y)) (itl (Z1 haa)) hxa (by have:=I.p3;omega) (λu x R hm hu rT rF=>?_) λvs hl H2 fh s2 hhl l=>?_
 .obtain ⟨t,rfl,ht⟩:=X8 hu
  exact⟨_,Z0 ht,rfl,rfl,_,rfl,Jn (λc=>rT _ (decide_eq_true (V.str.inj (Zr c))) Yu) λc=>rF (Zw λe=>c (decide_eq_true (congrArg V.str e)))⟩
 obtain⟨ns,rfl,hns,lns⟩:∃ns:kq,vs=ns.map V.str/\(∀z∈ns,VH (kvP ps) (Sum.inr z)=some (.str y))/\ns.length<=3:=by
  refine⟨(ps.filter λp=>decide (p.2=y)).map (·.1),X9 (by rw[za];exact l),λz hz=>?_,by rw[ZA];exact ZZ (zN _ _) I.p3⟩;obtain⟨pr,hp,rfl⟩:=ZU.mp hz;obtain⟨m1,m2⟩:=ze.mp hp;rw[Si I.np m1,Zr m2]
 have I6:=I7.same s2;have I2:=b1.sb.trans s2.sb;have nph:hl≠p:=I7.ne fh;dsimp only[Vu];refine V7 (λU' H'=>Same H2 H'/\U'=[some (.ref p),some wv,some (.ref aa),some (.str y),some (.int (r:Nat)),some (.int (R4:Nat)),some (.ref hl),none,none,none,none,none,none,none]) ?_ ?_
 case refine_2=>
  intro N M;refine⟨_,rfl,Jn (λc1=>?_) (λc1=>Y9 (by simp) (M _ _ ⟨Z6 _,rfl⟩))⟩;refine⟨sl 0,λe1 F6=>?_⟩;refine up_in F6 _ λH3 s3 g3=>?_;have F4:=s3 _ _ hhl;refine⟨.lst (ns.map Dat.str),.lst [],Sg F4,VQ g3 Z4,ZZ (TQ _) (by decide),_,rfl,?_⟩;rw[Kj]
  cases ns with
  |nil=>exact Y9 (by simp) (M _ _ ⟨s3,rfl⟩)
  |cons n1 ns=>
   refine V1 (by simp) ?_;have j:=I6.same s3;refine⟨hl,_,rfl,.inl (Z1 F4),p,sa,_,j,by simp,by rw[ZA];omega,λr4 H4 v b4 T=>?_⟩;rw[ZA]at v;refine⟨_,.str ((n1::ns)[r4]'(v)),Z1 (b4.sb _ _ nph F4),Yq (by rw[ZG,ZC v];rfl),sl 2,λt ht=>?_⟩;have s5:=Yg ht (.tup [.str "name",.str ((n1::ns)[r4]'(v))]);exact q _ (.name _) _ (((I2.trans s3.sb).trans b4.sb).trans s5.sb) (T.same s5) (by unfold Bd.dat;exact U0 Ya) ⟨Kd.name (hns _ (yV v)),by unfold Bd.ok;trivial,by unfold Bd.dep;omega,by unfold Bd.nl;trivial⟩
 rintro U' H3 ⟨s3,rfl⟩;have j:=I6.same s3;have I1:=I2.trans s3.sb;have sw3:=I.pn I1 pn;obtain⟨wa,fa,ha,xf,xh,rfl,G3,F5,R8,hha,R7⟩:=sw3.at;have R6:=Y0 Vc fl;have hst:=Y0 UQ hs;have I9:=j.lst F5 R8 (Dat.nis_of R6);have I8:=j.lst hha R7 (Dat.nis_of hst);have lxf:=R8.length;have lxh:=R7.length;rw[ZA]at lxf lxh;have f0:=I.ok.f0;have f3:=I.ok.f3;have h8:=I.h8;refine⟨_,_,Z0 G3,rfl,_,_,Z0 G3,rfl,fa,_,rfl,.inl (Z1 F5),p,sa,_,j,by omega,by omega,λr4 H4 v b4 T=>?_⟩;have J1:=b4.sb _ _ (j.tup G3) G3;have R3:=b4.sb _ _ I9 F5;have R1:=b4.sb _ _ I8 hha;have hx4:=VS (j.tk b4.sb) _ R6 R8;have hh4:=VS (j.tk b4.sb) _ hst R7;obtain⟨o,ts,a,b,t,ho,ea,haT,N2,M2,co,t1,t4⟩:=RH I.ok hx4 (show r4<fl.length by omega);have om:o∈fl.map (·.1):=ZU.mpr ⟨_,ZH ho,rfl⟩;have lts:(ts.map V.str).length=ts.length:=ZA _;refine⟨_,_,Z1 R3,ea,⟨_,Z0 haT,rfl,?_⟩⟩;have G1:=I1.trans b4.sb;dsimp only[Vu,XM,Nv];refine V7 (λU' H'=>H'=H4/\U'=[some (.ref p),some (.ref wa),some (.ref aa),some (.str y),some (.int (r:Nat)),some (.int (R4:Nat)),some (.ref hl),some (.str o),some (.ref b),none,none,none,none,none]) ?_ ?_
 case refine_2=>
  intro N M;refine⟨_,rfl,Jn (λc1=>?_) (λc1=>⟨_,rfl,Y9 (by simp) (Y9 (by simp) (M _ _ ⟨rfl,rfl⟩))⟩)⟩;refine⟨_,rfl,Jn (λc2=>?_) (λc2=>Y9 (by simp) (M _ _ ⟨rfl,rfl⟩))⟩;refine⟨_,_,Z0 N2,rfl,t,_,rfl,.inr (Z0 M2),_,rfl,Jn (λc3=>?_) (λc3=>M _ _ ⟨rfl,rfl⟩)⟩;have c3':=Zr c3;have sw4:=I.pn G1 pn;obtain⟨S,hS⟩:∃S:Nat,S=(r-1) / (1+ts.length):=⟨_,rfl⟩;have dS:=Lu (r-1) (1+ts.length) (by omega);rw[<-hS]at dS
  have eS:((r:Int)-1) / (1+(((ts.map V.str).length:Nat):Int))=((S:Nat):Int):=by
   rw[hS,lts,show((r:Int)-1)=((r-1:Nat):Int) by omega];rfl
  have Sn:=half_lt rn dS (by omega);refine⟨_,_,Z0 N2,rfl,t,_,rfl,.inr (Z0 M2),⟨by omega,by omega⟩,?_⟩;dsimp only;rw[eS];refine⟨p,sa,.ref wa,.ref aa,o,S,ks,fl,hs,ps,c,T,sw4,om,Sn,by omega,λu1 e1 H5 g k hu1 J4=>?_⟩;have F9:=g _ _ (T.tup M2) M2;have bt5:=g _ _ (T.tup N2) N2;refine⟨_,_,Z0 bt5,rfl,⟨_,Z0 F9⟩,?_⟩;refine Uv (us:=ts) (D:=Dat.str) (F:=brF) (λtg z=>z.1=tg/\Sd ks (Y2 hs) (kvP ps) y n z.2) (Pb F9 k) k (VZ ts) (λu=>by unfold Dat.ni;rfl) AD (by omega) (λtg x H6 R hm O X hx hR=>?_) λvs zs q1 H6 fq O X F3 l ez=>?_
  .obtain rfl:=has_str hx
   refine⟨p,sa,.ref wa,.ref aa,y,S,ks,fl,hs,ps,c,X,I.pn ((G1.trans g).trans O) pn,ym,Sn,by omega,λu J H7 J5 U hu sd=>⟨sl 2,λt' ht'=>?_⟩⟩;have s8:=Yg ht' (.tup [.str tg,u]);exact hR _ (tg,J) _ (J5.trans s8.sb) (U.same s8) (Yn Ya (Z2 Yu (Z3 (hu.mono s8)))) ⟨rfl,sd⟩
  refine⟨q1,_,rfl,.inl ⟨Z1 F3,λt1 F1=>?_⟩⟩;refine up_in F1 _ λH7 s7 g7=>?_;refine⟨sl 3,λt2 D3=>?_⟩;refine up_in D3 _ λH8 s8 g8=>?_;have G2:=s7.trans s8;have ef:=N1 ez;have lb:(zs.map (·.2)).length=ts.length:=by rw[ZA];exact ez.1
  have es:∀J∈zs.map (·.2),Sd ks (Y2 hs) (kvP ps) y n J:=λJ Z=>by
   obtain⟨z,hz,rfl⟩:=ZU.mp Z;obtain⟨_,_,e⟩:=ez.mem hz;exact e.2
  have n0:=J4.dep;refine q _ (.choose e1 ts (zs.map (·.2))) H8 (((G1.trans g).trans O).trans G2.sb) (X.same G2) ?_ ⟨Kd.choose (I.sk _ _ (ZH ho)) J4.kd lb λJ Z=>(es J Z).kd,?_,?_,?_⟩
  .unfold Bd.dat
   rw[L3,ef]at l;exact Yn g8 (Z2 Yu (Z2 (Jd (λb us h=>G2 _ _ (k.tk O _ _ h)) _ (Bd.st _) hu1) (Z3 (Yn (s8 _ _ g7) (l.mono G2)))))
  .unfold Bd.ok
   exact⟨J4.ok,lb,⟨by omega,by omega⟩,Bd.oks_iff.mpr λJ Z=>(es J Z).ok⟩
  .unfold Bd.dep
   have:=Bd.deps_lt (n:=n) (by omega) λJ Z=>(es J Z).dep;omega
  .unfold Bd.nl
   exact⟨J4.nl,Bd.nls_iff.mpr λJ Z=>(es J Z).nl⟩
 rintro U' H' ⟨rfl,rfl⟩;refine⟨_,_,Z0 J1,rfl,⟨_,Z1 R1⟩,?_⟩;refine Ju (E:=hdT) (λh=>decide (h.2.2=y)) (itl (Z1 R1)) hh4 (by omega) (λu x R hm hu rT rF=>?_) λva al H5 fal s5 hal L1=>?_
 .obtain ⟨t',u',xs,rfl,ht,J2,hx⟩:=XG hu
  exact⟨_,_,Z0 ht,rfl,rfl,_,rfl,Jn (λc=>rT _ (decide_eq_true (V.str.inj (Zr c))) hu) λc=>rF (Zw λe=>c (decide_eq_true (congrArg V.str e)))⟩
 have k:=T.same s5;have g:=G1.trans s5.sb;have npa:al≠p:=T.ne fal;dsimp only[Vu];refine V7 (λU' H6=>SameB p H5 H6/\Pen K sa H6 p/\∃F8,U'=[some (.ref p),some (.ref wa),some (.ref aa),some (.str y),some (.int (r:Nat)),some (.int (R4:Nat)),some (.ref hl),some (.str o),some (.ref b),none,none,some (.ref al),F8,none]) ?_ ?_
 case refine_2=>
  intro N M;refine⟨_,rfl,Jn (λc1=>?_) (λc1=>Y9 (by simp) (M _ _ ⟨SameB.refl _ _,k,_,rfl⟩))⟩;refine⟨sl 0,λe1 F6=>?_⟩;refine up_in F6 _ λH6 s6 g6=>?_;have F7:=s6 _ _ hal;have X:=k.same s6;have fi:∀h∈hs.filter (λh=>decide (h.2.2=y)),h∈hs/\h.2.2=y:=λh m=>⟨(ze.mp m).1,Zr (ze.mp m).2⟩;have C2:=zN (λh:Hd=>decide (h.2.2=y)) hs;generalize hs.filter (λh=>decide (h.2.2=y))=fs at L1 fi C2;refine⟨.lst (fs.map hdT),.lst [],VQ F7 (L1.mono s6),VQ g6 Z4,Fh fs (by omega) (λh m=>(I.ho h (fi h m).1).1),_,rfl,?_⟩;rw[Kj];have S2:=L1.length;rw[ZA]at S2
  cases fs with
  |nil=>exact Y9 (by simp) (M _ _ ⟨s6.sb,X,_,rfl⟩)
  |cons h1 fs=>
   refine V1 (by simp) ?_;rw[Zd]at S2 C2;refine⟨al,_,rfl,.inl (Z1 F7),p,sa,_,X,by omega,by omega,λr7 H7 I5 b7 U=>?_⟩;have e7:va[r7]?=some (va[r7]'(I5)):=ZC I5;obtain⟨hd,hhd,hv7⟩:=getD L1 e7;obtain⟨hdm,hdy⟩:=fi hd (ZH hhd);obtain⟨l3,pk⟩:=I.ho hd hdm;have Z8:=s6.sb.trans b7.sb;obtain⟨t',u',xs,e8,ht,J2,hx⟩:=XG (Jd (k.tk Z8) _ (UQ _) hv7);rw[e8]at e7;refine⟨_,_,Z1 (b7.sb _ _ npa F7),Yq e7,?_⟩;have lx:=hx.length;rw[ZA]at lx;refine⟨_,_,Z0 ht,rfl,u',_,rfl,.inr (Z0 J2),.inl ⟨by decide,by decide⟩,_,rfl,Jn (λc3=>?_) (λc3=>M _ _ ⟨Z8,U,_,rfl⟩)⟩;have c3':=Zr c3;obtain⟨S,hS⟩:∃S:Nat,S=(r-1) / (max 2 xs.length):=⟨_,rfl⟩;have dS:=Lu (r-1) (max 2 xs.length) (by omega);rw[<-hS]at dS;have em:(if((xs.length:Nat):Int) > 2 then((xs.length:Nat):Int)else 2)=((max 2 xs.length:Nat):Int):=by split <;> omega
   have eS:((r:Int)-1) / (if((xs.length:Nat):Int) > 2 then((xs.length:Nat):Int)else 2)=((S:Nat):Int):=by
    rw[hS,em,show((r:Int)-1)=((r-1:Nat):Int) by omega];rfl
   have Sn:=half_lt rn dS (by omega);refine⟨_,_,Z0 ht,rfl,u',_,rfl,.inr (Z0 J2),_,_,rfl,⟨by rw[em];omega,by rw[em];omega⟩,?_⟩;dsimp only;rw[eS];have J5:=g.trans Z8;refine⟨_,_,Z0 ht,rfl,_,_,Z0 ht,rfl,⟨_,Z0 J2⟩,?_⟩;refine Uv (us:=hd.2.1) (D:=prD) (F:=Bd.dat) (λpr J=>Sd ks (Y2 hs) (kvP ps) pr.2 n J) (Pb J2 U) U hx (λu=>Dat.ni_of (X3 u)) Bd.st (by omega) (λpr x H8 R hm R5 Z9 hx hR=>?_) λvs bs q1 H8 fq R5 Z9 F3 l ez=>?_
   .obtain ⟨t8,rfl,ht8⟩:=X8 hx
    refine⟨_,Z0 ht8,rfl,?_⟩;exact⟨p,sa,.ref wa,.ref aa,pr.2,S,ks,fl,hs,ps,c,Z9,I.pn (J5.trans R5) pn,pk pr hm,Sn,by omega,λu J H9 sb9 pn9 hu sd=>hR _ J _ sb9 pn9 hu sd⟩
   refine⟨q1,_,rfl,.inl ⟨Z1 F3,λt1 F1=>?_⟩⟩;refine up_in F1 _ λH9 s9 g9=>?_;refine⟨sl 3,λt2 D3=>?_⟩;refine up_in D3 _ λH10 I3 g10=>?_;have sA:=s9.trans I3;have es:∀J∈bs,∃z,Sd ks (Y2 hs) (kvP ps) z n J:=λJ Z=>let⟨u,_,e⟩:=ez.mem Z;⟨_,e⟩
   have hat:=Xe I.nh hdm;refine q _ (.ask hd.1 bs) H10 ((J5.trans R5).trans sA.sb) (Z9.same sA) ?_ ⟨?_,?_,?_,?_⟩
   .unfold Bd.dat
    rw[Z7];exact Yn g10 (Z2 Yu (Z2 Yu (Z3 (Yn (I3 _ _ g9) (l.mono sA)))))
   .rw [<-hdy]
    exact Kd.ask hat ez.1 λi J pr h1 h2=>(ez.2 i pr J h2 h1).kd
   .unfold Bd.ok
    exact⟨by rw[ez.1];omega,Bd.oks_iff.mpr λJ Z=>let⟨_,e⟩:=es J Z;e.ok⟩
   .unfold Bd.dep
    cases bs with
    |nil=>
     unfold Bd.deps
     cases n with
     |zero=>exact Zp rn (by show ¬r+1<2;omega)
     |succ n=>omega
    |cons b0 bs=>
     obtain⟨_,e0⟩:=es b0 ZY;have:=Bd.deps_lt (n:=n) (bs:=b0::bs) (by have:=e0.dep;omega) λJ Z=>let⟨_,e⟩:=es J Z;e.dep
     omega
   .unfold Bd.nl
    exact Bd.nls_iff.mpr λJ Z=>let⟨_,e⟩:=es J Z;e.nl
 rintro U' H6 ⟨O,X,F8,rfl⟩;have I0:=g.trans O;have hwa6:=(s5.sb.trans O) _ _ (T.tup J1) J1;have hfa6:=(s5.sb.trans O) _ _ I9 R3;have hx6:=VS (T.tk (s5.sb.trans O)) _ R6 hx4;obtain⟨sy,F2⟩:=JJ ym;obtain⟨d,rfl,cy,y1,y4,_⟩:=I.ok.ok y sy (Jo F2);refine⟨_,_,Z0 hwa6,rfl,.ref fa,y,fl,d,VQ hfa6 hx6,by omega,F2,λrv H7 s7 h7=>?_⟩;obtain⟨tv,xt,rfl,D0,hxt⟩:=Yz h7;obtain rfl:=X9 hxt;have U:=X.same s7;have lty:(d.map V.str).length=d.length:=ZA _;refine⟨tv,_,rfl,.inr (Z0 D0),p,sa,_,U,by omega,by omega,λr8 H8 r8l b8 Z9=>?_⟩;have I4:r8<d.length:=by omega
 refine⟨_,.str d[r8],Z0 (b8.sb _ _ (U.tup D0) D0),Yq (by rw[ZG,ZC I4];rfl),sl 2,λt9 ht9=>?_⟩;have s9:=Yg ht9 (.tup [.str "tag",.str d[r8]]);exact q _ (.tag _) _ (((I0.trans s7.sb).trans b8.sb).trans s9.sb) (Z9.same s9) (by unfold Bd.dat;exact U0 Ya) ⟨Kd.tag (I.sk _ _ (Jo F2)) (yV I4),by unfold Bd.ok;trivial,by unfold Bd.dep;omega,by unfold Bd.nl;trivial⟩
theorem EF(B:Blt Z)(F:Fun K "_law_said" "_law_said" ES f G)(O:Df P w K Z base 5 "_law_next" pnm (JY K))(N:Df P w K Z base 5 "_law_tags_of" ["_law_kinds_here","_law_kind"] J7)(M:Binds K G dps [])(J:Z "_law_said"=some (.ref f)):∀n:Nat,Yk P w K Z base CX0 (n+5) f G dps (XU K n)
 |0=>.none λA H Q E h=>by
  obtain⟨p,S,D,m,y,r,j,t,z,C,c,X,I,T,R,U,q⟩:=h;exact Zp R (by show ¬r+1<1;omega)
 |n+1=>(O3 (L:=n) B F (O.up (by omega)) (N.up (by omega)) (EF B F O N M J n) M J).mono (by omega)
end
end K4
namespace L2
open PySem
structure Wld(H:Hp)(wv:V)(ks fl:List (Str×Shp))(hs:List Hd)(c:Str->Nat):Prop where
 hw:Has H wv (.tup [.lst (fl.map Vq),.lst (hs.map hdT)])
 ok:IK fl c
 sk:∀y s,(y,s)∈fl->VG ks y=some s
 nh:(hs.map (·.1)).Nodup
 h8:hs.length<=8
 ho:∀h∈hs,UW (fl.map (·.1)) c 40 h
theorem Wld.pn(w:Wld H wv G fl Z c)(s:SameB p H L)(J:Pen K sa H p):Wld L wv G fl Z c:={w with hw:=VC s J _ (NE fl Z) w.hw}
theorem Wld.sm(w:Wld H wv Z fl J c)(s:Same H G):Wld G wv Z fl J c:={w with hw:=w.hw.mono s}
theorem Wld.sw(w:Wld H wv L fl M c)(N:Has H av (.lst (Z.map prD)))(G:(Z.map (·.1)).Nodup)(J:Z.length<=3):SWd H wv av L fl M Z c:=
 ⟨w.hw,N,w.ok,w.sk,w.nh,w.h8,λh m=>⟨(w.ho h m).len,(w.ho h m).kin⟩,G,J⟩
theorem Wld.at(w:Wld H wv j fl B c):∃G M L J Z,wv=.ref G/\H G=some (.tup [.ref M,.ref L])/\H M=some (.lst J)/\HasL H J (fl.map Vq)/\H L=some (.lst Z)/\HasL H Z (B.map hdT):=by
 obtain⟨G,U,rfl,A,F⟩:=Yz w.hw;obtain⟨X,Q,rfl,S,E⟩:=Yb F;obtain⟨C,P,rfl,I,D⟩:=Yb E;obtain rfl:=VD D;obtain⟨M,J,rfl,T,R⟩:=V2 S;obtain⟨L,Z,rfl,O,N⟩:=V2 I;exact⟨G,M,L,J,Z,rfl,A,T,R,O,N⟩
end L2
namespace K4
open PySem L2
section
theorem Q9:Yo ["_law_pen","_law_world_here"] ["_law_pen","_law_world_here"] (Yc LQ):=Y3
theorem Se:List.Nodup [("_law_head":Str),"_law_pen","_law_world_here"]:=by decide +kernel
inductive Qd(K:W.Frag)(H:Hp)(Q:VK):List V->Prop
 |mk (p sa:Addr) (wv:V) (ks fl:List (Str×Shp)) (hs:List Hd) (c:Str->Nat) (pn:Pen K sa H p) (w:Wld H wv ks fl hs c)
  (q:∀(l:Addr)(xs:List V)(ds:List Dd)(H':Hp),SameB p H H'->Pen K sa H' p->H l=none->H' l=some (.lst xs)->HasL H' xs (ds.map N5)->ds.map (·.1)=hs->(∀x∈ds,Sd ks (Y2 hs) (kvP x.1.2.1) x.1.2.2 5 x.2)->Q (.ref l) H'):Qd K H Q [.ref p,wv]
def BW(K:W.Frag):Sp:=λZ H Q _=>Qd K H Q Z
theorem PL(B:Blt mg)(F:Fun K "_law_defined_drawn" "_law_defined_drawn" LQ f fd)(DG:Df P w K mg base n "_law_said" dps (XU K 5)):Yk P w K mg base CX0 (n+1) f fd ["_law_pen","_law_world_here"] (BW K):=by
 refine F.oi Q9 λJ4 A g s H vs Q E hr h=>?_;obtain⟨p,sa,wv,ks,fl,N,c,m,I,q⟩:=h;refine⟨_,YY (Yt (Vh ["_law_head"] [0,1] (VF (Yi Yl (pv 1) YX)) (VR (i:=0) (by decide)) (λcl C fp s H=>YZ 0 Se rfl (Or.inl rfl) (Or.inr rfl))
  (λcl C fp s H=>Y1 (r:=GS K) WS (pv 0) (Yx (pa1 (Yw DG hr (pa5 (pv 1) (pv 2) (VA (r:=λxs H Q=>∃p j,xs=[.ref p]/\(SqL K H p j\/SqT K H p j)/\∀l,H l=none->Q (.ref l) (upd H l (.lst j))) V3 rfl B.list Vw (pa1 (Yi (r:=J9 K) Yl (pv 0) YX))) (Yi (r:=J9 K) Yl (pv 0) YX) YX))))))),?_⟩
 dsimp only[Vl,Cx.nox,Cx.wish];obtain⟨wa,fa,ha,xf,xh,rfl,d,J2,J1,M,D⟩:=I.at;have Z8:=Y0 UQ N;refine⟨_,_,Z0 d,rfl,⟨_,Z1 M⟩,?_⟩;refine Uv (F:=N5) (λh x=>x.1=h/\Sd ks (Y2 N) (kvP h.2.1) h.2.2 5 x.2) (Cy M (m.lst M D (Dat.nis_of Z8))) m D (λh=>Dat.ni_of (UQ h)) Ps (by have:=I.h8;omega) (λh x H1 R hm G Z k hR=>?_) λvs ds l H1 Z9 G Z hl v U=>?_
 .obtain ⟨t,u,xs,rfl,ht,hu,hxs⟩:=XG k
  have ho:=I.ho h hm;refine⟨_,_,Z0 ht,rfl,u,_,rfl,.inr (Z0 hu),λl hl=>?_⟩;refine up_in hl _ λH2 L g2=>?_;refine⟨_,_,Z0 (L _ _ ht),rfl,?_⟩;refine⟨p,sa,.ref wa,.ref l,h.2.2,30,ks,fl,N,h.2.1,c,Z.same L,((I.pn G m).sm L).sw (VQ g2 (hxs.mono L)) ho.nd ho.len,ho.own,by decide,by decide,λub b H3 O y hb sd=>?_⟩;refine⟨sl 1,λt1 a=>?_⟩;refine up_in a _ λH4 S g4=>?_;have J:TK H1 H4:=λb us h=>S _ _ ((Z.same L).tk O _ _ (L _ _ h));refine⟨t,t1,_,_,rfl,rfl,Z0 (J _ _ ht),Z0 g4,by simp,Zf (Yp (by show 4<=1000;decide)),(λz=>nomatch z),λ_ t2 o=>?_⟩;refine up_in o _ λH5 T g5=>?_;exact hR _ (h,b) _ (((L.sb.trans O).trans S.sb).trans T.sb) ((y.same S).same T) (Yn g5 (Z2 Yu (Z2 (Yn (T _ _ (J _ _ hu)) (VS (λb us h=>T _ _ (J _ _ h)) _ (Y0 X3 _) hxs)) (Z2 Yu (Z3 ((hb.mono S).mono T)))))) ⟨rfl,sd⟩
 .refine q l vs ds H1 G Z Z9 hl v ?_ λx k=>?_
  .refine yx λi=>?_
   rw[ZG]
   cases e:ds[i]? with
   |none=>
    have:=zo.mp e;rw[U.1]at this;rw[zo.mpr this];rfl
   |some z=>
    have il:i<N.length:=by rw[<-U.1];exact(ZE.mp e).1
    have X:N[i]?=some N[i]:=ZC il;rw[X];exact congrArg some (U.2 i _ z X e).1
  .obtain ⟨h,_,e1,X⟩:=U.mem k
   subst e1;exact X
end
end K4
namespace L2
open PySem
inductive Rb where
 |br (e:Bd) (ts:List Str) (bs:List Rb)|on (r:Str) (as:List Bd)|thn (e:Bd) (r:Str) (as:List Bd)
mutual
def Rb.dat:Rb->Dat
 |.br e ts bs=>.tup [.str "by",e.dat,.tup (Rb.brs bs ts)]
 |.on r as=>.tup [.str "on",.str r,.tup (Bd.dats as)]
 |.thn e r as=>.tup [.str "then",e.dat,.str r,.tup (Bd.dats as)]
def Rb.brs:List Rb->List Str->List Dat
 |b::bs,t::ts=>.tup [.str t,b.dat]::Rb.brs bs ts
 |_,_=>[]
end
theorem N6(Z:List Bd):Dat.sts (Bd.dats Z)=true:=by rw[Z7];exact Y0 Bd.st Z
mutual
theorem Rb.st:∀b:Rb,b.dat.st=true
 |.br e Z J=>by unfold Rb.dat;simp[Dat.st,Dat.sts,Bd.st,Rb.sts J Z]
 |.on r G=>by unfold Rb.dat;simp[Dat.st,Dat.sts,N6]
 |.thn e r G=>by unfold Rb.dat;simp[Dat.st,Dat.sts,Bd.st,N6]
theorem Rb.sts:∀(J:List Rb)(Z:kq),Dat.sts (Rb.brs J Z)=true
 |b::J,t::Z=>by unfold Rb.brs Dat.sts;simp[Dat.st,Dat.sts,Rb.st b,Rb.sts J Z]
 |[],Z=>by unfold Rb.brs Dat.sts;rfl
 |_::_,[]=>by unfold Rb.brs Dat.sts;rfl
end
def rbF(x:Str×Rb):Dat:=.tup [.str x.1,x.2.dat]
theorem Tj(x:Str×Rb):(rbF x).st=true:=by simp[rbF,Dat.st,Dat.sts,Rb.st]
theorem Mm:∀Z:List (Str×Rb),Z.map rbF=Rb.brs (Z.map (·.2)) (Z.map (·.1))
 |[]=>by unfold List.map Rb.brs;rfl
 |z::Z=>by rw[ZT,Mm Z,ZT,ZT];(conv=>rhs;unfold Rb.brs);rfl
inductive RK(ks:List (Str×Shp))(hd rh:Hds)(kv:List (Key×V))(y:Str):Nat->Rb->Prop
 |on {n:Nat}{r:Str}{ps:List (Str×Str)}{as:List Bd}:rh r=some (ps,y)->Each (λpr b=>Sd ks hd kv pr.2 5 b) ps as->as.length<=3->RK ks hd rh kv y n (.on r as)
 |thn {n:Nat}{r:Str}{ps:List (Str×Str)}{as:List Bd}{e:Bd}:Sd ks hd kv y 5 e->rh r=some (ps,y)->Each (λpr b=>Sd ks hd kv pr.2 5 b) ps as->as.length<=3->RK ks hd rh kv y n (.thn e r as)
 |br {n:Nat}{z:Str}{ts:List Str}{e:Bd}{bs:List Rb}:VG ks z=some (.tags ts)->Sd ks hd kv z 5 e->bs.length=ts.length->1<=ts.length->ts.length<=4->ts.Nodup->(∀b∈bs,RK ks hd rh kv y n b)->RK ks hd rh kv y (n+1) (.br e ts bs)
structure RWd(H:Hp)(hv:V)(fl:List (Str×Shp))(rs:List Hd)(c:Str->Nat):Prop where
 hh:Has H hv (.lst (rs.map hdT))
 nd:(rs.map (·.1)).Nodup
 l6:rs.length<=6
 ho:∀h∈rs,UW (fl.map (·.1)) c 24 h
 cv:∀y∈fl.map (·.1),∃h∈rs,h.2.2=y
theorem RWd.pn(w:RWd H hv fl rs c)(s:SameB p H J)(Z:Pen K sa H p):RWd J hv fl rs c:={w with hh:=VC s Z _ (Jc (Y0 UQ rs)) w.hh}
end L2
namespace K4
open PySem L2
section
abbrev bps:kq:=["_law_pen","_law_world_here","_law_heads_here","_law_around","_law_kind","_law_deep"]
theorem Ui:Yo ["_law_pen","_law_world_here","_law_heads_here","_law_around","_law_kind","_law_deep","_law_way","_law_other","_law_shape","_law_first","_law_fit","_law_name","_law_parameters","_law_own","_law_given"] bps (Yc ET):=Y3
theorem Ay:List.Nodup [("_law_tag":Str),"_law_pen","_law_world_here","_law_heads_here","_law_around","_law_kind","_law_deep"]:=by decide +kernel
theorem QL:List.Nodup [("_law_word":Str),"_law_other","_law_pen","_law_world_here","_law_around"]:=by decide +kernel
inductive Ex(K:W.Frag)(m:Nat)(H:Hp)(Q:VK):List V->Prop
 |mk (p sa:Addr) (wv hv av:V) (y:Str) (d:Nat) (ks fl:List (Str×Shp)) (hs rs:List Hd) (ps:List (Str×Str)) (c:Str->Nat) (pn:Pen K sa H p) (sw:SWd H wv av ks fl hs ps c) (rw:RWd H hv fl rs c) (ym:y∈fl.map (·.1)) (dm:d<m)
  (q:∀u b H',SameB p H H'->Pen K sa H' p->Has H' u b.dat->RK ks (Y2 hs) (Y2 rs) (kvP ps) y d b->Q u H'):Ex K m H Q [.ref p,wv,hv,av,.str y,.int (d:Nat)]
def We(K:W.Frag)(m:Nat):Sp:=λZ H Q _=>Ex K m H Q Z
theorem KO{v:V}(e:v=.int (d:Nat))(h:Ex K m H Q [.ref p,wv,hv,av,.str y,.int (d:Nat)]):Ex K m H Q [.ref p,wv,hv,av,.str y,v]:=e ▸ h
theorem O5(B:Blt mg)(F:Fun K "_law_row_body" "_law_row_body" ET f fd)(DN:Df P w K mg base L "_law_next" pnm (JY K))(DS:Df P w K mg base L "_law_said" dps (XU K 5))(G:Yk P w K mg base CX0 L f fd bps (We K m))(bG:Binds K fd bps [])(mG:mg "_law_row_body"=some (.ref f)):Yk P w K mg base CX0 (L+1) f fd bps (We K (m+1)):=by
 have DG:Df P w K mg base L "_law_row_body" bps (We K m):=⟨f,fd,mG,F.kp,bG,G⟩;refine F.oi Ui λcdv A I6 s H vs Q E hr h=>?_;obtain⟨p,sa,wv,hv,av,y,d,ks,fl,hs,rs,ps,c,pn,S,Z,ym,dm,q⟩:=h;refine⟨_,YW (Ym 6 Ui.nd (Yw DN hr (pa2 (pv 0) YX)))
  (YW (Y5 (PW.pt (X1 (Ys Ts (pv 6) YX (Yy _)) (U8 (Ys Ur (pv 5) YX (Yy _)))))
   (YW (JP (Yi Y4 (Yi Yl (pv 1) YX) (Yw DN hr (pa2 (pv 0) (Yr Yj rfl B.len Zs (pa1 (Yi Yl (pv 1) YX))))) (λ_ _=>rfl)) (VE (n:=2) rfl (Ye (YZ 7 Ui.nd) (Ye (YZ 8 Ui.nd) Y6))))
   (YW (Ym 9 Ui.nd (Yw DS hr (pa5 (pv 0) (pv 1) (pv 3) (pv 7) YX)))
   (YY (Yt (Yx (pa3 Y7 (pv 9) (VA VW rfl B.tuple Vm (pa1 (Vh ["_law_tag"] [0,1,2,3,4,5] (JH (Yi Yl (pv 8) YX)) (VR (i:=0) (by decide)) (λcl C fp s H=>YZ 0 Ay rfl (Or.inl rfl) (Or.inr rfl))
    (λcl C fp s H=>Yx (pa2 (pv 0) (Yw DG hr (pa6 (pv 1) (pv 2) (pv 3) (pv 4) (pv 5) (Y1 UP (pv 6) YX)))))))))))))) Yv)
  (YW (Xk (i0:=10) ["_law_head"] [4] Ui.nd rfl (Or.inl rfl) (VF (pv 2)) (VR (i:=0) (by decide)) (λcl C fp s H=>YZ 0 QR rfl (Or.inl rfl) (Or.inr rfl))
   (λcl C fp s H=>Ys V9 (Yi (r:=J9 K) Yl (pv 0) YX) (pv 1) (Yy _)) (λcl C fp s H=>pv 0))
  (YW (JP (Yi Y4 (pv 10) (Yw DN hr (pa2 (pv 0) (Yr Yj rfl B.len Zs (pa1 (pv 10))))) (λ_ _=>rfl)) (VE (n:=3) rfl (Ye (YZ 11 Ui.nd) (Ye (YZ 12 Ui.nd) (Ye (YZ 13 Ui.nd) Y6)))))
  (YW (Ym 14 Ui.nd (VA VW rfl B.tuple Vm (pa1 (Vh ["_law_word","_law_other"] [0,1,3] (JH (pv 12)) J3 (λcl C fp s H=>VE (n:=2) rfl (Ye (YZ 0 QL rfl (Or.inl rfl) (Or.inr rfl)) (Ye (YZ 1 QL rfl (Or.inl rfl) (Or.inr rfl)) Y6)))
   (λcl C fp s H=>Yw DS hr (pa5 (pv 2) (pv 3) (pv 4) (pv 1) YX))))))
  (YW (Y5 (Ys V9 (pv 6) YX (Yy _)) (YY (Yt (Yx (pa3 Y7 (pv 11) (pv 14))))) Yv)
  (YY (Yt (Yx (pa4 Y7 (Yw DS hr (pa5 (pv 0) (pv 1) (pv 3) (pv 4) YX)) (pv 11) (pv 14)))))))))),?_⟩
 dsimp only[Vl,Cx.nox,Cx.wish];show let T0:=_;let T1:=_;let T2:=Yh (VN _ T1 _) T0;let T3:=Yh _ T2;let T4:=Yh _ T3;let T5:=Yh _ T4;let T6:=_;let T7:=Yh _ T6;let T8:=Yh _ T7;let T9:=Yh (VN _ T8 _) T5;Yh _ T9 _ _ _
 intros
 have f0:=S.ok.f0;have f3:=S.ok.f3;refine⟨p,sa,7,pn,by decide,by decide,λI2 H1 w7 b1 T=>?_⟩;have I4:=S.pn b1.sb pn;dsimp only[Vu];refine V7 (λU' H'=>H'=H1/\U'=[some (.ref p),some wv,some hv,some av,some (.str y),some (.int (d:Nat)),some (.int (I2:Nat)),none,none,none,none,none,none,none,none]) ?_ ?_
 case refine_2=>
  intro N D3;refine⟨_,rfl,Jn (λc1=>?_) (λc1=>Y9 (by simp) (D3 _ _ ⟨rfl,rfl⟩))⟩;refine⟨_,rfl,Jn (λc2=>?_) (λc2=>D3 _ _ ⟨rfl,rfl⟩)⟩;have c2':=Zr c2;obtain⟨wa,fa,ha,xf,xh,rfl,F1,R4,L1,hha,hxh⟩:=I4.at;have D0:=Y0 Vc fl;have I7:=T.lst R4 L1 (Dat.nis_of D0);have I9:=L1.length;rw[ZA]at I9;refine⟨_,_,Z0 F1,rfl,_,_,Z0 F1,rfl,fa,_,rfl,.inl (Z1 R4),p,sa,_,T,by omega,by omega,λr4 H4 r4l b4 G3=>?_⟩;have hx4:=VS (T.tk b4.sb) _ D0 L1;obtain⟨o,ts,a,b,t,ho,ea,haT,F8,F4,co,t1,t4⟩:=RH S.ok hx4 (show r4<fl.length by omega);have om:o∈fl.map (·.1):=ZU.mpr ⟨_,ZH ho,rfl⟩;refine⟨_,_,Z1 (b4.sb _ _ I7 R4),ea,⟨_,Z0 haT,rfl,?_⟩⟩;have J5:=b1.sb.trans b4.sb;refine⟨p,sa,.ref wa,av,o,8,ks,fl,hs,ps,c,G3,S.pn J5 pn,om,by decide,by decide,λu1 e1 H5 j J M2 J2=>?_⟩;have R5:=j _ _ (G3.tup F4) F4;refine⟨_,_,Z0 (j _ _ (G3.tup F8) F8),rfl,⟨_,Z0 R5⟩,?_⟩;have lts:ts.length<=4:=t4;refine Uv (us:=ts) (D:=Dat.str) (F:=rbF) (λtg z=>z.1=tg/\RK ks (Y2 hs) (Y2 rs) (kvP ps) y (d-1) z.2) (Pb R5 J) J (VZ ts) (λu=>by unfold Dat.ni;rfl) Tj (by omega) (λtg x H6 R hm X G2 hx hR=>?_) λvs zs q1 H6 fq X G2 R3 Z8 ez=>?_
  .obtain rfl:=has_str hx
   have Z9:=(J5.trans j).trans X;refine KO (d:=d-1) (by show V.int ((d:Int)-1)=_;congr 1;omega) ⟨p,sa,.ref wa,hv,av,y,d-1,ks,fl,hs,rs,ps,c,G2,S.pn Z9 pn,Z.pn Z9 pn,ym,by omega,λu b' H7 U l hu sd=>⟨sl 2,λt' ht'=>?_⟩⟩;have s8:=Yg ht' (.tup [.str tg,u]);exact hR _ (tg,b') _ (U.trans s8.sb) (l.same s8) (Yn Ya (Z2 Yu (Z3 (hu.mono s8)))) ⟨rfl,sd⟩
  refine⟨q1,_,rfl,.inl ⟨Z1 R3,λt1 R1=>?_⟩⟩;refine up_in R1 _ λH7 s7 g7=>?_;refine⟨sl 3,λt2 I=>?_⟩;refine up_in I _ λH8 s8 g8=>?_;have g:=s7.trans s8;have ef:=N1 ez;have lb:(zs.map (·.2)).length=ts.length:=by rw[ZA];exact ez.1
  have es:∀b'∈zs.map (·.2),RK ks (Y2 hs) (Y2 rs) (kvP ps) y (d-1) b':=λb' hb'=>by
   obtain⟨z,hz,rfl⟩:=ZU.mp hb';obtain⟨_,_,e⟩:=ez.mem hz;exact e.2
  obtain⟨ts',e',_,_,_,I3⟩:=S.ok.ok _ _ (ZH ho);cases e';refine q _ (.br e1 ts (zs.map (·.2))) H8 (((J5.trans j).trans X).trans g.sb) (G2.same g) ?_ ?_
  .unfold Rb.dat
   rw[Mm,ef]at Z8;exact Yn g8 (Z2 Yu (Z2 (Jd (λb us h=>g _ _ (J.tk X _ _ h)) _ (Bd.st _) M2) (Z3 (Yn (s8 _ _ g7) (Z8.mono g)))))
  .rw [show d=d-1+1 by omega]
   exact RK.br (S.sk _ _ (ZH ho)) J2 lb (by omega) t4 I3 es
 rintro U' H' ⟨rfl,rfl⟩;have I5:=Z.pn b1.sb pn;obtain⟨ra,xr,rfl,F5,C2⟩:=V2 I5.hh;refine⟨⟨_,Z1 F5⟩,?_⟩;have l6:=Z.l6;refine Ju (E:=hdT) (λh=>decide (h.2.2=y)) (itl (Z1 F5)) C2 (by omega) (λu x R hm hu rT rF=>?_) λva al H5 fal s5 F9 F2=>?_
 .obtain ⟨t',u',xs,rfl,ht,N2,hx⟩:=XG hu
  exact⟨_,_,Z0 ht,rfl,rfl,_,rfl,Jn (λc=>rT _ (decide_eq_true (V.str.inj (Zr c))) hu) λc=>rF (Zw λe=>c (decide_eq_true (congrArg V.str e)))⟩
 have J:=T.same s5;have I8:al≠p:=T.ne fal;have fi:∀h∈rs.filter (λh=>decide (h.2.2=y)),h∈rs/\h.2.2=y:=λh m=>⟨(ze.mp m).1,Zr (ze.mp m).2⟩
 have fl0:0<(rs.filter (λh=>decide (h.2.2=y))).length:=by
  obtain⟨h,hm,e⟩:=Z.cv y ym;exact vJ (ze.mpr ⟨hm,decide_eq_true e⟩)
 have lfi:=zN (λh:Hd=>decide (h.2.2=y)) rs;have S2:=F2.length;rw[ZA]at S2;refine⟨al,_,rfl,.inl (Z1 F9),p,sa,_,J,by omega,by omega,λr7 H7 R7 b7 l=>?_⟩;have e7:va[r7]?=some (va[r7]'(R7)):=ZC R7;obtain⟨hd,hhd,hv7⟩:=getD F2 e7;obtain⟨F7,F6⟩:=fi hd (ZH hhd);have ho:=Z.ho hd F7;obtain⟨t',u',xs,e8,ht,N2,hx⟩:=XG (Jd (J.tk b7.sb) _ (UQ _) hv7);rw[e8]at e7;have U:=(b1.sb.trans s5.sb).trans b7.sb;refine⟨_,_,Z1 (b7.sb _ _ I8 F9),Yq e7,⟨_,Z0 ht,rfl,?_⟩⟩;refine⟨⟨_,Z0 N2⟩,?_⟩;have l3:=ho.len;have R6:=Xe Z.nd F7;refine Uv (us:=hd.2.1) (D:=prD) (F:=Bd.dat) (λpr b'=>Sd ks (Y2 hs) (kvP ps) pr.2 5 b') (Pb N2 l) l hx (λu=>Dat.ni_of (X3 u)) Bd.st (by omega) (λpr x H8 R hm J4 G1 hx hR=>?_) λvs bs q1 H8 fq J4 G1 R3 Z8 ez=>?_
 .obtain ⟨t8,rfl,ht8⟩:=X8 hx
  refine⟨_,Z0 ht8,rfl,?_⟩;exact⟨p,sa,wv,av,pr.2,6,ks,fl,hs,ps,c,G1,S.pn (U.trans J4) pn,ho.kin pr hm,by decide,by decide,λu b' H9 M O hu sd=>hR _ b' _ M O hu sd⟩
 refine⟨q1,_,rfl,.inl ⟨Z1 R3,λt1 R1=>?_⟩⟩;refine up_in R1 _ λH9 s9 g9=>?_;have M:=(U.trans J4).trans s9.sb;have O:=G1.same s9;have F3:=Z8.mono s9;refine⟨rfl,_,rfl,Jn (λc1=>⟨sl 3,λt2 I=>?_⟩) (λc1=>?_)⟩
 .refine up_in I _ λI1 v g10=>?_
  refine q _ (.on hd.1 bs) I1 (M.trans v.sb) (O.same v) ?_ (RK.on (by rw[R6,<-F6]) ez (by rw[ez.1];exact l3));unfold Rb.dat;rw[Z7];exact Yn g10 (Z2 Yu (Z2 Yu (Z3 (Yn (v _ _ g9) (F3.mono v)))))
 .refine ⟨p,sa,wv,av,y,8,ks,fl,hs,ps,c,O,S.pn M pn,ym,by decide,by decide,λu1 e1 I1 J1 R8 M2 J2=>⟨sl 4,λt2 I=>?_⟩⟩
  refine up_in I _ λI0 k g11=>?_;have tk:TK H9 I0:=λb us h=>k _ _ (O.tk J1 _ _ h);refine q _ (.thn e1 hd.1 bs) I0 ((M.trans J1).trans k.sb) (R8.same k) ?_ (RK.thn J2 (by rw[R6,<-F6]) ez (by rw[ez.1];exact l3));unfold Rb.dat;rw[Z7];exact Yn g11 (Z2 Yu (Z2 (M2.mono k) (Z2 Yu (Z3 (Yn (tk _ _ g9) (VS tk _ (Y0 Bd.st bs) F3))))))
theorem EH(B:Blt Z)(F:Fun K "_law_row_body" "_law_row_body" ET f G)(O:Df P w K Z base L "_law_next" pnm (JY K))(N:Df P w K Z base L "_law_said" dps (XU K 5))(M:Binds K G bps [])(J:Z "_law_row_body"=some (.ref f)):∀m:Nat,Yk P w K Z base CX0 (L+m) f G bps (We K m)
 |0=>.none λI H Q E h=>by
  obtain⟨p,U,A,t,u,y,d,z,k,g,C,X,c,j,S,R,D,T,q⟩:=h;exact Zp T (Zu _)
 |m+1=>O5 B F (O.up (by omega)) (N.up (by omega)) (EH B F O N M J m) M J
end
end K4
namespace L2
open PySem PySem.Spec PyProof.Rows
theorem Dm(l:Addr)(items:kC)(n:Nat)(b:Addr)(o:Obj)(Z:kC)(N:Nat)(C:¬(!items.isEmpty && Builtin.List.listTooLong (items.size+Z.size))=true)(F:items.size<=sizeLine)(E:items.size+Z.size<=sizeLine+1)(B:o.cls=.type "tuple")(T:o.data=.seq Z N):
  Meets (Builtin.«list.extend» ⟨[.ref l,.ref b],[]⟩) (λ_ R s=>s.heap.get? l=some {cls:=.type "list",dict:=none,data:=.seq items n,slots:= #[]}/\s.heap.get? b=some o/\R (.ok (.ret Value.none)) {s with heap:=s.heap.update l (Obj.mapSeq λx=>x++ Z),toks:=s.toks}):=
 .of_wp λM w A R s h=>by
  obtain⟨G,dict,data,J⟩:=o;obtain rfl:G=.type "tuple":=B;obtain rfl:data=.seq Z N:=T;obtain⟨U,g,d,I,S⟩:=s;obtain⟨O,D,h⟩:=h;have Q:=AutoSeq1.sub_list_list;have P:=AutoSeq1.sub_tuple_list;have j:=AutoSeq1.sub_tuple_tuple;have X:=AutoSeq1.sub_list_tuple;have L:(items++ Z).size<=sizeLine+1:=by rw[Array.size_append];exact E
  wp_walk using(wpAny_updateSeq O rfl (hz:=F) (_hz':=L)),wpAny_loadPart' O,wpAny_loadPart' D
  exact⟨_,rfl,h⟩
def AZ:V->List V->Hp->VK->Prop:=λx G H Q=>∃l b J Z,x=.ref l/\G=[.ref b]/\H l=some (.lst J)/\H b=some (.tup Z)/\J.length+Z.length<=sizeLine/\Q .non (upd H l (.lst (J++ Z)))
theorem PZ:MtM X "list.extend" AZ:=by
 intro N s U H x m v g Q I R T h;obtain⟨l,b,t,j,rfl,rfl,O,C,k,q⟩:=h;cases R;obtain⟨u,rfl,B⟩:=T.one;cases B;obtain⟨z,J,n,r,p,e⟩:=I.lstM O;obtain⟨y,Z,M,o,P,_,S,D,A⟩:=I.hok b _ C;have E:=M.length;have L:J.toArray.size+Z.toArray.size<=sizeLine:=by rw[ZM,ZM];omega
 have G:¬(!J.toArray.isEmpty && Builtin.List.listTooLong (J.toArray.size+Z.toArray.size))=true:=by
  rw[Nh L,vi];exact Zg
 refine call_meets F.slot_list_extend ⟨_,e,rfl⟩ F.entry_list_extend (F.args_list_extend_2 _ _) (Dm l J.toArray n b o Z.toArray D G (by rw[ZM];omega) (by omega) S A) ⟨e,P,?_⟩;refine⟨.non,_,I.lset (its':=J++ Z) O e (by simp) (r.append M) ?_,rfl,q⟩;rw[ZJ];omega
end L2
namespace L2
open PySem
theorem Ni{α:Type}[DecidableEq α]:∀{xs ys:List α},xs.Nodup->(∀x∈xs,x∈ys)->xs.length<=ys.length
 |[],_,_,_=>Za _
 |x::xs,ys,nd,h=>by
  have Z:=zO.mp nd;have m:=h x ZY;have q:=Ni (xs:=xs) (ys:=ys.erase x) Z.2 λz J=>(List.mem_erase_of_ne (λe:z=x=>Z.1 (by rw[<-e];exact J))).mpr (h z (ZK _ J));rw[List.length_erase_of_mem m]at q;have:=vJ m;rw[Zd];omega
def Xw(ks:kL):kq:=ks.flatMap λk=>match k.2 with|.tags ts=>ts|.pair _ _=>[]
theorem E7(h:(y,Shp.tags Z)∈J)(m:t∈Z):t∈Xw J:=jm.mpr ⟨_,h,m⟩
theorem Wc{fl:kL}(h:∀y s,(y,s)∈fl->∃Z,s=.tags Z/\Z.length<=4):(Xw fl).length<=4*fl.length:=by
 induction fl with
 |nil=>exact ZF _
 |cons k fl ih=>
  obtain⟨y,s⟩:=k;obtain⟨Z,rfl,l⟩:=h y s ZY;have:=ih λy s m=>h y s (ZK _ m);unfold Xw at this |-;rw[vp,ZJ,Zd];show Z.length+_<=_;omega
theorem BL(J:kL)(y:Str)(Z:kq):Xw (J++[(y,.tags Z)])=Xw J++ Z:=by unfold Xw;rw[vW];simp
end L2
namespace K4
open PySem L2
section
theorem Q7:Yo ["_law_pen","_law_taken","_law_letters"] ["_law_pen","_law_taken","_law_letters"] (Yc LN):=Y3
theorem Ax:List.Nodup [("_law_word":Str),"_law_taken"]:=by decide +kernel
def FQ(K:W.Frag)(sa p:Addr)(o:Nat)(tk:kq)(H:Hp)(Q:VK):Prop:=∀(x:Str)(Z:Hp),SameB p H Z->Pen K sa Z p->x∉tk->Q (.str x) Z
inductive R9(K:W.Frag)(H:Hp)(Q:VK):List V->Prop
 |mk (p sa:Addr) (v:V) (o:Nat) (tk:List Str) (pn:Pen K sa H p) (hv:Has H v (.lst (tk.map Dat.str))) (tl:tk.length<=12) (q:FQ K sa p o tk H Q):R9 K H Q [.ref p,v,.str (alpha o)]
def MQ(K:W.Frag):Sp:=λZ H Q _=>R9 K H Q Z
theorem PH(F:Fun K "_law_free" "_law_free" LN f fd)(DS:Df P w K a base n "_law_spelt" ["_law_pen","_law_many","_law_letters"] (NS K)):Yk P w K a base CX0 (n+1) f fd ["_law_pen","_law_taken","_law_letters"] (MQ K):=by
 refine F.oi Q7 λZ8 A N s H g Q E hr h=>?_;obtain⟨p,c,v,o,Z,U,hv,tl,q⟩:=h;refine⟨_,YY (Yt (Yi Y4 (Xl ["_law_word"] [1] (VF (Yw DS hr (pa3 (pv 0) YX (pv 2)))) (VR (i:=0) (by decide)) (λz C y s H=>YZ 0 Ax rfl (Or.inl rfl) (Or.inr rfl)) (λz C y s H=>Ys (r:=rIn K true) Jr (pv 0) (pv 1) rfl) (λz C y s H=>pv 0)) YX)),?_⟩;dsimp only[Vl,Cx.nox,Cx.wish];refine⟨p,c,13,o,U,by decide,λr J H1 G M fr L ly t=>?_⟩;refine⟨⟨_,Z1 L⟩,?_⟩;obtain⟨k,xt,rfl,I,O⟩:=V2 (VC G U _ (Jc (Y0 (λx=>by unfold Dat.st;rfl) Z)) hv);obtain rfl:=X9 O;refine Ju (us:=J) (D:=Dat.str) (E:=Dat.str) (λx=>decide (x∉Z)) (itl (Z1 L)) (VZ J) (by omega) (λu x R hm hu d b=>?_) λg l H2 fl S X B=>?_
 .obtain rfl:=has_str hu
  refine⟨k,_,rfl,.inl (Z1 I),rfl,Jm _,_,rfl,?_⟩;rw[UA]
  by_cases m:u∈Z
  .exact Y9 (by simp[m]) (b (by simp[m]))
  .exact V1 (by simp[m]) (d _ (by simp[m]) Yu)
 .obtain rfl:=X9 B
  cases e:J.filter λx=>decide (x∉Z)with
  |nil=>
   have:J.length<=Z.length:=Ni t.nd λx T=>Classical.not_not.mp λm=>by
    have:x∈J.filter λx=>decide (x∉Z):=ze.mpr ⟨T,decide_eq_true m⟩;rw[e]at this;cases this
   omega
  |cons x r=>
   rw[e]at X;have T:x∈J.filter λx=>decide (x∉Z):=by rw[e];exact ZY
   exact⟨_,_,Z1 X,Yq (j:=0) rfl,q x H2 (G.trans S.sb) (M.same S) (Zr (ze.mp T).2)⟩
theorem Iy:Yo ["_law_pen","_law_taken"] ["_law_pen","_law_taken"] (Yc Mz):=Y3
inductive Ew(K:W.Frag)(H:Hp)(Q:VK):List V->Prop
 |mk (p sa:Addr) (v:V) (tk:List Str) (pn:Pen K sa H p) (hv:Has H v (.lst (tk.map Dat.str))) (tl:tk.length<=12) (q:FQ K sa p 97 tk H Q):Ew K H Q [.ref p,v]
def XT(K:W.Frag):Sp:=λZ H Q _=>Ew K H Q Z
theorem FR(F:Fun K "_law_small_word" "_law_small_word" Mz f T)(D:Df P w K N base n "_law_free" ["_law_pen","_law_taken","_law_letters"] (MQ K)):Yk P w K N base CX0 (n+1) f T ["_law_pen","_law_taken"] (XT K):=by
 refine F.oi Iy λB A Z s H I Q E R h=>?_;obtain⟨p,L,v,G,M,O,J,q⟩:=h;refine⟨_,YY (Yt (Yw D R (pa3 (pv 0) (pv 1) Y7))),?_⟩;have z:=R9.mk (K:=K) (H:=H) p L v 97 G M O J q;rw[<-Wh]at z;exact z
theorem Gr:Yo ["_law_kinds_here","_law_found","_law_kind","_law_shape"] ["_law_kinds_here"] (Yc Ww):=Y3
inductive L8(H:Hp)(Q:VK):List V->Prop
 |mk (v:V) (ks:List (Str×Shp)) (hv:Has H v (.lst (ks.map Vq))) (hn:ks.length<=6) (ht:∀y s,(y,s)∈flat ks->∃ts,s=.tags ts/\ts.length<=4) (q:∀l H',Same H H'->H' l=some (.lst ((Xw (flat ks)).map V.str))->Q (.ref l) H'):L8 H Q [v]
def MK:Sp:=λZ H Q _=>L8 H Q Z
theorem Kt(F:Fun K "_law_tags_told" "_law_tags_told" Ww f fd)(DL:Df P w K mg base n "_law_flat_kinds" ["_law_kinds_here"] Xy):Yk P w K mg base CX0 (n+1) f fd ["_law_kinds_here"] MK:=by
 refine F.oi Gr λJ1 A R s H vs Q E hr h=>?_;obtain⟨v,J,hv,hn,S,q⟩:=h;refine⟨_,YW (Ym 1 Gr.nd (Vs Vi))
  (YW (Vo Zt rfl (VF (Yw DL hr (pa1 (pv 0)))) (VE (n:=2) rfl (Ye (YZ 2 Gr.nd) (Ye (YZ 3 Gr.nd) Y6)))
   (YY (VO (Jk Zx yI yJ PZ (pv 1) (pa1 (Yi Yl (pv 3) YX))))))
  (YY (Yt (pv 1)))),?_⟩
 dsimp only[Vl,Cx.nox,Cx.wish];show let T0:=_;let T1:=_;let T2:=Yh (Jx _ _ T1) T0;Yh _ T2 _ _ _
 intros
 refine⟨sl 0,λl g=>?_⟩;refine up_in g _ λH1 j C=>?_;refine⟨v,J,hv.mono j,by omega,λfa d c X O L G=>?_⟩;have T:fa≠l:=(Yf C X).symm;have lf:=zN Su J;have Z8:(flat J).length<=6:=by unfold flat;omega
 have lx:=G.length;rw[ZA]at lx;have Z9:=Wc S;refine⟨⟨_,Z1 L⟩,?_⟩
 let I:kH:=λi U Z=>(∀b o,b≠l->c b=some o->Z b=some o)/\Z l=some (.lst ((Xw ((flat J).take i)).map V.str))/\∃N M:kJ,U=[some v,some (.ref l),N,M]
 refine Ua (xs:=d) I ⟨λb o _ e=>e,O _ _ C,_,_,rfl⟩ (λi U Z _ z=>Z1 (z.1 _ _ T L)) ?_ ?_
 .rintro BB RR i x U Z hx ⟨fi,hli,N,M,rfl⟩
  obtain⟨k,p,B⟩:=getD G hx;obtain⟨y,r⟩:=k;obtain⟨ts,rfl,t4⟩:=S y r (ZH p);have u:TK c Z:=λb us h=>fi b _ (JR h (O _ _ C) (by intro z;cases z)) h;obtain⟨a,w',rfl,ha,hw⟩:=Jt (Jd u _ (Vc _) B);obtain⟨b,t,rfl,hb,D⟩:=Jg hw;refine⟨_,Z0 ha,rfl,?_⟩;refine⟨.inl ⟨rfl,_,Z1 hli⟩,_,_,Z0 hb,rfl,l,t,_,_,rfl,rfl,hli,D,?_,?_⟩
  .have:=Wc (fl:=(flat J).take i) λy s m=>S y s (Zi m)
   rw[ZL]at this;rw[ZA,ZA];exact Zf (Yp (by omega))
  .refine ⟨λb o n e=>by rw[Yd n];exact fi b o n e,?_,_,_,rfl⟩
   rw[Ya,take_snoc p,BL,ZI]
 .rintro U Z ⟨fi,hli,N,M,rfl⟩
  rw[Ze (by omega)]at hli;exact q l Z (λb o e=>fi b o (Yf e g) (O _ _ (j _ _ e))) hli
theorem KB:Yo ["_law_kinds_here","_law_row"] ["_law_kinds_here","_law_row"] (Yc M0):=Y3
theorem LB:List.Nodup [("_law_word":Str),"_law_own","_law_kinds_here"]:=by decide +kernel
end
end K4
namespace L2
open PySem
theorem Uu{α:Type}{us:List α}{D F:α->Dat}(O:∀Z,Same H Z->Itx J Z T)(A:HasL H T (us.map D))(j:us.length<=10000)(U:∀u x N (R:V->Hp->Prop),u∈us->Same H N->Has N x (D u)->(∀v M,Same N M->Has M v (F u)->R v M)->g x s0 N λL P=>te L P R)(C:∀G q Z,H q=none->Same H Z->Z q=some (.lst G)->HasL Z G (us.map F)->Q (.ref q) Z):MA J g te s0 Q H:=by
 have E:=A.length;rw[ZA]at E;refine JG T.length (Wi (by omega)) (λi G Z=>Same H Z/\G.length=i/\HasL Z G ((us.take i).map F)) ⟨Z6 _,rfl,Z4⟩ (λi G Z z=>z.2.1) ?_ ?_ ?_ ?_
 .rintro i G Z hi ⟨s,_⟩
  exact(O Z s).go i hi
 .rintro G Z ⟨s,_⟩
  exact(O Z s).stop
 .rintro i G Z x H'' R hi ⟨s,z2,z3⟩ yl rT
  obtain⟨rfl,y⟩:=(O Z s).yld i x H'' yl;obtain⟨u,I,S⟩:=getD A y;refine U u x _ R (ZH I) s (S.mono s) λv M B X=>rT _ _ ⟨s.trans B,by rw[ZJ,z2];rfl,?_⟩;rw[take_snoc I,ZI];exact Z5 (z3.mono B) (Z3 X)
 .rintro G Z q ⟨s,z2,z3⟩ hq
  rw[Ze (yq E.symm)]at z3;have L:=Yg hq (.lst G);exact C G q _ (s.free hq) (s.trans L) Ya (z3.mono L)
abbrev Rw:=Hd×Rb
def Vz(x:Rw):Dat:=.tup [.str x.1.1,psD x.1.2.1,.str x.1.2.2,x.2.dat]
theorem V5(x:Rw):(Vz x).st=true:=by unfold Vz;simp[Dat.st,Dat.sts,Mq,Rb.st]
theorem JT(h:Has H v (Vz x)):∃t u Z w,v=.ref t/\H t=some (.tup [.str x.1.1,.ref u,.str x.1.2.2,w])/\H u=some (.tup Z)/\HasL H Z (x.1.2.1.map prD)/\Has H w x.2.dat:=by
 unfold Vz at h;obtain⟨t,I,rfl,T,B⟩:=Yz h;obtain⟨C,j,rfl,A,M⟩:=Yb B;obtain⟨U,Q,rfl,F,L⟩:=Yb M;obtain⟨S,P,rfl,E,G⟩:=Yb L;obtain⟨N,X,rfl,D,J⟩:=Yb G;obtain rfl:=VD J;obtain rfl:=has_str A;obtain rfl:=has_str E;obtain⟨u,Z,rfl,R,O⟩:=Yz F;exact⟨t,u,Z,N,rfl,T,R,O,D⟩
def Ug(ks:kL)(y:Str):Str:=match VG ks y with|some (.tags (t::_))=>t|_=>""
def Vp(ks:kL)(ps:List (Str×Str)):List Bd:=ps.map λp=>.tag (Ug ks p.2)
def FlK(ks:kL)(ns:kq):Prop:=∀y∈ns,∃Z,VG ks y=some (.tags Z)/\1<=Z.length/\Z.length<=4
theorem FlK.at(f:FlK Z G)(m:y∈G):∃r,VG Z y=some (.tags (Ug Z y::r)):=by
 obtain⟨J,h,l,_⟩:=f y m
 cases J with
 |nil=>cases l
 |cons t r=>exact⟨r,by unfold Ug;rw[h]⟩
theorem Xv.flk(k:Xv Z c d):FlK Z ((flat Z).map (·.1)):=λy m=>by
 obtain⟨⟨G,s⟩,J,rfl⟩:=ZU.mp m;obtain⟨L,rfl,_,N,M,_⟩:=k.fl.ok G s J;exact⟨L,UH k.nd (ze.mp J).1,N,M⟩
structure zG(ks fl:List (Str×Shp))(hs:List Hd)(c:Str->Nat)(rs:List Rw):Prop where
 f:fl.length<=rs.length
 l6:rs.length<=6
 wd:Wds 97 (rs.map λx=>x.1.1)
 ho:∀x∈rs,UW (fl.map (·.1)) c 24 x.1
 to:tot c (rs.map (·.1))<=24
 cv:∀y∈fl.map (·.1),∃x∈rs,x.1.2.2=y
 rk:∀x∈rs,RK ks (Y2 hs) (Y2 (rs.map (·.1))) (kvP x.1.2.1) x.1.2.2 2 x.2
end L2
namespace K4
open PySem L2
section
inductive Ey(H:Hp)(Q:VK):List V->Prop
 |mk (v r:V) (ks:List (Str×Shp)) (x:Rw) (hv:Has H v (.lst (ks.map Vq))) (hn:ks.length<=6) (hr:Has H r (Vz x)) (fk:FlK ks (x.1.2.1.map (·.2))) (l3:x.1.2.1.length<=3) (q:∀u H',Same H H'->Has H' u (.tup ((Vp ks x.1.2.1).map Bd.dat))->Q u H'):Ey H Q [v,r]
def WH:Sp:=λZ H Q _=>Ey H Q Z
theorem FS(B:Blt z)(F:Fun K "_law_plain_given" "_law_plain_given" M0 f fd)(DT:Df P w K z base n "_law_tags_of" ["_law_kinds_here","_law_kind"] J7):Yk P w K z base CX0 (n+1) f fd ["_law_kinds_here","_law_row"] WH:=by
 refine F.oi KB λZ8 A L s H X Q E b h=>?_;obtain⟨v,r,m,x,d,hn,Z,fk,l3,q⟩:=h;refine⟨_,YY (Yt (VA VW rfl B.tuple Vm (pa1 (Vh ["_law_word","_law_own"] [0] (JH (Yi Yl (pv 1) YX)) J3 (λcl C fp s H=>VE (n:=2) rfl (Ye (YZ 0 LB rfl (Or.inl rfl) (Or.inr rfl)) (Ye (YZ 1 LB rfl (Or.inl rfl) (Or.inr rfl)) Y6)))
  (λcl C fp s H=>Yx (pa2 Y7 (Yi (r:=J9 K) Yl (Yw DT b (pa2 (pv 2) (pv 1))) YX))))))),?_⟩
 dsimp only[Vl,Cx.nox,Cx.wish];obtain⟨t,u,xs,w',rfl,l,g,c,_⟩:=JT Z;refine⟨_,_,Z0 l,rfl,⟨_,Z0 g⟩,?_⟩;refine Uu (us:=x.1.2.1) (D:=prD) (F:=λp=>(Bd.tag (Ug m p.2)).dat) (λH' s=>itt (Z0 (s _ _ g))) c (by omega) (λy x' H1 R o G e i=>?_) λX k H1 fq G S N=>?_
 .obtain ⟨t8,rfl,ht8⟩:=X8 e
  refine⟨_,Z0 ht8,rfl,?_⟩;obtain⟨rt,U⟩:=fk.at (ZU.mpr ⟨y,o,rfl⟩);refine⟨v,y.2,m,_,d.mono G,by omega,U,λrv H2 J a=>?_⟩;obtain⟨tv,xt,rfl,O,M⟩:=Yz a;obtain rfl:=X9 M;refine⟨_,_,Z0 O,Yq (j:=0) rfl,sl 2,λt9 T=>?_⟩;exact i _ _ (J.trans (Yg T _)) (by unfold Bd.dat;exact U0 Ya)
 .refine ⟨k,_,rfl,.inl ⟨Z1 S,λt1 I=>?_⟩⟩
  have J:=Yg I (.tup X);refine q _ _ (G.trans J) (Yn Ya ?_);unfold Vp;rw[za];exact N.mono J
theorem U5:Yo ["_law_pen","_law_world_here","_law_heads_here","_law_found","_law_name","_law_parameters","_law_own","_law_body_here"] ["_law_pen","_law_world_here"] (Yc LJ):=Y3
inductive L9(K:W.Frag)(H:Hp)(Q:VK):List V->Prop
 |mk (p sa:Addr) (wv:V) (ks fl:List (Str×Shp)) (hs:List Hd) (c:Str->Nat) (pn:Pen K sa H p) (w:Wld H wv ks fl hs c)
  (q:∀(l:Addr)(xs:List V)(rs:List Rw)(H':Hp),SameB p H H'->Pen K sa H' p->H l=none->H' l=some (.lst xs)->HasL H' xs (rs.map Vz)->zG ks fl hs c rs->Q (.ref l) H'):L9 K H Q [.ref p,wv]
def ML(K:W.Frag):Sp:=λZ H Q _=>L9 K H Q Z
theorem Kv(B:Blt mg)(F:Fun K "_law_rows_drawn" "_law_rows_drawn" LJ f fd)(DH:Df P w K mg base n "_law_row_heads" ["_law_pen","_law_flat_here"] (BQ K))(DB:Df P w K mg base n "_law_row_body" bps (We K 3)):Yk P w K mg base CX0 (n+1) f fd ["_law_pen","_law_world_here"] (ML K):=by
 refine F.oi U5 λR8 A G1 s H vs Q E hr h=>?_;obtain⟨p,sa,wv,ks,fl,hs,c,pn,wl,q⟩:=h;refine⟨_,YW (Ym 2 U5.nd (Yw DH hr (pa2 (pv 0) (Yi Yl (pv 1) YX))))
  (YW (Ym 3 U5.nd (Vs Vi))
  (YW (Vo Zt rfl (VF (pv 2)) (VE (n:=3) rfl (Ye (YZ 4 U5.nd) (Ye (YZ 5 U5.nd) (Ye (YZ 6 U5.nd) Y6))))
   (YW (Ym 7 U5.nd (Yw DB hr (pa6 (pv 0) (pv 1) (pv 2) (VA V3 rfl B.list Vw (pa1 (pv 5))) (pv 6) YX)))
   (YY (VO (Jk Zx Zy Zz Vj (pv 3) (pa1 (Yx (pa4 (pv 4) (pv 5) (pv 6) (pv 7)))))))))
  (YY (Yt (pv 3))))),?_⟩
 dsimp only[Vl,Cx.nox,Cx.wish];show let T0:=_;let T1:=_;let T2:=Yh _ T1;let T3:=Yh (Jx _ _ T2) T0;let T4:=Yh _ T3;Yh _ T4 _ _ _
 intros
 obtain⟨wa,fa,ha,xf,xh,rfl,M2,R4,L1,R7,a⟩:=wl.at;refine⟨_,_,Z0 M2,rfl,?_⟩;refine⟨p,sa,.ref fa,fl,c,pn,VQ R4 L1,wl.ok,λhl xr g H1 G M R5 D R Z8 l6 J T J1 Z9=>?_⟩;have R6:=Y0 UQ g;have v:hl≠p:=pn.ne R5;have G2:=R.length;rw[ZA]at G2;refine⟨sl 0,λl R3=>?_⟩;have N:=Lb.new M R3;generalize upd H1 l (.lst [])=H2 at N |-;refine⟨⟨_,Z1 (N.sb _ _ v D)⟩,?_⟩;have J2:RWd H1 (.ref hl) fl g c:=⟨VQ D R,J.nd,l6,T,λy m=>Z9.all Z8 m⟩
 let I:kH:=λi U C=>∃L:List Rw,Lb K sa H1 p l (L.map Vz) C/\L.map (·.1)=g.take i/\(∀x∈L,RK ks (Y2 hs) (Y2 g) (kvP x.1.2.1) x.1.2.2 2 x.2)/\∃z4 z5 z6 z7:kJ,U=[some (.ref p),some (.ref wa),some (.ref hl),some (.ref l),z4,z5,z6,z7]
 refine Ua (xs:=xr) I ⟨[],N,rfl,(λx m=>nomatch m),_,_,_,_,rfl⟩ (λi U C _ z=>let⟨_,h,_⟩:=z;Z1 (h.sb _ _ v D)) ?_ ?_
 .rintro BB RR i x U C hx ⟨L,lb,ers,rk,z4,z5,z6,z7,rfl⟩
  obtain⟨h,hh,a⟩:=getD R hx;have hm:=ZH hh;have ho:=T h hm;have il:=(ZE.mp hh).1;obtain⟨t,u,xs,rfl,ht,hu,o⟩:=XG (Jd (M.tk lb.sb) _ (UQ _) a);refine⟨_,Z0 ht,rfl,?_⟩;refine⟨u,_,rfl,.inr (Z0 hu),λla R1=>?_⟩;refine up_in R1 _ λH3 S g3=>?_;have k:=lb.pn.same S;refine⟨p,sa,.ref wa,.ref hl,.ref la,h.2.2,2,ks,fl,hs,g,h.2.1,c,k,((wl.pn (G.trans lb.sb) pn).sm S).sw (VQ g3 (o.mono S)) ho.nd ho.len,J2.pn (lb.sb.trans S.sb) M,ho.own,by decide,λub b H4 X J5 hb J4=>?_⟩;have r:=(lb.sm S).mv X J5;obtain⟨z0,Z,O,_⟩:=r.zs;refine⟨.inl ⟨rfl,_,Z1 Z⟩,sl 4,λt1 N2=>?_⟩;refine up_in N2 _ λH5 j g5=>?_;have lr:=congrArg List.length ers;rw[ZA,ZL]at lr;have ln:=O.length;rw[ZA]at ln;refine⟨l,_,_,rfl,rfl,j _ _ Z,Yp (by omega),?_⟩;have tk:TK C H5:=λb us e=>j _ _ (k.tk X _ _ (S _ _ e));have G3:=(r.sm j).ap (d:=Vz (h,b)) (j _ _ Z) (Yn g5 (Z2 Yu (Z2 (Yn (tk _ _ hu) (VS tk _ (Y0 X3 _) o)) (Z2 Yu (Z3 (hb.mono j)))))) (V5 _);refine⟨L++[(h,b)],by rw[ZI];exact G3,by rw[ZI,ers,take_snoc hh];rfl,λx hx=>?_,_,_,_,_,rfl⟩;rcases ZV.mp hx with m|m
  .exact rk x m
  .rw [ZO.mp m];exact J4
 .rintro U C ⟨L,lb,ers,rk,z4,z5,z6,z7,rfl⟩
  rw[Ze (by omega)]at ers;obtain⟨z0,Z,O,_⟩:=lb.zs;have lr:=congrArg List.length ers;rw[ZA]at lr;refine q l z0 L C (G.trans lb.sb) lb.pn (G.free lb.np lb.fl) Z O ⟨by omega,by omega,?_,λx m=>T _ (by rw[<-ers];exact ZU.mpr ⟨x,m,rfl⟩),by rw[ers];exact J1,λy m=>?_,by rw[ers];exact rk⟩
  .rw [<-ers,za]at J
   exact J
  .obtain ⟨h,hm,e⟩:=Z9.all Z8 m
   rw[<-ers]at hm;obtain⟨x,hx,rfl⟩:=ZU.mp hm;exact⟨x,hx,e⟩
end
end K4
namespace L2
open PySem
theorem Dz(e:TK H L){ws:List (kz)}(h:HasL H Z (ws.map TF)):HasL L Z (ws.map TF):=G8 (λu v J=>by
 obtain⟨a,rfl,G⟩:=M5 J;exact MF (e _ _ G)) h
theorem Bd.nl_at:∀(w:kz)(b c:Bd),b.nl->b.at w=some c->c.nl
 |[],b,c,h,e=>by unfold Bd.at at e;cases e;exact h
 |i::w,b,c,h,e=>by
  unfold Bd.at at e
  split at e
  .split at e
   .rename_i c' hc'
    refine Bd.nl_at w _ c ?_ e;have m:=ZH hc'
    cases b with
    |tag t=>cases m
    |name x=>cases m
    |pair a e=>
     unfold Bd.nl at h;simp only[Bd.parts,Zb,zT,or_false]at m;rcases m with rfl|rfl
     .exact h.1
     .exact h.2
    |one e=>unfold Bd.nl at h;simp only[Bd.parts,ZO]at m;rw[m];exact h
    |other e=>unfold Bd.nl at h;simp only[Bd.parts,ZO]at m;rw[m];exact h
    |choose e Z J=>
     unfold Bd.nl at h;simp only[Bd.parts,Zb]at m;rcases m with rfl|m
     .exact h.1
     .exact Bd.nls_iff.mp h.2 _ m
    |ask f G=>unfold Bd.nl at h;exact Bd.nls_iff.mp h _ m
    |letb x k e g=>unfold Bd.nl at h;exact h.elim
   .cases e
  .cases e
theorem Bd.nl_word{b:Bd}(h:b.nl):b.word≠"let":=by
 cases b with
 |letb x k e g=>unfold Bd.nl at h;exact h.elim
 |_=>dsimp only[Bd.word];decide +kernel
end L2
namespace K4
open PySem L2
section
theorem WK:Yo ["body","found","number","part"] ["body"] (Yc Gv):=Y3
theorem A1:List.Nodup [("place":Str),"number"]:=by decide +kernel
inductive SPl(n:Nat)(H:Hp)(Q:VK):List V->Prop
 |mk (v:V) (b:Bd) (hv:Has H v b.dat) (ok:b.ok) (dn:b.dep<n) (d20:b.dep<=20) (sz:b.size<=9000) (q:∀(r:Addr)(H':Hp),Same H H'->Has H' (.ref r) (.lst (b.places.map TF))->Q (.ref r) H'):SPl n H Q [v]
def E9(n:Nat):Sp:=λZ H Q _=>SPl n H Q Z
theorem Ak(me:N "enumerate"=none)(F:Fun K "places" "places" Gv f X)(G:Yk P w K N base CX0 m f X ["body"] (E9 n))(bG:Binds K X ["body"] [])(mG:N "places"=some (.ref f))(DP:Df P w K N base m "parts" ["body"] U3):Yk P w K N base CX0 (m+1) f X ["body"] (E9 (n+1)):=by
 have DG:Df P w K N base m "places" ["body"] (E9 n):=⟨f,X,mG,F.kp,bG,G⟩;refine F.oi WK λL1 A Z9 s H vs Q E hr h=>?_;obtain⟨v,b,hv,ok,dn,G3,sz,q⟩:=h;refine⟨_,YW (Ym 1 WK.nd (Vs (pa1 (Yx Vi))))
  (YW (Vo Zt rfl (U9 rfl me (pa1 (Yw DP hr (pa1 (pv 0))))) (VE (n:=2) rfl (Ye (YZ 2 WK.nd (hx:=Or.inr rfl)) (Ye (YZ 3 WK.nd) Y6)))
   (YY (VO (Jk Zx yI yJ Wt (pv 1) (pa1 (Vh ["place"] [2] (VF (Yw DG hr (pa1 (pv 3)))) (VR (i:=0) (by decide)) (λcl C fp s H=>YZ 0 A1 rfl (Or.inl rfl) (Or.inr rfl))
    (λcl C fp s H=>Y1 (r:=GS K) WS (Yx (pa1 (pv 1))) (pv 0))))))))
  (YY (Yt (pv 1)))),?_⟩
 dsimp only[Vl,Cx.nox,Cx.wish];show let T0:=_;let T1:=_;let T2:=Yh (Jx _ _ T1) T0;Yh _ T2 _ _ _
 intros
 refine⟨sl 0,λt0 J4=>?_⟩;refine up_in J4 _ λH1 l g1=>?_;refine⟨sl 1,λZ T=>?_⟩;refine up_in T _ λH2 d g2=>?_;refine⟨v,b,rfl,(hv.mono l).mono d,ok,λu H3 p J2=>?_⟩;obtain⟨a,xs,rfl,ha,L⟩:=Yz J2;have lx:=L.length;rw[Z7]at L;rw[Z7,ZA]at lx;have g3:=p _ _ g2;have J1:a≠Z:=JR ha g3 (by intro z;cases z);have Z8:=(l.trans d).trans p;have fH:H Z=none:=l.free T;refine⟨a,true,xs,rfl,Z0 ha,?_⟩
 let I:kH:=λi U J=>(∀b o,b≠Z->H3 b=some o->J b=some o)/\∃M,J Z=some (.lst M)/\HasL J M (([]::Bd.pls 0 (b.parts.take i)).map TF)/\∃y j:kJ,U=[some v,some (.ref Z),y,j]
 refine Xq (tp:=true) (xs:=xs) I ⟨λb o _ e=>e,_,g3,Z3 (MF (ws:=[]) (p _ _ (d _ _ g1))),_,_,rfl⟩ (λi U J _ z=>Z0 (z.1 _ _ J1 ha)) ?_ ?_
 .rintro BB RR i x U J r hx ⟨fi,M,hfi,hzi,y,j,rfl⟩ hr'
  refine up_in hr' _ λHR k gR=>?_;have g:TK H3 J:=λb us h=>fi b _ (JR h g3 (by intro z;cases z)) h;obtain⟨c,hc,G2⟩:=getD L hx;have S:=ZH hc;have dc:=Bd.dep_mem S;have le:=Bd.part_le hc;rw[Bd.places_len _ b (ZF _),Bd.places_len _ c (ZF _)]at le;refine⟨_,Z0 gR,rfl,?_⟩;refine⟨.inl ⟨rfl,_,Z1 (k _ _ hfi)⟩,?_⟩;refine⟨x,c,(Jd g _ (Bd.st _) G2).mono k,Bd.ok_parts ok c S,by omega,by omega,by omega,λr2 H4 s4 h4=>?_⟩;obtain⟨_,os,er,ho,G1⟩:=V2 h4;cases er;refine⟨⟨_,Z1 ho⟩,?_⟩;refine Uu (us:=c.places) (D:=TF) (F:=λw=>TF (((i:Nat):Int)::w)) (λH' s=>itl (Z1 (s _ _ ho))) G1 (by rw[Bd.places_len _ c (ZF _)];omega) (λw x H5 R hm s5 hx hR=>?_) λvs q1 H5 fq s5 J5 O=>?_
  .obtain ⟨pw,rfl,hpw⟩:=M5 hx
   exact⟨sl 1,Px hpw (ZZ (Bd.way_len _ c (ZF _) w hm) (by omega)) λt H6 s6 ht=>hR _ _ s6 (MF ht)⟩
  .have sA:=(k.trans s4).trans s5
   have B:=sA _ _ hfi;have lz:=hzi.length;rw[ZA,Zd]at lz;have lv:=O.length;rw[ZA,Bd.places_len _ c (ZF _)]at lv;refine⟨Z,q1,_,_,rfl,rfl,B,J5,Zf (Wi (by omega)),?_⟩;have tk:TK H5 (upd H5 Z (.lst (M++ vs))):=Ue B λxs z=>nomatch z
   refine⟨λb o n e=>by rw[Yd n];exact sA _ _ (fi b o n e),_,Ya,?_,_,_,rfl⟩;rw[Bd.pls_snoc hc,<-yT,ZI];refine Z5 (Dz tk (hzi.mono sA)) ?_;rw[za];have:=Dz tk (ws:=c.places.map λw=>((i:Nat):Int)::w) (by rw[za];exact O);rw[za]at this;exact this
 .rintro U J ⟨fi,M,hfi,hzi,y,j,rfl⟩
  rw[lx,zS,<-Bd.places_eq]at hzi;exact q Z J (λb o e=>fi b o (Yf e fH) (Z8 _ _ e)) (VQ hfi hzi)
theorem QI(J:Z "enumerate"=none)(F:Fun K "places" "places" Gv f L)(M:Binds K L ["body"] [])(G:Z "places"=some (.ref f))(N:Df P w K Z base 1 "parts" ["body"] U3):∀n,Yk P w K Z base CX0 (1+n) f L ["body"] (E9 n)
 |0=>.none λT H Q E h=>by
  obtain⟨v,b,A,D,O,R,B,q⟩:=h;exact Zp O (Zu _)
 |n+1=>Ak (m:=1+n) J F (QI J F M G N n) M G (N.up (by omega))
theorem Xj:Yo ["body","place","part","number"] ["body","place"] (Yc Te):=Y3
inductive Ez(H:Hp)(Q:VK):List V->Prop
 |mk (v:V) (a:Addr) (b c:Bd) (ws:List Int) (hv:Has H v b.dat) (ok:b.ok) (ha:H a=some (.tup (ws.map V.int))) (hc:b.at ws=some c) (q:∀u H',Same H H'->Has H' u c.dat->Q u H'):Ez H Q [v,.ref a]
def Wf:Sp:=λZ H Q _=>Ez H Q Z
theorem DE(F:Fun K "part_at" "part_at" Te f l)(DP:Df P w K j base n "parts" ["body"] U3):Yk P w K j base CX0 (n+1) f l ["body","place"] Wf:=by
 refine F.oi Xj λZ8 A L s H vs Q E g h=>?_;obtain⟨v,a,b,c,R,t,X,B,k,q⟩:=h;refine⟨_,YW (Ym 2 Xj.nd (pv 0)) (YW (Vo Zt rfl (JH (pv 1)) (YZ 3 Xj.nd)
  (YY (Ym 2 Xj.nd (Yi Yl (Yw DP g (pa1 (pv 2))) (pv 3) (λ_ _=>rfl)))))
  (YY (Yt (pv 2)))),?_⟩
 dsimp only[Vl,Cx.nox,Cx.wish];show let T0:=_;let T1:=_;let T2:=Yh (Jx _ _ T1) T0;Yh _ T2 _ _ _
 intros
 refine EA rfl ?_;refine⟨⟨_,Z0 B⟩,?_⟩
 let I:kH:=λi U J=>Same H J/\∃u z Z,U=[some v,some (.ref a),some u,z]/\Has J u (Bd.dat Z)/\Z.ok/\Z.at (R.drop i)=some c
 refine RF (xs:=R.map V.int) I ⟨Z6 _,v,none,b,rfl,t,X,k⟩ (λi U J _ z=>Z0 (z.1 _ _ B)) ?_ ?_
 .rintro BB RR i x U J hx ⟨sj,u,z,Z,rfl,hu,okb,e⟩
  obtain⟨m,r,rfl,e1,o,hm⟩:=Fq hx;rw[e1]at e;unfold Bd.at at e
  by_cases hm0:0<=m
  case neg=>rw[Zo hm0]at e;cases e
  rw[Zn hm0]at e
  cases hp:Z.parts[m.toNat]? with
  |none=>rw[hp]at e;cases e
  |some S=>
   rw[hp]at e;refine⟨u,Z,rfl,hu,okb,λu2 H2 C p=>?_⟩;obtain⟨p2,xs,rfl,N,O⟩:=Yz p;rw[Z7]at O;have y:=O.length;rw[ZA]at y;have hi:=(ZE.mp hp).1;have G:m.toNat<xs.length:=by omega
   obtain⟨d,T,M⟩:=getD O (ZC G);rw[hp]at T;cases T;have D:=Yq (ZC G);rw[show((m.toNat:Nat):Int)=m by omega]at D;exact⟨_,xs[m.toNat],Z0 N,D,sj.trans C,_,_,S,rfl,M,Bd.ok_parts okb S (ZH hp),by rw[o];exact e⟩
 .rintro U J ⟨sj,u,z,Z,rfl,hu,okb,e⟩
  rw[ZA,List.drop_length]at e;unfold Bd.at at e;cases e;exact q u J sj hu
end
end K4
namespace L2
open PySem
structure BE(H:Hp)(C CK t:Addr)(ks:List (Str×Shp))(c d:Str->Nat)(ds:List Dd):Prop where
 bi:BI H C CK t ks d ds
 kk:KK 30 c d ks
 hk:HK (ks.map (·.1)) (Y2 (ds.map (·.1)))
 pl:∀x∈ds,x.1.2.1.length<=3
 k6:ks.length<=6
theorem BE.mono(b:BE H C L t Z c d J)(s:Same H G):BE G C L t Z c d J:={b with bi:=b.bi.mono s}
structure Bo(b:Bd):Prop where
 ok:b.ok
 dep:b.dep<=4
 nl:b.nl
theorem Bo.size(h:Bo b):b.size<=9000:=ZZ (Bd.size_le 4 b h.dep h.ok) (by decide)
theorem Sd.bo(h:Sd J G Z y 5 b):Bo b:=⟨h.ok,Nat.le_of_lt_succ h.dep,h.nl⟩
end L2
namespace K4
open PySem L2
section
variable{C CK:Addr}
theorem Ta:Yo ["book","around","body","kind","place"] ["book","around","body"] (Yc MW):=Y3
inductive SKW(C CK:Addr)(H:Hp)(Q:VK):List V->Prop
 |mk (t a:Addr) (v:V) (ks:List (Str×Shp)) (c d:Str->Nat) (ds:List Dd) (kv:List (Key×V)) (b:Bd) (be:BE H C CK t ks c d ds) (nk:NK (ks.map (·.1)) kv) (ha:Rd H a (.dK kv)) (k3:kv.length<=3) (hv:Has H v b.dat) (bo:Bo b) (q:∀H',Same H H'->Q (Uq (kdn ks (Y2 (ds.map (·.1))) 13 kv b)) H'):SKW C CK H Q [.ref t,.ref a,v]
def BS(C CK:Addr):Sp:=λZ H Q _=>SKW C CK H Q Z
theorem Am(F:Fun K "kind_within" "kind_within" MW f D)(j:Df P w K N base n "kind_or_place" ["book","around","body"] (TU C CK 13)):Yk P w K N base CX0 (n+1) f D ["book","around","body"] (BS C CK):=by
 refine F.oi Ta λS A J s H y Q E G h=>?_;obtain⟨t,a,v,R,c,d,I,O,b,Z,M,B,z,T,L,q⟩:=h;refine⟨_,YW (JP (Yw j G (pa3 (pv 0) (pv 1) (pv 2))) (VE (n:=2) rfl (Ye (YZ 3 Ta.nd) (Ye (YZ 4 Ta.nd) Y6)))) (YY (Yt (pv 3))),?_⟩;show let U:=_;Yh _ U _ _ _
 intros
 have:=L.dep;exact⟨t,a,v,R,c,d,I,O,b,rfl,Z.bi,Z.kk,Z.hk,M,Z.pl,B,by omega,T,L.ok,by omega,by decide,λr p X s G _=>⟨_,Z0 G,rfl,q X s⟩⟩
theorem NU:Yo ["book","around","body","lets"] ["book","around","body"] (Yc Mj):=Y3
theorem A2:List.Nodup [("place":Str),"body"]:=by decide +kernel
theorem QO:List.Nodup [("part":Str)]:=by decide +kernel
theorem Aq(B:Blt O)(F:Fun K "kind_around" "kind_around" Mj f fd)(DW:Df P w K O base n "kind_within" ["book","around","body"] (BS C CK))(DL:Df P w K O base n "places" ["body"] (E9 5))(DA:Df P w K O base n "part_at" ["body","place"] Wf)(DN:Df P w K O base n "is_name" ["text"] (Uh 97)):Yk P w K O base CX0 (n+1) f fd ["book","around","body"] (BS C CK):=by
 refine F.oi NU λZ9 A m s H S Q E X h=>?_;obtain⟨t,a,v,ks,c,d,ds,kv,b,be,nk,ha,k3,p,L,q⟩:=h;refine⟨_,YW (Xk (i0:=3) ["part"] [] NU.nd rfl (Or.inl rfl) (VF (Vh ["place"] [2] (VF (Yw DL X (pa1 (pv 2)))) (VR (i:=0) (by decide)) (λN C M s H=>YZ 0 A2 rfl (Or.inl rfl) (Or.inr rfl)) (λN C M s H=>Yw DA X (pa2 (pv 1) (pv 0)))))
   (VR (i:=0) (by decide)) (λN C M s H=>YZ 0 QO rfl (Or.inl rfl) (Or.inr rfl)) (λN C M s H=>Ys V9 (Yi (r:=J9 K) Yl (pv 0) YX) Y7 (Yy _)) (λN C M s H=>pv 0))
  (YW (Y5 (Ja (JZ (Yr (WY rfl) rfl B.all Xu (pa1 (Vh ["part"] [] (VF (pv 3)) (VR (i:=0) (by decide)) (λN C M s H=>YZ 0 QO rfl (Or.inl rfl) (Or.inr rfl)) (λN C M s H=>Yw DN X (pa1 (Yi (r:=J9 K) Yl (pv 0) YX)))))))) (YY (Yt V4)) Yv)
  (YY (Yt (Yw DW X (pa3 (pv 0) (pv 1) (pv 2)))))),?_⟩
 dsimp only[Vl,Cx.nox,Cx.wish];show let T0:=_;let T1:=_;let T2:=Yh (VN _ T1 _) T0;Yh _ T2 _ _ _
 intros
 have dp:=L.dep;refine⟨v,b,p,L.ok,by omega,by omega,L.size,λr H1 s1 h1=>?_⟩;obtain⟨_,os,er,ho,o⟩:=V2 h1;cases er;refine⟨⟨_,Z1 ho⟩,?_⟩;have lb:b.places.length<=10000:=by rw[Bd.places_len _ b (ZF _)];have:=L.size;omega
 refine Uu (us:=b.places) (D:=TF) (F:=λw=>((b.at w).getD b).dat) (λH' s=>itl (Z1 (s _ _ ho))) o lb (λw x H2 R I y U hR=>?_) λS q1 H2 fq y T g=>?_
 .obtain ⟨pw,rfl,hpw⟩:=M5 U
  obtain⟨c',Z⟩:=Bd.at_places _ b (ZF _) w I;exact⟨v,pw,b,c',w,(p.mono s1).mono y,L.ok,hpw,Z,λu H' s hu=>hR _ _ s (by rw[Z];exact hu)⟩
 refine⟨⟨_,Z1 T⟩,?_⟩;refine Ju (us:=b.places) (E:=λw=>((b.at w).getD b).dat) (λ_=>false) (itl (Z1 T)) g lb (λw x R I U rT rF=>?_) λS l H3 fl s3 hl G=>?_
 .obtain ⟨c',Z⟩:=Bd.at_places _ b (ZF _) w I
  rw[Z]at U;obtain⟨bt,ys,rfl,hb⟩:=Nu U;refine⟨_,_,Z0 hb,Yq (j:=0) rfl,rfl,_,rfl,Y9 (λz=>?_) (rF rfl)⟩;exact Bd.nl_word (Bd.nl_at w b c' L.nl Z) (V.str.inj (Zr z))
 obtain rfl:S=[]:=VD (by rw[show b.places.filter (λ_=>false)=[]from List.filter_eq_nil_iff.mpr λ_ _ z=>nomatch z]at G;exact G);refine⟨⟨_,Z1 hl⟩,?_⟩;refine US (us:=([]:List Nat)) (D:=λ_=>.non) (E:=λ_=>.non) (itl (Z1 hl)) Z4 (by decide) (λu x R I=>nomatch I) λS q2 H4 Z8 s4 e k=>?_;obtain rfl:=VD k;refine⟨q2,[],rfl,Z1 e,_,rfl,Y9 (by simp) ?_⟩;have J:=((s1.trans y).trans s3).trans s4;exact⟨t,a,v,ks,c,d,ds,kv,b,be.mono J,nk,ha.same J,k3,p.mono J,L,λH' s=>q H' (J.trans s)⟩
theorem FG:Yo ["parameters"] ["parameters"] (Yc Tf):=Y3
theorem QP:List.Nodup [("name":Str),"kind"]:=by decide +kernel
inductive SKO(H:Hp)(Q:VK):List V->Prop
 |mk (v:V) (ps:List (Str×Str)) (hv:Has H v (psD ps)) (l3:ps.length<=3) (q:∀l H',H l=none->Same H H'->H' l=some (.lst ((ps.map (·.2)).map V.str))->Q (.ref l) H'):SKO H Q [v]
def Il:Sp:=λZ H Q _=>SKO H Q Z
theorem Ao(F:Fun K "kinds_of" "kinds_of" Tf f X):Yk P w K g base CX0 (n+1) f X ["parameters"] Il:=by
 refine F.oi FG λy A Z s H N Q E c h=>?_;obtain⟨v,G,L,k,q⟩:=h;refine⟨_,YY (Yt (Vh ["name","kind"] [] (JH (pv 0)) J3 (λj C S s H=>VE (n:=2) rfl (Ye (YZ 0 QP rfl (Or.inl rfl) (Or.inr rfl)) (Ye (YZ 1 QP rfl (Or.inl rfl) (Or.inr rfl)) Y6))) (λj C S s H=>pv 1))),?_⟩;rw[Mr]at L;obtain⟨a,m,rfl,M,T⟩:=Yz L;refine⟨⟨_,Z0 M⟩,?_⟩;refine US (us:=G) (D:=prD) (E:=λp=>.str p.2) (itt (Z0 M)) T (by omega) (λu x R d B O=>?_) λN l z U s I J=>?_
 .obtain ⟨t,rfl,ht⟩:=X8 B
  exact⟨_,Z0 ht,rfl,O _ Yu⟩
 .obtain rfl:=X9 (ns:=G.map (·.2)) (by rw[za];exact J)
  exact q l z U s I
theorem KE:Yo ["kinds","kind"] ["kinds","kind"] (Yc Mb):=Y3
inductive SOT(CK:Addr)(H:Hp)(Q:VK):List V->Prop
 |mk (so:Addr) (y:Str) (ks:List (Str×Shp)) (d:Str->Nat) (ts:List Str) (ki:KI H CK so ks d) (hs:VG ks y=some (.tags ts)) (q:∀H',Same H H'->Q (.bl true) H'):SOT CK H Q [.ref so,.str y]
def Qw(CK:Addr):Sp:=λZ H Q _=>SOT CK H Q Z
theorem Al(S:KCl K CK)(F:Fun K "is_of_tags" "is_of_tags" Mb f p)(X:Vn K CK "names" G)(x:Yk P w K B base CX0 n G r ["self"] (U4 CK))(o:Binds K r ["self"] [])(U:Vn K CK "shape_of" g)(a:Yk P w K B base CX0 n g u ["self","kind"] (Jy CK))(e:Binds K u ["self","kind"] []):Yk P w K B base CX0 (n+1) f p ["kinds","kind"] (Qw CK):=by
 refine F.oi KE λb A L s H vs Q E I h=>?_;obtain⟨R,y,J,d,ts,M,D,q⟩:=h;refine⟨_,YY (Yt (Tq (XA Xm (pv 1) (VU (pv 0) S.cl X x I o .nil VI) rfl) (To (XA V9 (Yi Yl (Vg (pv 0) S.cl U a I e .nil VI (pa1 (pv 1))) YX) Y7 (Yy _))))),?_⟩;dsimp only[Vl,Cx.nox,Cx.wish];obtain⟨AK,i,O,N,j⟩:=id M;refine⟨_,_,by rw[<-O];exact N.ins,rfl,R,J,d,rfl,M,λl H1 T m G=>?_⟩;have c:(J.map λk=>V.str k.1)=(J.map (·.1)).map V.str:=by rw[za];rfl
 rw[c]at G;refine⟨l,_,rfl,.inl (Z1 G),rfl,Jm _,?_⟩;rw[UA];refine⟨_,rfl,V1 (by exact decide_eq_true (ZU.mpr ⟨_,Jo D,rfl⟩)) ?_⟩;have Z:=M.mono T;obtain⟨AK,i,O,N,j⟩:=id Z;refine⟨_,_,by rw[<-O];exact N.ins,rfl,R,J,d,y,_,rfl,Z,D,λv z=>?_⟩;obtain⟨ps,l,rfl,t,m⟩:=Jg z;exact⟨_,_,Z0 t,rfl,rfl,q _ T⟩
end
end K4
namespace L2
open PySem
structure RA7 where
 t:Addr
 dx:Addr
 bk:Addr
 td:Addr
 sd:Addr
def GO(A:RA7):List (Str×V):=[("book",.ref A.bk),("told",.ref A.td),("steps",.ref A.sd)]
def GL(x:Rw):Dat:=.tup [psD x.1.2.1,.str x.1.2.2,x.2.dat]
theorem NJ(x:Rw):(GL x).st=true:=by unfold GL;simp[Dat.st,Dat.sts,Mq,Rb.st]
structure RD(H:Hp)(CW:Addr)(A:RA7)(kv:List (Key×V))(rs:List Rw):Prop where
 ins:H A.t=some (.ins CW A.dx (GO A))
 td:H A.td=some (.dK kv)
 ke:kv.map (·.1)=rs.map (λx=>(Sum.inr x.1.1:Key))
 va:HasL H (kv.map (·.2)) (rs.map GL)
 nd:(rs.map λx=>x.1.1).Nodup
theorem RD.mono(r:RD H CW A Z rs)(s:Same H J):RD J CW A Z rs:=⟨s _ _ r.ins,s _ _ r.td,r.ke,r.va.mono s,r.nd⟩
theorem RD.at(b:RD H CW A J rs)(h:x∈rs):∃v,Vx H A.td (.str x.1.1) (some v)/\Has H v (GL x):=by
 obtain⟨i,L⟩:=zh.mp h;have O:(J.map (·.1))[i]?=(rs.map (λx=>(Sum.inr x.1.1:Key)))[i]?:=by rw[b.ke]
 rw[ZG,ZG,L]at O;obtain⟨q,M,B⟩:=Zh.mp O
 have T:(J.map (·.1)).Nodup:=by
  rw[b.ke];have Z:=b.nd;unfold List.Nodup at Z |-;rw[yz]at Z |-;exact Z.imp λG z=>G (Sum.inr.inj z)
 obtain⟨y,R,D⟩:=getD b.va (show(J.map (·.2))[i]?=some q.2 by rw[ZG,M];rfl);rw[L]at R;cases R;refine⟨q.2,?_,D⟩;have N:=Gk T (ZH M);rw[B]at N;rw[<-N];exact Vx.k (k:=Sum.inr x.1.1) b.td
theorem RD.no(b:RD H CW A G rs)(h:r∉rs.map λx=>x.1.1):Vx H A.td (.str r) none:=by
 have:VH G (Sum.inr r)=none:=Uz (by
  rw[b.ke];intro z;obtain⟨J,Z,L⟩:=ZU.mp z;exact h (ZU.mpr ⟨J,Z,Sum.inr.inj L⟩))
 rw[<-this];exact Vx.k (k:=Sum.inr r) b.td
theorem Ut(h:Has H v (GL x)):∃a u w,v=.ref a/\H a=some (.tup [u,.str x.1.2.2,w])/\Has H u (psD x.1.2.1)/\Has H w x.2.dat:=by
 unfold GL at h;obtain⟨t,D,rfl,N,O⟩:=Yz h;obtain⟨M,I,rfl,B,G⟩:=Yb O;obtain⟨E,A,rfl,T,J⟩:=Yb G;obtain⟨L,F,rfl,R,Z⟩:=Yb J;obtain rfl:=VD Z;obtain rfl:=has_str T;exact⟨t,M,L,rfl,N,B,R⟩
structure RCl(K:W.Frag)(CW:Addr):Prop where
 cl:Cls K CW
 bk:JD K CW "book"
 td:JD K CW "told"
 sd:JD K CW "steps"
theorem FK(A:RA7):(GO A).lookup ("book":Str)=some (V.ref A.bk):=rfl
theorem RW(A:RA7):(GO A).lookup ("told":Str)=some (V.ref A.td):=rfl
theorem S0:∀{ns:List Bool}{Z:kF},HasL H Z (ns.map Dat.bl)->Z=ns.map V.bl
 |[],Z,h=>VD h
 |n::ns,Z,h=>by
  obtain⟨x,r,rfl,J,G⟩:=Yb h;unfold Has at J;rw[J,S0 G];rfl
theorem FlK.mem(f:FlK J Z)(m:y∈Z):y∈J.map (·.1):=let⟨_,h,_⟩:=f y m;ZU.mpr ⟨_,Jo h,rfl⟩
end L2
namespace K4
open PySem L2
section
variable{C CK CW:Addr}
theorem KA:Yo ["self"] ["self"] (Yc MX):=Y3
inductive SRN(CW:Addr)(H:Hp)(Q:VK):List V->Prop
 |mk (A:RA7) (kv:List (Key×V)) (rs:List Rw) (rd:RD H CW A kv rs) (q:∀l H',H l=none->Same H H'->H' l=some (.lst ((rs.map λx=>x.1.1).map V.str))->Q (.ref l) H'):SRN CW H Q [.ref A.t]
def Ih(CW:Addr):Sp:=λZ H Q _=>SRN CW H Q Z
theorem Ae(B:Blt L)(T:RCl K CW)(F:Fun K "names" "Rows.names" MX f M):Yk P w K L base CX0 (n+1) f M ["self"] (Ih CW):=by
 refine F.oi KA λN A Z s H O Q E D h=>?_;obtain⟨I,J,R,b,q⟩:=h;refine⟨_,YY (Yt (VA (UU rfl) rfl B.list Vw (pa1 (Y8 (pv 0) rfl)))),?_⟩;refine⟨CW,_,_,_,b.ins,T.cl,T.td,RW _,_,_,rfl,b.td,λl G=>?_⟩;refine q l _ G (Yg G _) ?_;rw[Ya];have e:(J.map λq=>kV q.1)=(J.map (·.1)).map kV:=by rw[za];rfl
 rw[e,b.ke,za,za]
 rfl
theorem OT:Yo ["self","r"] ["self","r"] (Yc Bi):=Y3
inductive SRK(CW:Addr)(H:Hp)(Q:VK):List V->Prop
 |mk (A:RA7) (kv:List (Key×V)) (rs:List Rw) (x:Rw) (rd:RD H CW A kv rs) (hx:x∈rs) (q:Q (.str x.1.2.2) H):SRK CW H Q [.ref A.t,.str x.1.1]
def OM(CW:Addr):Sp:=λZ H Q _=>SRK CW H Q Z
theorem Af(T:RCl K CW)(F:Fun K "kind_of" "Rows.kind_of" Bi f R):Yk P w K j base CX0 (n+1) f R ["self","r"] (OM CW):=by
 refine F.oi OT λB A Z s H U Q E M h=>?_;obtain⟨z,y,X,x,b,L,q⟩:=h;have J:=Jl M;refine⟨_,YW (Y5 (UB (Up J (pv 1) (Y8 (pv 0) rfl))) (YY V8) Yv)
  (YY (Yt (Yi Yl (JM J (Y8 (pv 0) rfl) (pv 1) (λ_ _=>rfl)) YX))),?_⟩
 dsimp only[Vl,Cx.nox,Cx.wish];show let I:=_;let D:=_;Yh (VN _ D _) I _ _ _
 intros
 obtain⟨v,G,O⟩:=b.at L;obtain⟨a,u,S,rfl,N,_,_⟩:=Ut O;refine⟨CW,_,_,_,b.ins,T.cl,T.td,RW _,_,G,_,rfl,Y9 (by simp) ?_⟩;exact⟨CW,_,_,_,b.ins,T.cl,T.td,RW _,_,G,_,_,Z0 N,rfl,q⟩
theorem EC:Yo ["self","name","parameters","kind","kinds"] ["self","name","parameters","kind"] (Yc Bj):=Y3
theorem Sa:List.Nodup [("one":Str),"kinds"]:=by decide +kernel
inductive CO(CW C CK:Addr)(H:Hp)(Q:VK):List V->Prop
 |mk (A:RA7) (kv:List (Key×V)) (h:Hd) (v:V) (ks:List (Str×Shp)) (ns:List Str) (c d:Str->Nat) (ds:List Dd) (ins:H A.t=some (.ins CW A.dx (GO A))) (td:H A.td=some (.dK kv)) (nk:VH kv (Sum.inr h.1)=none) (be:BE H C CK A.bk ks c d ds) (wn:WdS h.1) (hv:Has H v (psD h.2.1)) (ho:UW ns c 24 h) (fk:FlK ks ns) (q:∀H',Same H H'->Q (.bl true) H'):CO CW C CK H Q [.ref A.t,.str h.1,v,.str h.2.2]
def Ij(CW C CK:Addr):Sp:=λZ H Q _=>CO CW C CK H Q Z
theorem SR(B:Blt J)(T:RCl K CW)(TB:BCl K C)(F:Fun K "is_head" "Rows.is_head" Bj f fd)(m1:Vn K C "kinds" g1)(G1:Yk P w K J base CX0 n g1 d1 ["self"] (JE C CK))(b1:Binds K d1 ["self"] [])(DN:Df P w K J base n "is_name" ["text"] (Uh 97))(DA:Df P w K J base n "are_parameters" ["kinds","parameters"] (Gp CK))(DK:Df P w K J base n "kinds_of" ["parameters"] Il)(DO:Df P w K J base n "is_of_tags" ["kinds","kind"] (Qw CK)):Yk P w K J base CX0 (n+1) f fd ["self","name","parameters","kind"] (Ij CW C CK):=by
 refine F.oi EC λZ9 A I s H vs Q E G h=>?_;obtain⟨A',kv,h,v,S,ns,c,d,ds,ins,td,nk,z,wn,b,Z,o,q⟩:=h;have hu:=Jl G;refine⟨_,YW (Ym 4 EC.nd (VU (Y8 (pv 0) rfl) TB.cl m1 G1 G b1 .nil VI) (by exact rfl) (Or.inr rfl))
  (YW (Y5 (PW.pt (UF (Ja (JZ (Yw DN G (pa1 (pv 1))))) (UF (UB (X4 hu (pv 1) (Y8 (pv 0) rfl))) (Jz (Ja (JZ (Yw DA G (pa2 (pv 4) (pv 2))))))))) (YY V8) Yv)
  (YY (Yt (Yr (WY rfl) rfl B.all Xu (pa1 (Vh ["one"] [4] (VF (Y1 Mv (Vs (pa1 (pv 3))) (Yw DK G (pa1 (pv 2))))) (VR (i:=0) (by decide)) (λcl C fp s H=>YZ 0 Sa rfl (Or.inl rfl) (Or.inr rfl)) (λcl C fp s H=>Yw DO G (pa2 (pv 1) (pv 0))))))))),?_⟩
 dsimp only[Vl,Cx.nox,Cx.wish];show let T0:=_;let T1:=_;let T2:=Yh (VN _ T1 _) T0;Yh _ T2 _ _ _
 intros
 obtain⟨w1,w2,w3⟩:=wn;obtain⟨AB,Z8,eB,bd⟩:=id z.bi;refine⟨CW,_,_,_,ins,T.cl,T.bk,FK _,_,_,by rw[<-eB];exact bd.ins,rfl,A'.bk,S,d,ds,rfl,z.bi,λt r=>?_⟩;refine⟨h.1,rfl,w1,w2,w3,λH1 L=>⟨_,rfl,Y9 (by simp) ?_⟩⟩;refine⟨CW,_,_,_,L _ _ ins,T.cl,T.td,RW _,_,(show Vx H1 A'.td (.str h.1) none by rw[<-nk];exact Vx.k (k:=Sum.inr h.1) (L _ _ td)),_,rfl,Y9 (by simp) ?_⟩;refine⟨t,S,d,h.2.1,v,rfl,r.mono L,z.k6,b.mono L,Z.len,λp m=>o.mem (Z.kin p m),Z.nd,Z.spl,λH2 s2=>⟨_,rfl,Y9 (by simp) ?_⟩⟩;have N:=L.trans s2;have l3:=Z.len;refine⟨sl 1,λl hl=>?_⟩;refine up_in hl _ λH3 u g3=>?_;refine⟨v,h.2.1,(b.mono N).mono u,l3,λl2 H4 f4 g g4=>?_⟩;refine⟨l,l2,_,_,rfl,rfl,g _ _ g3,g4,Zf (Yp (by rw[ZA,ZA];show 1+_<=1000;omega)),λl5 h5=>?_⟩;refine up_in h5 _ λH5 s5 e=>?_;have M:=((N.trans u).trans g).trans s5;refine⟨⟨_,Z1 e⟩,?_⟩;refine Uu (us:=h.2.2::h.2.1.map (·.2)) (D:=Dat.str) (F:=λ_=>.bl true) (λH' s=>itl (Z1 (s _ _ e))) (VZ (h.2.2::h.2.1.map (·.2))) (by rw[Zd,ZA];omega) (λy x a R hm O hx hR=>?_) λvs q1 a fq O j U=>?_
 .obtain rfl:=has_str hx
  have ym:y∈ns:=by
   rcases Zb.mp hm with rfl|m
   .exact Z.own
   .obtain ⟨p,hp,rfl⟩:=ZU.mp m
    exact Z.kin p hp
  obtain⟨ts,X,_⟩:=o y ym;exact⟨t,y,S,d,ts,(r.mono M).mono O,X,λH7 s7=>hR _ _ s7 (by unfold Has;rfl)⟩
 .obtain rfl:=S0 (ns:=(h.2.2::h.2.1.map (·.2)).map λ_=>true) (by rw[za];exact U)
  refine⟨q1,_,rfl,Z1 j,?_⟩;rw[show((h.2.2::h.2.1.map (·.2)).map λ_=>true).all id=true by simp];exact q a (M.trans O)
end
end K4
namespace L2
open PySem
inductive RO:Nat->Rb->Prop
 |on {n:Nat}{r:Str}{as:List Bd}:(∀a∈as,Bo a)->as.length<=9->RO (n+1) (.on r as)
 |thn {n:Nat}{r:Str}{as:List Bd}{e:Bd}:Bo e->(∀a∈as,Bo a)->as.length<=9->RO (n+1) (.thn e r as)
 |br {n:Nat}{ts:List Str}{e:Bd}{bs:List Rb}:Bo e->bs.length=ts.length->ts.length<=9->(∀b∈bs,RO n b)->RO (n+1) (.br e ts bs)
open Classical in
noncomputable def goG (kd:Bd->Option Str) (rh:Hds) (y r:Str) (as:List Bd):Bool:=decide (∃ps,rh r=some (ps,y)/\as.map kd=(ps.map (·.2)).map some)
open Classical in
noncomputable def rbG (kd:Bd->Option Str) (ks:kL) (rh:Hds) (y:Str):Nat->Rb->Bool
 |0,_=>false
 |n+1,.br e ts bs=>decide (∃z,kd e=some z/\VG ks z=some (.tags ts)) && bs.all (rbG kd ks rh y n)
 |_+1,.on r as=>goG kd rh y r as
 |_+1,.thn e r as=>decide (kd e=some y) && goG kd rh y r as
def Tr(o:Option Str):Dat:=(o.map Dat.str).getD .non
theorem Kq(o:Option Str):Has H (Uq o) (Tr o):=by cases o <;> (unfold Has;rfl)
theorem EL:∀(J:List (Option Str))(Z:kq),Dat.pqs (J.map Tr) (Z.map Dat.str)=decide (J=Z.map some)
 |[],[]=>by unfold List.map Dat.pqs;rfl
 |[],w::ws=>by unfold List.map Dat.pqs;rfl
 |z::Z,[]=>by unfold List.map Dat.pqs;rfl
 |z::Z,w::ws=>by
  rw[ZT,ZT,ZT];unfold Dat.pqs;rw[EL Z ws,yd];cases z <;> simp[Tr,Dat.pq]
theorem Cv(Z:Bd->Option Str)(J:List Bd):(J.map λb=>Tr (Z b))=(J.map Z).map Tr:=by rw[za];rfl
theorem Nb:∀Z:List (Option Str),Dat.deps (Z.map Tr)=0
 |[]=>by unfold List.map Dat.deps;rfl
 |o::Z=>by rw[ZT];unfold Dat.deps;rw[Nb Z];cases o <;> (simp[Tr];unfold Dat.dep;rfl)
theorem Ox(Z:List (Option Str)):(Dat.lst (Z.map Tr)).dep<=1:=by unfold Dat.dep;rw[Nb];decide
theorem SN(J:List (Option Str))(Z:kq):(Dat.lst (J.map Tr)).pq (.lst (Z.map Dat.str))=decide (J=Z.map some):=by unfold Dat.pq;exact EL J Z
theorem D9(s:Shp)(Z:kq):s.dat.pq (.tup [.str "tags",.tup (Z.map Dat.str)])=true↔s=.tags Z:=by
 cases s with
 |tags J=>unfold Shp.dat;simp[Dat.pq,Dat.pqs,WO]
 |pair c e=>unfold Shp.dat;simp[Dat.pq,Dat.pqs]
theorem OP(s:Shp):s.dat.dep<=2:=by
 cases s with
 |tags Z=>unfold Shp.dat;simp[Dat.dep,Dat.deps,Wd]
 |pair c e=>unfold Shp.dat;simp[Dat.dep,Dat.deps]
theorem G7(h:Has H v (rbF x)):∃t w,v=.ref t/\H t=some (.tup [.str x.1,w])/\Has H w x.2.dat:=by
 unfold rbF at h;obtain⟨t,R,rfl,L,M⟩:=Yz h;obtain⟨T,D,rfl,O,J⟩:=Yb M;obtain⟨G,B,rfl,N,Z⟩:=Yb J;obtain rfl:=VD Z;obtain rfl:=has_str O;exact⟨t,G,rfl,L,N⟩
theorem Dh(h:Has H v (Rb.br e M N).dat)(l:N.length=M.length):∃t u b Z,v=.ref t/\H t=some (.tup [.str "by",u,.ref b])/\Has H u e.dat/\H b=some (.tup Z)/\HasL H Z ((M.zip N).map rbF):=by
 unfold Rb.dat at h;obtain⟨t,I,rfl,B,D⟩:=Yz h;obtain⟨U,P,rfl,A,L⟩:=Yb D;obtain⟨O,X,rfl,F,G⟩:=Yb L;obtain⟨S,C,rfl,E,J⟩:=Yb G;obtain rfl:=VD J;obtain rfl:=has_str A;obtain⟨u,Z,rfl,T,R⟩:=Yz E;refine⟨t,O,u,Z,rfl,B,F,T,?_⟩;rw[Mm,vE (by omega),vF (by omega)];exact R
structure GoH(H:Hp)(v:V)(b:Rb)(a:Addr)(w:Str)(xs:List V)(r:Str)(al:Addr)(ys:List V)(as:List Bd):Prop where
 ev:v=.ref a
 ha:H a=some (.tup (.str w::xs))
 wb:w≠"by"
 ct:XN (.str w::xs) (some (-2)) none=[.str r,.ref al]
 nw:¬(HT.sIx (V.str w::xs).length 0 (some (-2))=0/\HT.sIx (V.str w::xs).length (V.str w::xs).length none=(V.str w::xs).length)
 hl:H al=some (.tup ys)
 hy:HasL H ys (as.map Bd.dat)
 bo:∀a∈as,Bo a
 l9:as.length<=9
 go:(w≠"then" /\b=.on r as)\/(w="then" /\∃e u rest,xs=u::rest/\Has H u e.dat/\Bo e/\b=.thn e r as)
theorem AV(h:Has H v b.dat)(j:RO (n+1) b):(∃e B C,b=.br e B C/\Bo e/\C.length=B.length/\B.length<=9/\∀b∈C,RO n b) \/ ∃a w L r p T k,GoH H v b a w L r p T k:=by
 cases j with
 |br R O N U=>exact .inl ⟨_,_,_,rfl,R,O,N,U⟩
 |on S D=>
  unfold Rb.dat at h;obtain⟨t,T,rfl,F,I⟩:=Yz h;obtain⟨Q,m,rfl,R,G⟩:=Yb I;obtain⟨X,q,rfl,O,J⟩:=Yb G;obtain⟨P,y,rfl,N,Z⟩:=Yb J;obtain rfl:=VD Z;obtain rfl:=has_str R;obtain rfl:=has_str O;obtain⟨u,L,rfl,E,M⟩:=Yz N;rw[Z7]at M;exact .inr ⟨t,"on",_,_,u,L,_,rfl,F,by decide +kernel,rfl,(λz=>Zp (show HT.sIx 3 0 (some (-2))=0 from z.1) (by decide)),E,M,S,D,.inl ⟨by decide +kernel,rfl⟩⟩
 |thn g S D=>
  unfold Rb.dat at h;obtain⟨t,T,rfl,F,I⟩:=Yz h;obtain⟨Q,m,rfl,R,G⟩:=Yb I;obtain⟨X,q,rfl,O,J⟩:=Yb G;obtain⟨P,y,rfl,N,Z⟩:=Yb J;obtain⟨c,d,rfl,U,A⟩:=Yb Z;obtain rfl:=VD A;obtain rfl:=has_str R;obtain rfl:=has_str N;obtain⟨u,L,rfl,E,M⟩:=Yz U;rw[Z7]at M;exact .inr ⟨t,"then",_,_,u,L,_,rfl,F,by decide +kernel,rfl,(λz=>Zp (show HT.sIx 4 0 (some (-2))=0 from z.1) (by decide)),E,M,S,D,.inr ⟨rfl,_,X,_,rfl,O,g,rfl⟩⟩
open Classical in
theorem Gw(h:¬ ∃z,kd e=some z/\VG J z=some (.tags Z)):rbG kd J rh y (n+1) (.br e Z G)=false:=by unfold rbG;rw[Zw h];rfl
open Classical in
theorem Mn(h:∃z,kd e=some z/\VG Z z=some (.tags J)):rbG kd Z rh y (n+1) (.br e J G)=G.all (rbG kd Z rh y n):=by(conv=>lhs;unfold rbG);rw[decide_eq_true h];rfl
open Classical in
theorem Pj(h:¬ ∃Z,rh r=some (Z,y)/\J.map kd=(Z.map (·.2)).map some):goG kd rh y r J=false:=by unfold goG;exact Zw h
open Classical in
theorem S3{Z:List (Str×Str)}(h:rh r=some (Z,y)):goG kd rh y r G=decide (G.map kd=(Z.map (·.2)).map some):=by
 unfold goG;rw[yd,decide_eq_true_iff,decide_eq_true_iff]
 constructor
 .rintro ⟨ps',h1,J⟩
  rw[h]at h1;cases h1;exact J
 .exact λJ=>⟨Z,h,J⟩
theorem Ir(o:Option Str)(y:Str):Q0 (Uq o) (.str y)=true:=by cases o <;> rfl
theorem Oy{o:Option Str}{y:Str}:Uq o=.str y↔o=some y:=by cases o <;> simp[Uq]
end L2
namespace K4
open PySem L2
section
variable{C CK CW:Addr}
theorem Ot(K:W.Frag)(Z:PE X e ta)(J:attributeBase e f X.env (eval e X.env)=eval e X.env)(G:X.K=K:=by rfl):PE X (.Attribute e f pos) (Qm K ta f):=G ▸ Y8 Z J
theorem Gs:Yo ["self","around","kind","body","own","r","arguments"] ["self","around","kind","body"] (Yc Ma):=Y3
theorem QT:List.Nodup [("tag":Str),"branch","self","around","kind"]:=by decide +kernel
theorem Sf:List.Nodup [("argument":Str),"self","around"]:=by decide +kernel
inductive SRB(CW C CK:Addr)(m:Nat)(H:Hp)(Q:VK):List V->Prop
 |mk (A:RA7) (a:Addr) (y:Str) (v:V) (kw:List (Key×V)) (rs:List Rw) (ks:List (Str×Shp)) (c d:Str->Nat) (ds:List Dd) (kv:List (Key×V)) (b:Rb) (rd:RD H CW A kw rs) (p3:∀x∈rs,x.1.2.1.length<=3) (be:BE H C CK A.bk ks c d ds) (nk:NK (ks.map (·.1)) kv) (ha:Rd H a (.dK kv)) (k3:kv.length<=3) (hv:Has H v b.dat) (ro:RO m b)
  (q:∀H',Same H H'->Q (.bl (rbG (kdn ks (Y2 (ds.map (·.1))) 13 kv) ks (Y2 (rs.map (·.1))) y m b)) H'):SRB CW C CK m H Q [.ref A.t,.ref a,.str y,v]
def Ik(CW C CK:Addr)(m:Nat):Sp:=λZ H Q _=>SRB CW C CK m H Q Z
abbrev rbp:kq:=["self","around","kind","body"]
theorem Aj(B:Blt mg)(T:RCl K CW)(TB:BCl K C)(TC:KCl K CK)(F:Fun K "is_body" "Rows.is_body" Ma f fd)(hL:3<=L)(mG:Vn K CW "is_body" f)(G:Yk P w K mg base CX0 L f fd rbp (Ik CW C CK m))(bG:Binds K fd rbp [])(m1:Vn K C "kinds" g1)(G1:Yk P w K mg base CX0 L g1 d1 ["self"] (JE C CK))(b1:Binds K d1 ["self"] [])(m2:Vn K CK "shape_of" g2)(G2:Yk P w K mg base CX0 L g2 d2 ["self","kind"] (Jy CK))(b2:Binds K d2 ["self","kind"] [])(m3:Vn K CW "kind_of" g3)(G3:Yk P w K mg base CX0 L g3 d3 ["self","r"] (OM CW))(b3:Binds K d3 ["self","r"] [])(DA:Df P w K mg base L "kind_around" ["book","around","body"] (BS C CK))(DK:Df P w K mg base L "kinds_of" ["parameters"] Il):Yk P w K mg base CX0 (L+1) f fd rbp (Ik CW C CK (m+1)):=by
 refine F.oi Gs λF3 A R1 s H vs Q E o h=>?_;obtain⟨A',a,y,v,kw,rs,Z,c,d,X,U,b,rd,p3,be,nk,ha,k3,hv,ro,q⟩:=h;have hu:=Jl o;have R8:Vk (2+1) _:=o.mono hL;have D0:Vk (1+1) _:=o.mono (ZZ (by decide) hL);refine⟨_,YW (Y5 (Ys V9 (Yi Yl (pv 3) YX) Y7 (Yy _))
   (YW (Ym 4 Gs.nd (Yw DA o (pa3 (Y8 (pv 0) rfl) (pv 1) (Yi Yl (pv 3) YX))))
   (YW (Y5 (PW.pt (UF (Ys Tt (pv 4) V4 (Yy _)) (Jz (Ys (XW R8) (Vg (VU (Y8 (pv 0) rfl) TB.cl m1 G1 o b1 .nil VI) TC.cl m2 G2 o b2 .nil VI (pa1 (pv 4)))
     (Yx (pa2 Y7 (VA VW rfl B.tuple Vm (pa1 (Vh ["tag","branch"] [] (JH (Yi Yl (pv 3) YX)) J3 (λcl C fp s H=>VE (n:=2) rfl (Ye (YZ 0 Mw rfl (Or.inl rfl) (Or.inr rfl)) (Ye (YZ 1 Mw rfl (Or.inl rfl) (Or.inr rfl)) Y6))) (λcl C fp s H=>pv 0)))))) (Yy _)))))
    (YY (Yt GU)) Yv)
   (YY (Yt (Yr (WY rfl) rfl B.all Xu (pa1 (Vh ["tag","branch"] [0,1,2] (JH (Yi Yl (pv 3) YX)) J3 (λcl C fp s H=>VE (n:=2) rfl (Ye (YZ 0 QT rfl (Or.inl rfl) (Or.inr rfl)) (Ye (YZ 1 QT rfl (Or.inl rfl) (Or.inr rfl)) Y6)))
    (λcl C fp s H=>Vg (pv 2) T.cl mG G o bG .nil VI (pa3 (pv 3) (pv 4) (pv 1)))))))))) Yv)
  (YW (Y5 (PW.pt (X1 (Ys V9 (Yi Yl (pv 3) YX) Y7 (Yy _)) (U8 (Ys XY (Yw DA o (pa3 (Y8 (pv 0) rfl) (pv 1) (Yi Yl (pv 3) YX))) (pv 2) (Yy _))))) (YY (Yt GU)) Yv)
  (YW (JP (VM MT (pv 3) (Va (EJ MG YX)) Vb) (VE (n:=2) rfl (Ye (YZ 5 Gs.nd) (Ye (YZ 6 Gs.nd) Y6))))
  (YW (Y5 (PW.pt (UF (UB (Up hu (pv 5) (Y8 (pv 0) rfl))) (Jz (Ys XY (Vg (pv 0) T.cl m3 G3 o b3 .nil VI (pa1 (pv 5))) (pv 2) (Yy _))))) (YY (Yt GU)) Yv)
  (YY (Yt (XA (Ks D0) (Vh ["argument"] [0,1] (JH (pv 6)) (VR (i:=0) (by decide)) (λcl C fp s H=>YZ 0 Sf rfl (Or.inl rfl) (Or.inr rfl)) (λcl C fp s H=>Yw DA o (pa3 (Ot K (pv 1) rfl) (pv 2) (pv 0))))
   (Yw DK o (pa1 (Yi Yl (JM hu (Y8 (pv 0) rfl) (pv 5) (λ_ _=>rfl)) YX))) (Yy _))))))),?_⟩
 dsimp only[Vl,Cx.nox,Cx.wish];show let T0:=_;let T1:=_;let T2:=Yh (VN _ T1 _) T0;let T3:=Yh _ T2;let T4:=_;let T5:=Yh (VN _ T4 _) T3;let T6:=_;let T7:=_;let T8:=Yh (VN _ T7 _) T6;let T9:=Yh _ T8;Yh (VN _ T9 _) T5 _ _ _
 intros
 rcases AV hv ro with⟨e,p,bs,rfl,bo,lb,l9,N2⟩|⟨b0,w,xs,r,al,ys,as,g⟩
 .obtain ⟨b0,u,bl,xs,rfl,hb,he,hbl,hxs⟩:=Dh hv lb
  refine⟨_,_,Z0 hb,rfl,rfl,_,rfl,V1 (by decide +kernel) ?_⟩;refine⟨CW,_,_,_,rd.ins,T.cl,T.bk,FK _,_,_,Z0 hb,rfl,⟨A'.bk,a,u,Z,c,d,X,U,e,be,nk,ha,k3,he,bo,λH1 k=>?_⟩⟩;have lz:(p.zip bs).length=p.length:=by rw[vN];omega
  have D3:=k _ _ hb;have Z8:=k _ _ hbl
  cases ek:kdn Z (Y2 (X.map (·.1))) 13 U e with
  |none=>
   rw[Gw (by rw[ek];rintro⟨z,h,_⟩;cases h)]at q;exact⟨rfl,_,rfl,V1 (by decide) (q _ k)⟩
  |some z=>
   obtain⟨sz,Z9⟩:=JJ (M3 be.kk be.hk 13 U e z nk ek);refine⟨rfl,_,rfl,Y9 (by simp[Uq]) ?_⟩;have M2:=be.mono k;obtain⟨AB,F2,eB,bd⟩:=id M2.bi;refine⟨CW,_,_,_,k _ _ rd.ins,T.cl,T.bk,FK _,_,_,by rw[<-eB];exact bd.ins,rfl,A'.bk,Z,d,X,rfl,M2.bi,λso ki=>?_⟩;obtain⟨AK,SK,e1,kd,kr⟩:=id ki;refine⟨_,_,by rw[<-e1];exact kd.ins,rfl,so,Z,d,z,sz,rfl,ki,Z9,λv R4=>?_⟩;refine⟨_,_,Z0 D3,rfl,⟨_,Z0 Z8⟩,?_⟩;refine US (us:=p.zip bs) (D:=rbF) (E:=λx=>.str x.1) (itt (Z0 Z8)) (hxs.mono k) (by omega) (λu x R hm hu rT=>?_) λvs l H2 fl s2 hl S=>?_
   .obtain ⟨t,w',rfl,ht,_⟩:=G7 hu
    exact⟨_,Z0 ht,rfl,rT _ Yu⟩
   obtain rfl:=X9 (ns:=p) (by rw[<-vF (l₁:=p) (l₂:=bs) (by omega),za];exact S);refine⟨l,_,rfl,.inl ⟨Z1 hl,λt3 R6=>?_⟩⟩;refine up_in R6 _ λH3 s3 g3=>?_;refine⟨sl 2,λt4 R5=>?_⟩;refine up_in R5 _ λH4 s4 g4=>?_;have J2:=(s2.trans s3).trans s4;have O:=k.trans J2;refine⟨sz.dat,.tup [.str "tags",.tup (p.map Dat.str)],R4.mono J2,Yn g4 (Z2 Yu (Z3 (Yn (s4 _ _ g3) (VZ p)))),OP sz,_,rfl,?_⟩
   by_cases ct:sz=.tags p
   case neg=>
    rw[Gw (by rintro⟨z',h1,h2⟩;rw[ek]at h1;cases h1;rw[Z9]at h2;exact ct (ZP h2))]at q;exact V1 (by rw[Bool.eq_false_iff.mpr λz=>ct ((D9 sz p).mp z)];rfl) (q _ O)
   rw[Mn ⟨z,ek,by rw[Z9,ct]⟩]at q;refine Y9 (by rw[(D9 sz p).mpr ct];decide) ?_;refine⟨_,_,Z0 (O _ _ hb),rfl,⟨_,Z0 (O _ _ hbl)⟩,?_⟩;refine Uu (us:=p.zip bs) (D:=rbF) (F:=λx=>.bl (rbG (kdn Z (Y2 (X.map (·.1))) 13 U) Z (Y2 (rs.map (·.1))) y m x.2)) (λH' s=>itt (Z0 (s _ _ (O _ _ hbl)))) (hxs.mono O) (by omega) (λx x' H5 R hm s5 hx hR=>?_) λvs q1 H5 fq s5 J1 S=>?_
   .obtain ⟨t,w',rfl,ht,hw⟩:=G7 hx
    have J:=O.trans s5;refine⟨_,Z0 ht,rfl,_,_,J _ _ rd.ins,rfl,A',a,y,w',kw,rs,Z,c,d,X,U,x.2,rd.mono J,p3,be.mono J,nk,ha.same J,k3,hw,N2 _ (yt hm).2,λH6 s6=>hR _ _ s6 (by unfold Has;rfl)⟩
   .obtain rfl:=S0 (ns:=bs.map (rbG (kdn Z (Y2 (X.map (·.1))) 13 U) Z (Y2 (rs.map (·.1))) y m)) (by
     rw[<-vE (l₁:=p) (l₂:=bs) (by omega),za,za];exact S)
    refine⟨q1,_,rfl,Z1 J1,?_⟩;rw[List.all_map];exact q _ (O.trans s5)
 .obtain ⟨rfl,hb,wb,ct,nw,hl,hy,bo,l9,go⟩:=g
  refine⟨_,_,Z0 hb,Yq (j:=0) rfl,rfl,_,rfl,Y9 (λz=>wb (V.str.inj (Zr z))) ?_⟩;dsimp only[IW];refine V7 (λU' H'=>Same H H'/\U'=[some (.ref A'.t),some (.ref a),some (.str y),some (.ref b0),none,none,none]/\rbG (kdn Z (Y2 (X.map (·.1))) 13 U) Z (Y2 (rs.map (·.1))) y (m+1) b=goG (kdn Z (Y2 (X.map (·.1))) 13 U) (Y2 (rs.map (·.1))) y r as) ?_ ?_
  .rintro U' H' ⟨k,rfl,eg⟩
   rw[eg]at q;refine⟨2,rfl,-2,rfl,b0,_,rfl,Z0 (k _ _ hb),nw,λt2 R7=>?_⟩;rw[ct];refine up_in R7 _ λH2 s2 g2=>?_;have M:=k.trans s2;refine⟨_,Z0 g2,rfl,?_⟩;have I:=rd.mono M
   by_cases mr:r∈rs.map λx=>x.1.1
   case neg=>
    rw[Pj (by
     rintro⟨ps,h1,_⟩;obtain⟨x,hx,ex⟩:=ZU.mp (G6 h1);exact mr (ZU.mpr ⟨x,hx,by rw[ex]⟩))]at q
    exact⟨CW,_,_,_,I.ins,T.cl,T.td,RW _,_,I.no mr,_,rfl,V1 (by simp) (q _ M)⟩
   obtain⟨x,hx,rfl⟩:=ZU.mp mr;have hh:Y2 (rs.map (·.1)) x.1.1=some x.1.2:=Xe (h:=x.1) (by rw[za];exact rd.nd) (ZU.mpr ⟨x,hx,rfl⟩);obtain⟨v1,h1,h2⟩:=I.at hx;obtain⟨ta,u,w',rfl,L1,J5,_⟩:=Ut h2;refine⟨CW,_,_,_,I.ins,T.cl,T.td,RW _,_,h1,_,rfl,Y9 (by simp) ?_⟩;refine⟨_,_,I.ins,rfl,A',kw,rs,x,I,hx,rfl,_,rfl,?_⟩
   by_cases cy:x.1.2.2=y
   case neg=>
    rw[Pj (by rintro⟨ps,h1,_⟩;rw[hh]at h1;exact cy (congrArg (·.2) (ZP h1)))]at q;exact V1 (by simp[cy]) (q _ M)
   subst cy;refine Y9 (by simp) ?_;rw[S3 hh]at q;refine⟨⟨_,Z0 (M _ _ hl)⟩,?_⟩;refine Uu (us:=as) (D:=Bd.dat) (F:=λb=>Tr (kdn Z (Y2 (X.map (·.1))) 13 U b)) (λH' s=>itt (Z0 (s _ _ (M _ _ hl)))) (hy.mono M) (by omega) (λe x' H5 R hm s5 R3 hR=>?_) λvs q1 H5 fq s5 J1 S=>?_
   .have J:=M.trans s5
    exact⟨CW,_,_,_,J _ _ rd.ins,T.cl,T.bk,FK _,⟨A'.bk,a,x',Z,c,d,X,U,e,be.mono J,nk,ha.same J,k3,R3,bo e hm,λH6 s6=>hR _ _ s6 (Kq _)⟩⟩
   have J4:=I.mono s5;obtain⟨v1,h1,h2⟩:=J4.at hx;obtain⟨ta,u,w',rfl,L1,J5,_⟩:=Ut h2;refine⟨CW,_,_,_,J4.ins,T.cl,T.td,RW _,_,h1,_,_,Z0 L1,rfl,u,x.1.2.1,J5,p3 x hx,λl6 H6 f6 s6 g6=>?_⟩;rw[Cv (kdn Z (Y2 (X.map (·.1))) 13 U) as]at S;generalize kdn Z (Y2 (X.map (·.1))) 13 U=kd at S q;refine⟨.lst ((as.map kd).map Tr),.lst ((x.1.2.1.map (·.2)).map Dat.str),VQ (s6 _ _ J1) (S.mono s6),VQ g6 (VZ _),Ox _,?_⟩;rw[SN];exact q _ ((M.trans s5).trans s6)
  .intro N key
   rcases go with⟨nt,rfl⟩|⟨rfl,e,u,rest,rfl,he,F1,rfl⟩
   .exact ⟨_,_,Z0 hb,Yq (j:=0) rfl,rfl,_,rfl,Y9 (λz=>nt (V.str.inj (Zr z))) (key _ _ ⟨Z6 _,rfl,by unfold rbG;rfl⟩)⟩
   .refine ⟨_,_,Z0 hb,Yq (j:=0) rfl,rfl,_,rfl,V1 (by decide +kernel) ?_⟩
    refine⟨CW,_,_,_,rd.ins,T.cl,T.bk,FK _,_,_,Z0 hb,Yq (j:=1) rfl,⟨A'.bk,a,u,Z,c,d,X,U,e,be,nk,ha,k3,he,F1,λH1 k=>?_⟩⟩;refine⟨Ir _ _,_,rfl,?_⟩
    by_cases ce:kdn Z (Y2 (X.map (·.1))) 13 U e=some y
    .refine Y9 (by rw[ce];simp[Uq]) (key _ _ ⟨k,rfl,?_⟩)
     unfold rbG;rw[decide_eq_true ce];rfl
    .refine V1 ?_ ?_
     .rw [Zw λz=>ce (Oy.mp z)];rfl
     .have:=q _ k
      unfold rbG at this;rw[Zw ce]at this;exact this
theorem QH(B:Blt Z)(T:RCl K CW)(U:BCl K C)(S:KCl K CK)(F:Fun K "is_body" "Rows.is_body" Ma f O)(p:3<=L)(J:Vn K CW "is_body" f)(R:Binds K O rbp [])(N:Vn K C "kinds" r)(z:Yk P w K Z base CX0 L r e ["self"] (JE C CK))(I:Binds K e ["self"] [])(M:Vn K CK "shape_of" u)(j:Yk P w K Z base CX0 L u l ["self","kind"] (Jy CK))(A:Binds K l ["self","kind"] [])(G:Vn K CW "kind_of" g3)(X:Yk P w K Z base CX0 L g3 d3 ["self","r"] (OM CW))(D:Binds K d3 ["self","r"] [])(g:Df P w K Z base L "kind_around" ["book","around","body"] (BS C CK))(t:Df P w K Z base L "kinds_of" ["parameters"] Il):∀m,Yk P w K Z base CX0 (L+m) f O rbp (Ik CW C CK m)
 |0=>.none λo H Q E h=>by
  obtain⟨A',a,y,v,kw,i,ks,c,d,ds,kv,b,s,n,be,x,ha,k3,hv,k,q⟩:=h;cases k
 |m+1=>Aj (L:=L+m) B T U S F (by omega) J (QH B T U S F p J R N z I M j A G X D g t m) R N (z.mono (by omega)) I M (j.mono (by omega)) A G (X.mono (by omega)) D (g.up (by omega)) (t.up (by omega))
end
end K4
namespace L2
open PySem
structure RB0(Hm H:Hp)(CW:Addr)(A:RA7):Prop where
 ins:H A.t=some (.ins CW A.dx (GO A))
 sm:Same Hm H
 nd:Hm A.td=none
 n1:A.t≠A.td
theorem RB0.same{Z:Addr}(b:RB0 J H Z A)(s:Same H G):RB0 J G Z A:=⟨s _ _ b.ins,b.sm.trans s,b.nd,b.n1⟩
theorem RB0.td{Z:Addr}(b:RB0 J H Z A)(o:HO):RB0 J (upd H A.td o) Z A:=⟨by rw[Yd b.n1];exact b.ins,b.sm.putN b.nd,b.nd,b.n1⟩
theorem RD.put{M:Addr}(r:RD H M A kw rs)(O:A.t≠A.td)(G:x.1.1∉rs.map λx=>x.1.1)(R:Has H v (GL x)):RD (upd H A.td (.dK (putK kw (Sum.inr x.1.1) v))) M A (putK kw (Sum.inr x.1.1) v) (rs++[x]):=by
 have L:VH kw (Sum.inr x.1.1)=none:=Uz (by
  rw[r.ke];intro z;obtain⟨N,J,T⟩:=ZU.mp z;exact G (ZU.mpr ⟨N,J,Sum.inr.inj T⟩))
 have Z:TK H (upd H A.td (.dK (putK kw (Sum.inr x.1.1) v))):=Ue r.td λB z=>nomatch z
 refine⟨by rw[Yd O];exact r.ins,Ya,?_,?_,?_⟩
 .rw [Um v L,ZI,ZI,r.ke];rfl
 .rw [Um v L]at Z |-
  rw[ZI,ZI];exact Z5 (VS Z _ (Y0 NJ rs) r.va) (Z3 (Jd Z _ (NJ x) R))
 .rw [ZI]
  exact EN r.nd G
end L2
namespace K4
open PySem L2
section
variable{C CK CW:Addr}
inductive SRT(CW C CK:Addr)(H:Hp)(Q:VK):List V->Prop
 |mk (Hm:Hp) (A:RA7) (la:Addr) (xs:List V) (rs:List Rw) (ks:List (Str×Shp)) (ns:List Str) (c d:Str->Nat) (ds:List Dd) (rb:RB0 Hm H CW A) (td:H A.td=some (.dK [])) (be:BE Hm C CK A.bk ks c d ds) (hl:Hm la=some (.lst xs)) (hx:HasL Hm xs (rs.map Vz)) (r1:1<=rs.length) (l6:rs.length<=6)
  (wd:Wds 97 (rs.map λx=>x.1.1)) (ho:∀x∈rs,UW ns c 24 x.1) (fk:FlK ks ns) (q:∀H' kw,RB0 Hm H' CW A->RD H' CW A kw rs->Q .non H'):SRT CW C CK H Q [.ref A.t,.ref la]
def Qt(CW C CK:Addr):Sp:=λZ H Q _=>SRT CW C CK H Q Z
theorem Ri:Yo ["self","told","number","name","parameters","kind","body"] ["self","told"] (Yc Bh):=Y3
theorem Ac(B:Blt X)(me:X "enumerate"=none)(T:RCl K CW)(F:Fun K "take_heads" "Rows.take_heads" Bh f fd)(h1:X "MOST_ROWS_rows"=some u1)(r1:RelV (.int 6) u1)(mH:Vn K CW "is_head" g)(GH:Yk P w K X base CX0 n g gd ["self","name","parameters","kind"] (Ij CW C CK))(bH:Binds K gd ["self","name","parameters","kind"] []):Yk P w K X base CX0 (n+1) f fd ["self","told"] (Qt CW C CK):=by
 refine F.oi Ri λG2 A o s H vs Q E hr h=>?_;obtain⟨Hm,m,j,xs,e,ks,ns,c,d,ds,L,td,be,t,hx,l1,l6,wd,ho,fk,q⟩:=h;have hu:=Jl hr;have lx:=hx.length;rw[ZA]at lx;refine⟨_,YW (Y5 (Ys V9 (Yr Yj rfl B.len Zs (pa1 (pv 1))) YX (Yy _)) (YY V8) Yv)
  (YW (Y5 (Ys Ur (Yr Yj rfl B.len Zs (pa1 (pv 1))) (JL rfl h1 r1) (Yy _)) (YY V8) Yv)
  (YY (Vo Zt rfl (U9 rfl me (pa1 (pv 1))) (VE (n:=2) rfl (Ye (YZ 2 Ri.nd) (Ye (EI rfl (YZ 3 Ri.nd) (YZ 4 Ri.nd) (YZ 5 Ri.nd) (YZ 6 Ri.nd)) Y6)))
   (YW (Y5 (Ja (JZ (Vg (pv 0) T.cl mH GH hr bH .nil VI (pa3 (pv 3) (pv 4) (pv 5))))) (YY V8) Yv)
   (YY (JK hu (Y8 (pv 0) rfl) (pv 3) (Yx (pa3 (pv 4) (pv 5) (pv 6))) rfl)))))),?_⟩
 dsimp only[Vl,Cx.nox,Cx.wish];show let T0:=_;let T1:=_;let T2:=Yh (VN _ T1 _) T0;let T3:=Jx _ _ T2;let T4:=_;let T5:=Yh (VN _ T4 _) T3;let T6:=_;Yh (VN _ T6 _) T5 _ _ _
 intros
 refine⟨j,_,rfl,.inl (Z1 (L.sm _ _ t)),rfl,_,rfl,Y9 (λz=>by have z1:=Zr z;injection z1 with R;omega) ?_⟩;refine⟨j,_,rfl,.inl (Z1 (L.sm _ _ t)),_,rfl,Y9 (λz=>by have z1:=Zr z;omega) ?_⟩;refine⟨j,false,xs,rfl,Z1 (L.sm _ _ t),?_⟩
 let I:kH:=λi U G=>RB0 Hm G CW m/\∃(J:kE)(R b l v p:kJ),RD G CW m J (e.take i)/\U=[some (.ref m.t),some (.ref j),R,b,l,v,p]
 refine Xq (tp:=false) (xs:=xs) I ⟨L,[],_,_,_,_,_,⟨L.ins,td,rfl,Z4,List.nodup_nil⟩,rfl⟩ (λi U G _ z=>Z1 (z.1.sm _ _ t)) ?_ ?_
 .rintro BB' RR i x U G r hxi ⟨bi,J,R,b,l,v,p,rdi,rfl⟩ hr'
  obtain⟨Z,hc,G1⟩:=getD hx hxi;have hm:=ZH hc;refine up_in hr' _ λHR sR gR=>?_;have O:=bi.same sR;have rR:=rdi.mono sR;obtain⟨ta,u,us,wv,rfl,J4,J1,Z9,a⟩:=JT (G1.mono O.sm);have M:Has HR (.ref u) (psD Z.1.2.1):=by rw[Mr];exact Yn J1 Z9
  have nx:Z.1.1∉(e.take i).map λy=>y.1.1:=by
   rw[yj];exact Ws wd.nd (show(e.map λy:Rw=>y.1.1)[i]?=some Z.1.1 by rw[ZG,hc];rfl)
  have nk:VH J (Sum.inr Z.1.1)=none:=Uz (by
   rw[rdi.ke];intro z;obtain⟨q1,J5,e1⟩:=ZU.mp z;exact nx (ZU.mpr ⟨q1,J5,Sum.inr.inj e1⟩))
  have lk:J.length<=6:=by
   have:=congrArg List.length rdi.ke;rw[ZA,ZA,ZL]at this;omega
  refine⟨_,Z0 gR,rfl,⟨_,Z0 J4,rfl,?_⟩⟩;refine⟨_,_,O.ins,rfl,m,J,Z.1,.ref u,ks,ns,c,d,ds,O.ins,rR.td,nk,be.mono O.sm,wd.wdS (ZU.mpr ⟨Z,hm,rfl⟩),M,ho Z hm,fk,λH1 S=>⟨_,rfl,Y9 (by simp) ?_⟩⟩;refine⟨sl 3,λtt J2=>?_⟩;refine up_in J2 _ λH3 D g3=>?_;have b3:=(O.same S).same D;have r3:=(rR.mono S).mono D;have Z8:Has H3 (.ref tt) (GL Z):=Yn g3 (Z2 ((M.mono S).mono D) (Z2 Yu (Z3 ((a.mono S).mono D))));refine⟨CW,_,_,_,b3.ins,T.cl,T.td,RW _,_,Uk.k (k:=Sum.inr Z.1.1) r3.td (Yp (by omega)),?_⟩;have N:=r3.put b3.n1 nx Z8;rw[<-take_snoc hc]at N;exact⟨b3.td _,_,_,_,_,_,_,N,rfl⟩
 .rintro U G ⟨bi,J,R,b,l,v,p,rdi,rfl⟩
  rw[Ze (by omega)]at rdi;exact q G J bi rdi
end
end K4
namespace L2
open PySem
noncomputable def rG (ks:kL) (hd:Hds) (rs:List Rw) (x:Rw):Bool:=rbG (kdn ks hd 13 (kvP x.1.2.1)) ks (Y2 (rs.map (·.1))) x.1.2.2 3 x.2
def GG(ks:kL)(hd:Hds)(rs:List Rw)(k:Nat):Prop:=∃x,rs[k]?=some x/\(∀i y,i<k->rs[i]?=some y->rG ks hd rs y=true)/\rG ks hd rs x=false
def LA(N:Addr)(Hm:Hp)(E:XK)(k:Nat):Prop:=∀Z d,Same Hm Z->Z d=some (xdO d [("number",.int (k:Nat))])->E (.ref N) (some d) Z
theorem RK.ro:∀{n:Nat}{b:Rb},RK B D rh T y n b->RO (n+1) b
 |n,.on r as,h=>by
  cases h with
  |on M Z L=>exact .on (λa G=>by
    obtain⟨i,J⟩:=zh.mp G;have l:=(ZE.mp J).1;rw[Z.1]at l;exact(Z.2 i _ a (ZC l) J).bo) (by omega)
 |n,.thn e r as,h=>by
  cases h with
  |thn R M Z L=>exact .thn R.bo (λa G=>by
    obtain⟨i,J⟩:=zh.mp G;have l:=(ZE.mp J).1;rw[Z.1]at l;exact(Z.2 i _ a (ZC l) J).bo) (by omega)
 |0,.br e ts bs,h=>by cases h
 |n+1,.br e ts bs,h=>by
  cases h with
  |br M Z L A F E O=>exact .br Z.bo L (by omega) λb N=>(O b N).ro
theorem Ee(T:KG Z)(R:∀z G,VG Z z=some (.tags G)->1<=G.length)(h:Each (λ(O:Str×Str) b=>Sd Z M J O.2 5 b) L N):N.map (kdn Z M 13 J)=(L.map (·.2)).map some:=by
 apply yx;intro i;rw[ZG,ZG,ZG]
 cases ea:N[i]? with
 |none=>
  have:L[i]?=none:=by rw[zo]at ea |-;rw[<-h.1];exact ea
  rw[this];rfl
 |some a=>
  have l:=(ZE.mp ea).1;rw[h.1]at l;have s:=h.2 i _ a (ZC l) ea;rw[ZC l];show some (kdn Z M 13 J a)=_;rw[s.kd.kdn T R 13 J a _ (by have:=s.dep;omega)];rfl
theorem EB(M:KG Z)(L:∀z J,VG Z z=some (.tags J)->1<=J.length)(s:Sd Z N G y 5 e):kdn Z N 13 G e=some y:=s.kd.kdn M L 13 G e _ (by have:=s.dep;omega)
theorem RK.good(J:KG N)(Z:∀z M,VG N z=some (.tags M)->1<=M.length):∀{n:Nat}{b:Rb},RK N T rh R y n b->rbG (kdn N T 13 R) N rh y (n+1) b=true
 |n,.on r as,h=>by
  cases h with
  |on L G O=>unfold rbG;rw[S3 L];exact decide_eq_true (Ee J Z G)
 |n,.thn e r as,h=>by
  cases h with
  |thn E L G O=>
   unfold rbG;rw[S3 L,EB J Z E];simp[Ee J Z G]
 |0,.br e M bs,h=>by cases h
 |n+1,.br e M bs,h=>by
  cases h with
  |br L G O I A F D=>
   rw[Mn ⟨_,EB J Z G,L⟩,vC];exact λb B=>(D b B).good J Z
end L2
namespace K4
open PySem L2
section
variable{C CK CW N:Addr}
theorem Cg:Yo ["self","number"] ["self","number"] (Yc Mc):=Y3
theorem FT(F:Fun K "__init__" "NoRows.__init__" Mc f O)(c:XCl K N f)(G:W.findIn K (.ref N) "number"=some none):Yk P w K B base CX0 (n+1) f O ["self","number"] (E8 N "number"):=by
 refine F.oq Cg λR A Z s H T Q E D h=>?_;obtain⟨I,a,rfl,L,q⟩:=h;refine⟨_,YY (Aa c G (pv 0) (pv 1)),?_⟩;exact⟨L,λd M J=>q d M J⟩
theorem Fun.oiX{K:W.Frag}{L:Stmt}(F:Fun K x qual L f I)(S:Yo M B (Yc L))(J:∀(O:Value)(A:Around)(Z:List Env)(s:Shared)(H:Hp)(G:kF)(Q:VK)(E:XK),Vk k (A.deeper (PyProof.Rows.envOfC qual (Yc L) s.heap.objs.size f O))->T G H Q E->
   ∃t,PSs (Vl (CX1 P w) P w K D base M qual (Yc L) f O A Z s H E) (JW L) t/\t {nx:=λ_ U=>Q .non U,rt:=Q} (L2.start M G) H)(R:∀G H Q E,T G H Q E->G.length=B.length:=by intro G H Q E h;cases h;rfl):Yk P w K D base (CX1 P w) (k+1) f I B T:=F.okX S R J
inductive SRC(CW C CK N:Addr)(H:Hp)(Q:VK)(E:XK):List V->Prop
 |mk (A:RA7) (kw:List (Key×V)) (rs:List Rw) (ks:List (Str×Shp)) (ns:List Str) (c d:Str->Nat) (ds:List Dd) (rd:RD H CW A kw rs) (be:BE H C CK A.bk ks c d ds) (ho:∀x∈rs,UW ns c 24 x.1) (fk:FlK ks ns) (ro:∀x∈rs,RO 3 x.2) (l6:rs.length<=6)
  (q:(∀x∈rs,rG ks (Y2 (ds.map (·.1))) rs x=true)->∀H',Same H H'->Q .non H') (qx:∀k,GG ks (Y2 (ds.map (·.1))) rs k->LA N H E k):SRC CW C CK N H Q E [.ref A.t]
def Qv(CW C CK N:Addr):Sp:=λZ H Q E=>SRC CW C CK N H Q E Z
theorem FF:Yo ["self","number","name","parameters","kind","body"] ["self"] (Yc MZ):=Y3
theorem Ai(B:Blt O)(me:O "enumerate"=none)(T:RCl K CW)(F:Fun K "check_bodies" "Rows.check_bodies" MZ f fd)(hN:O "NoRows"=some (.ref N))(cN:XCl K N fI)(kN:W.keepIn K (.ref N)=true)(hf:W.isFn K (.ref fI)=true)(GI:Yk P w K O base CX0 n fI iD ["self","number"] (E8 N "number"))(bI:Binds K iD ["self","number"] [])(mH:Vn K CW "names" g)(GH:Yk P w K O base CX0 (n+1) g gd ["self"] (Ih CW))(bH:Binds K gd ["self"] [])(mB:Vn K CW "is_body" g2)(GB:Yk P w K O base CX0 (n+1) g2 d2 rbp (Ik CW C CK 3))(bB:Binds K d2 rbp []):Yk P w K O base (CX1 P w) (n+2) f fd ["self"] (Qv CW C CK N):=by
 refine Fun.oiX F FF λM2 A Z8 s H vs Q E o h=>?_;obtain⟨A',kw,M,ks,ns,c,d,ds,rd,be,ho,fk,ro,l6,q,qx⟩:=h;have hu:=Jl o;refine⟨_,YY (Vo PassesOwn.leaving rfl (U9 rfl me (pa1 (VU (pv 0) T.cl mH GH o bH .nil VI))) (VE (n:=2) rfl (Ye (YZ 1 FF.nd) (Ye (YZ 2 FF.nd) Y6)))
   (YW (JP (JM hu (Y8 (pv 0) rfl) (pv 2) (λ_ _=>rfl)) (VE (n:=3) rfl (Ye (YZ 3 FF.nd) (Ye (YZ 4 FF.nd) (Ye (YZ 5 FF.nd) Y6)))))
   (YY (Y5 (Ja (JZ (Vg (pv 0) T.cl mB GB o bB .nil VI (pa3 (VA (Ux rfl) rfl B.dict WA (pa1 (pv 3))) (pv 4) (pv 5))))) (YY (B2 EQ rfl rfl rfl hN cN kN hf GI o bI (pa1 (pv 1)))) Yv)))),?_⟩
 dsimp only[Vl,Cx.nox,Cx.wish];show let T0:=_;let T1:=VN _ T0 _;let T2:=Yh _ T1;Jx _ _ T2 _ _ _
 intros
 refine⟨_,_,rd.ins,rfl,A',kw,M,rd,λnl H1 L1 s1 t=>?_⟩;refine⟨nl,false,_,rfl,Z1 t,?_⟩
 let I:kH:=λi U k=>Same H1 k/\(∀j y,j<i->M[j]?=some y->rG ks (Y2 (ds.map (·.1))) M y=true)/\∃(z1 z2 z3 z4 z5:kJ),U=[some (.ref A'.t),z1,z2,z3,z4,z5]
 refine Xq (tp:=false) (xs:=(M.map λx=>x.1.1).map V.str) I ⟨Z6 _,λj y m=>Zp m (Zu _),_,_,_,_,_,rfl⟩ (λi U k _ z=>Z1 (z.1 _ _ t)) ?_ ?_
 .rintro BB' RR i x U k r b ⟨si,good,z1,z2,z3,z4,z5,rfl⟩ hr'
  rw[za,ZG]at b;obtain⟨Z,hc,rfl⟩:=Zh.mp b;have hm:=ZH hc;have o1:=ho Z hm;refine up_in hr' _ λHR sR gR=>?_;have R:=(s1.trans si).trans sR;have J:=rd.mono R;obtain⟨v,e1,e2⟩:=J.at hm;obtain⟨ta,u,wv,rfl,J4,X,J2⟩:=Ut e2;refine⟨_,Z0 gR,rfl,?_⟩;refine⟨CW,_,_,_,J.ins,T.cl,T.td,RW _,_,e1,?_⟩;refine⟨_,Z0 J4,rfl,?_⟩;unfold psD at X;obtain⟨l,xp,rfl,hl,S⟩:=Yz X;obtain⟨tp,rfl,L⟩:=B3 (K:=K) S;replace L:E3 K HR tp (kvP Z.1.2.1):=L;have G3:(kvP Z.1.2.1).length=Z.1.2.1.length:=ZA _;have G:=o1.nd
  have Z9:((kvP Z.1.2.1).map (·.1)).Nodup:=by
   unfold kvP;rw[za];unfold List.Nodup at G |-;rw[yz]at G |-;exact G.imp λJ5 q=>J5 (Sum.inr.inj q)
  refine⟨_,_,J.ins,rfl,l,tp,_,rfl,hl,L,Z9,λaA G1=>?_⟩;refine up_in G1 _ λH3 p g3=>?_;have l3:=o1.len;have D:=R.trans p;refine⟨A',aA,Z.1.2.2,wv,kw,M,ks,c,d,ds,kvP Z.1.2.1,Z.2,J.mono p,λx' J1=>(ho x' J1).len,be.mono D,λq' hq=>?_,.inl g3,by omega,J2.mono p,ro Z hm,λH4 s4=>?_⟩
  .obtain ⟨pr,hpr,rfl⟩:=ZU.mp hq
   exact⟨pr.1,pr.2,rfl,fk.mem (o1.kin pr hpr)⟩
  have a:=D.trans s4;refine⟨_,rfl,?_⟩
  cases eg:rG ks (Y2 (ds.map (·.1))) M Z with
  |true=>
   unfold rG at eg;refine Y9 (by rw[eg];decide) ?_;refine⟨((si.trans sR).trans p).trans s4,λj y m hy=>?_,_,_,_,_,_,rfl⟩;rcases Nat.lt_succ_iff_lt_or_eq.mp m with m|rfl
   .exact good j y m hy
   .rw [hc]at hy
    cases hy;exact eg
  |false=>
   have G2:=qx i ⟨Z,hc,good,eg⟩;unfold rG at eg;exact V1 (by rw[eg];rfl) ⟨_,rfl,λe he=>G2 _ e (a.trans (Yg he _)) Ya⟩
 .rintro U k ⟨si,good,_⟩
  exact q (λx b=>by
   obtain⟨i,hi,e⟩:=List.getElem_of_mem b;exact good i x (by rw[ZA,ZA];exact hi) (by rw[ZC hi,e])) k (s1.trans si)
end
end K4
namespace L2
open PySem
theorem IU(c:kM){Z:List Rw}(h:Z[i]?=some x):tot c ((Z.take (i+1)).map (·.1))=tot c ((Z.take i).map (·.1))+Vy c x.1.2.1:=by
 rw[take_snoc h,ZI];exact NI c _ _
theorem Qk(c:kM)(Z:List Rw)(i:Nat):tot c ((Z.take i).map (·.1))<=tot c (Z.map (·.1)):=by
 have:tot c (Z.map (·.1))=tot c ((Z.take i).map (·.1))+tot c ((Z.drop i).map (·.1)):=by
  unfold tot;rw[<-vM,<-ZI,<-ZI,zZ]
 omega
end L2
namespace K4
open PySem L2
section
variable{C CK CW N:Addr}
inductive SRS(CW C CK:Addr)(H:Hp)(Q:VK):List V->Prop
 |mk (A:RA7) (kw:List (Key×V)) (rs:List Rw) (ks:List (Str×Shp)) (ns:List Str) (c d:Str->Nat) (ds:List Dd) (rd:RD H CW A kw rs) (be:BE H C CK A.bk ks c d ds) (ho:∀x∈rs,UW ns c 24 x.1) (fk:FlK ks ns) (to:tot c (rs.map (·.1))<=24)
  (q:∀H',Same H H'->Q .non H'):SRS CW C CK H Q [.ref A.t]
def Qu(CW C CK:Addr):Sp:=λZ H Q _=>SRS CW C CK H Q Z
theorem Iz:Yo ["self","in_all","number","name"] ["self"] (Yc Td):=Y3
theorem Ad(B:Blt J)(me:J "enumerate"=none)(T:RCl K CW)(TB:BCl K C)(F:Fun K "check_stands" "Rows.check_stands" Td f fd)(h1:J "MOST_STANDS"=some u1)(r1:RelV (.int 24) u1)(mH:Vn K CW "names" g)(GH:Yk P w K J base CX0 n g gd ["self"] (Ih CW))(bH:Binds K gd ["self"] [])(m1:Vn K C "kinds" g1)(G1:Yk P w K J base CX0 n g1 d1 ["self"] (JE C CK))(b1:Binds K d1 ["self"] [])(DC:Df P w K J base n "row_count" ["kinds","parameters"] (U2 CK)):Yk P w K J base CX0 (n+1) f fd ["self"] (Qu CW C CK):=by
 refine F.oi Iz λJ2 A y s H vs Q E D h=>?_;obtain⟨k,kw,R,e,ns,c,d,ds,j,be,ho,fk,to,q⟩:=h;have hu:=Jl D;refine⟨_,YW (Ym 1 Iz.nd YX) (YY (Vo Zt rfl (U9 rfl me (pa1 (VU (pv 0) T.cl mH GH D bH .nil VI))) (VE (n:=2) rfl (Ye (YZ 2 Iz.nd) (Ye (YZ 3 Iz.nd) Y6)))
   (YW (B4 (i:=1) Iz.nd rfl (Or.inl rfl) (Yw DC D (pa2 (VU (Y8 (pv 0) rfl) TB.cl m1 G1 D b1 .nil VI) (Yi Yl (JM hu (Y8 (pv 0) rfl) (pv 3) (λ_ _=>rfl)) YX))) EW)
   (YY (Y5 (Ys Ur (pv 1) (JL rfl h1 r1) (Yy _)) (YY V8) Yv))))),?_⟩
 dsimp only[Vl,Cx.nox,Cx.wish];show let T0:=_;let T1:=VN _ T0 _;let T2:=Yh _ T1;let T3:=Jx _ _ T2;Yh _ T3 _ _ _
 intros
 refine Gf ?_;refine⟨_,_,j.ins,rfl,k,kw,R,j,λnl H1 J1 b L=>?_⟩;refine⟨nl,false,_,rfl,Z1 L,?_⟩
 let I:kH:=λi U O=>Same H1 O/\∃(X S:kJ),U=[some (.ref k.t),some (.int (tot c ((R.take i).map (·.1)):Nat)),X,S]
 refine Xq (tp:=false) (xs:=(R.map λx=>x.1.1).map V.str) I ⟨Z6 _,_,_,rfl⟩ (λi U O _ z=>Z1 (z.1 _ _ L)) ?_ ?_
 .rintro BB' RR i x U O r hx ⟨si,X,S,rfl⟩ hr'
  rw[za,ZG]at hx;obtain⟨dx,a,rfl⟩:=Zh.mp hx;have o:=ZH a;have o1:=ho dx o;have tt:=IU c a;have tl:=Qk c R (i+1);refine up_in hr' _ λHR l gR=>?_;have G:=(b.trans si).trans l;have Z:=j.mono G;have M:=be.mono G;obtain⟨v,e1,e2⟩:=Z.at o;obtain⟨ta,u,wv,rfl,m,t,Z9⟩:=Ut e2;obtain⟨AB,Z8,eB,bd⟩:=id M.bi;refine⟨_,Z0 gR,rfl,?_⟩;refine⟨_,rfl,CW,_,_,_,Z.ins,T.cl,T.bk,FK _,_,_,by rw[<-eB];exact bd.ins,rfl,k.bk,e,d,ds,rfl,M.bi,λso ki=>?_⟩;refine⟨CW,_,_,_,Z.ins,T.cl,T.td,RW _,_,e1,_,_,Z0 m,rfl,?_⟩;refine⟨so,e,c,d,dx.1.2.1,u,rfl,ki,be.kk,t,λp hp=>fk.mem (o1.kin p hp),by omega,λH2 s2=>?_⟩;refine⟨_,rfl,Y9 (λz=>by have z1:=Zr z;omega) ?_⟩;exact⟨(si.trans l).trans s2,_,_,by rw[tt];rfl⟩
 .rintro U O ⟨si,X,S,rfl⟩
  exact q O (b.trans si)
end
section
variable{C CK CW N:Addr}
theorem Cj(A:RA7):(GO A).lookup ("take_heads":Str)=none:=rfl
theorem Cm(A:RA7):(GO A).lookup ("check_bodies":Str)=none:=rfl
theorem Ck(A:RA7):(GO A).lookup ("check_stands":Str)=none:=rfl
inductive SRI(CW C CK N:Addr)(H:Hp)(Q:VK)(E:XK):List V->Prop
 |mk (Hm:Hp) (x dx bk la:Addr) (xs:List V) (rs:List Rw) (ks:List (Str×Shp)) (ns:List Str) (c d:Str->Nat) (ds:List Dd) (hx:H x=some (.ins CW dx [])) (sm:Same Hm H) (xm:Hm x=none) (be:BE Hm C CK bk ks c d ds) (hl:Hm la=some (.lst xs)) (hr:HasL Hm xs (rs.map Vz)) (r1:1<=rs.length) (l6:rs.length<=6)
  (wd:Wds 97 (rs.map λx=>x.1.1)) (ho:∀x∈rs,UW ns c 24 x.1) (fk:FlK ks ns) (ro:∀x∈rs,RO 3 x.2) (to:tot c (rs.map (·.1))<=24)
  (q:(∀x∈rs,rG ks (Y2 (ds.map (·.1))) rs x=true)->∀H' A kw,Same Hm H'->A.t=x->RD H' CW A kw rs->Q .non H') (qx:∀k,GG ks (Y2 (ds.map (·.1))) rs k->LA N Hm E k):SRI CW C CK N H Q E [.ref x,.ref bk,.ref la]
def Ii(CW C CK N:Addr):Sp:=λZ H Q E=>SRI CW C CK N H Q E Z
theorem Cf:Yo ["self","book","told"] ["self","book","told"] (Yc MY):=Y3
theorem Ag(T:RCl K CW)(F:Fun K "__init__" "Rows.__init__" MY f fd)(m1:Vn K CW "take_heads" g1)(G1:Yk P w K y base CX0 n g1 d1 ["self","told"] (Qt CW C CK))(b1:Binds K d1 ["self","told"] [])(m2:Vn K CW "check_bodies" g2)(G2:Yk P w K y base (CX1 P w) n g2 d2 ["self"] (Qv CW C CK N))(b2:Binds K d2 ["self"] [])(m3:Vn K CW "check_stands" g3)(G3:Yk P w K y base CX0 n g3 d3 ["self"] (Qu CW C CK))(b3:Binds K d3 ["self"] []):
  Yk P w K y base (CX1 P w) (n+1) f fd ["self","book","told"] (Ii CW C CK N):=by
 refine Fun.oiX F Cf λZ8 A M s H vs Q E i h=>?_;obtain⟨D,x,J,R,la,xs,m,r,u,c,d,ds,hx,sm,xm,be,hl,l,l1,l6,wd,a,fk,ro,to,q,qx⟩:=h;have ps:UV (CX1 P w) (Vl (CX1 P w) P w K y base ["self","book","told"] "Rows.__init__" (Yc MY) f Z8 A M s H E) E:=EQ.passes rfl;refine⟨_,YW (J0 (pv 0) (pv 1) rfl) (YW (J0 (pv 0) JQ rfl) (YW (J0 (pv 0) JQ rfl)
  (YW (VO (Vg (pv 0) T.cl m1 G1 i b1 .nil VI (pa1 (pv 2))))
  (YW (VO (VU (pv 0) T.cl m2 G2 i b2 .nil ps))
  (YY (VO (VU (pv 0) T.cl m3 G3 i b3 .nil VI))))))),?_⟩
 dsimp only[Vl,Cx.nox,Cx.wish];show let T0:=_;let T1:=Yh _ T0;let T2:=Yh _ T1;let T3:=Yh _ T2;let T4:=Yh _ T3;Yh _ T4 _ _ _
 intros
 refine⟨x,CW,J,_,rfl,hx,T.cl,T.bk,by decide,?_⟩;have X:upd H x (.ins CW J (VY "book" (.ref R) [])) x=some (.ins CW J (VY "book" (.ref R) [])):=Ya;have r9:∀b o,b≠x->H b=some o->upd H x (.ins CW J (VY "book" (.ref R) [])) b=some o:=λb o n e=>by rw[Yd n];exact e
 generalize upd H x (.ins CW J (VY "book" (.ref R) []))=H9 at X r9 |-;intro S O;refine⟨x,CW,J,_,rfl,by rw[Yd (Yf X O)];exact X,T.cl,T.td,(by show 1<1000;decide),?_⟩;obtain⟨j,a1,n1,e1⟩:=JU (f:="told") (o:=.dK []) X O;generalize upd (upd H9 S (.dK [])) x (.ins CW J (VY "told" (.ref S) (VY "book" (.ref R) [])))=H1 at j a1 e1 |-;intro g U;refine⟨x,CW,J,_,rfl,by rw[Yd (Yf j U)];exact j,T.cl,T.sd,(by show 2<1000;decide),?_⟩;obtain⟨t,a2,n2,e2⟩:=JU (f:="steps") (o:=.dK []) j U;generalize upd (upd H1 g (.dK [])) x (.ins CW J (VY "steps" (.ref g) (VY "told" (.ref S) (VY "book" (.ref R) []))))=H2 at t a2 e2 |-
 let G:RA7:=⟨x,J,R,S,g⟩
 have p:∀{b o},D b=some o->b≠x:=λ{b o} h z=>by rw[z,xm]at h;cases h
 have f9:Same D H9:=λb o h=>r9 b o (p h) (sm b o h);have s2:Same D H2:=λb o h=>e2 b o (p h) (e1 b o (p h) (f9 b o h))
 have rb:RB0 D H2 CW G:=⟨t,s2,(by
  cases e:D S with
  |none=>rfl
  |some o=>have:=f9 _ _ e;rw[O]at this;cases this),Zq n1⟩
 refine⟨_,_,t,Cj G,D,G,la,xs,m,r,u,c,d,ds,rb,e2 _ _ n1 a1,be,hl,l,l1,l6,wd,a,fk,λH3 v Z L=>?_⟩;refine⟨_,_,Z.ins,Cm G,G,v,m,r,u,c,d,ds,L,be.mono Z.sm,a,fk,ro,l6,λgood H4 B=>?_,λk fr H4 e B he=>qx k fr H4 e (Z.sm.trans B) he⟩;have I:=Z.sm.trans B;exact⟨_,_,B _ _ Z.ins,Ck G,G,v,m,r,u,c,d,ds,L.mono B,be.mono I,a,fk,to,λH5 s5=>q good H5 G v (I.trans s5) rfl ((L.mono B).mono s5)⟩
end
end K4
namespace L2
open PySem
theorem Ro:(y,Shp.tags Z)∈J->(y,Shp.tags Z)∈flat J:=λh=>ze.mpr ⟨h,rfl⟩
theorem LS(h:t∉Xw (flat ks)):kdn ks J (n+1) kv (.tag t)=none:=by
 rw[XE (ks:=ks) (kv:=kv) (b:=.tag t) (zs:=[]) (λz=>z) rfl];show JB ks t=none;unfold JB;rw[vk.mpr]
 .rfl
 .rintro ⟨y,s⟩ m z
  cases s with
  |tags Z=>exact h (E7 (Ro m) (Zr z))
  |pair a b=>cases z
theorem WT(L:KG J)(G:∀z Z,VG J z=some (.tags Z)->1<=Z.length)(h:VG J y=some (.tags Z))(m:t∈Z):kdn J hd 13 kv (.tag t)=some y:=(Kd.tag h m).kdn L G 13 kv _ y (by unfold Bd.dep;decide)
theorem Fd(h:VH kv (Sum.inr x)=none):kdn ks Z (n+1) kv (.name x)=none:=by
 rw[XE (ks:=ks) (kv:=kv) (b:=.name x) (zs:=[]) (λz=>z) rfl];show(VH kv (Sum.inr x)).bind Ie=none;rw[h];rfl
theorem Nn(h:J f=none):kdn ks J (n+1) kv (.ask f Z)=none:=by
 by_cases m:none∈(Bd.ask f Z).parts.map (kdn ks J n (wth kv (.ask f Z)))
 .exact Xd m
 .obtain ⟨zs,e⟩:=G9 m
  rw[XE (ks:=ks) (kv:=kv) (b:=.ask f Z) (λz=>z) e];unfold own;dsimp only;rw[h]
theorem Fc(J:(ks.map (·.1)).Nodup)(h:VG ks y=some (.tags O)):kdn ks M (n+1) kv (.pair a b)≠some y:=by
 intro e
 by_cases m:none∈(Bd.pair a b).parts.map (kdn ks M n (wth kv (.pair a b)))
 .rw [Xd m]at e;cases e
 .obtain ⟨zs,e2⟩:=G9 m
  rw[XE (ks:=ks) (kv:=kv) (b:=.pair a b) (λz=>z) e2]at e;unfold own at e;dsimp only at e
  split at e
  .unfold V0 at e
   obtain⟨⟨N,s⟩,Z,rfl⟩:=Zh.mp e;have L:=zw Z;have G:=List.find?_some Z;rw[UH J L]at h;cases h;cases G
  .cases e
structure Bad(ks:List (Str×Shp))(hd:Hds)(kv:List (Key×V))(y:Str)(b:Bd):Prop where
 bo:Bo b
 ne:kdn ks hd 13 kv b≠some y
theorem WB(t:Str):Bo (.tag t):=⟨by unfold Bd.ok;trivial,by unfold Bd.dep;decide,by unfold Bd.nl;trivial⟩
theorem P0(t:Str):Bo (.name t):=⟨by unfold Bd.ok;trivial,by unfold Bd.dep;decide,by unfold Bd.nl;trivial⟩
theorem Of(h:b∈J)(e:rbG kd Z rh y n b=false):rbG kd Z rh y (n+1) (.br x G J)=false:=by
 by_cases c:∃z,kd x=some z/\VG Z z=some (.tags G)
 .rw [Mn c]
  cases q:J.all (rbG kd Z rh y n)with
  |false=>rfl
  |true=>rw[vC.mp q b h]at e;cases e
 .exact Gw c
theorem Oe(h:¬ ∃Z,rh r=some (Z,y)/\J.map kd=(Z.map (·.2)).map some):rbG kd G rh y (n+1) (.on r J)=false:=by unfold rbG;exact Pj h
theorem Kb(h:¬ ∃Z,rh r=some (Z,y)/\J.map kd=(Z.map (·.2)).map some):rbG kd G rh y (n+1) (.thn e r J)=false:=by unfold rbG;rw[Pj h,vi]
theorem Kc(h:kd e≠some y):rbG kd Z rh y (n+1) (.thn e r J)=false:=by unfold rbG;rw[Zw h];rfl
theorem W6{α:Type}{us:List α}{D F:α->Dat}(t:α->Bool)(T:∀Z,Same H Z->Itx J Z B)(S:HasL H B (us.map D))(q:us.length<=10000)(X:∀u x M (R:Bool->V->Hp->Prop),u∈us->Same H M->Has M x (D u)->(∀v L,t u=true->Same M L->Has L v (F u)->R true v L)->(t u=false->R false .non M)->g x s0 M λA j=>tc A j λb L=>if b=true then te A L (R true)else R false .non L)(P:∀G p Z,H p=none->Same H Z->Z p=some (.lst G)->HasL Z G ((us.filter t).map F)->Q (.ref p) Z):RS J g tc te s0 Q H:=by
 have I:=S.length;rw[ZA]at I;refine RP B.length (Wi (by omega)) (λi G Z=>Same H Z/\G.length<=i/\HasL Z G (((us.take i).filter t).map F)) ⟨Z6 _,ZF _,Z4⟩ (λi G Z z=>z.2.1) ?_ ?_ ?_ ?_
 .rintro i G Z hi ⟨s,_⟩
  exact(T Z s).go i hi
 .rintro G Z ⟨s,_⟩
  exact(T Z s).stop
 .rintro i G Z x H'' R hi ⟨s,z2,z3⟩ yl rT rF
  obtain⟨rfl,y⟩:=(T Z s).yld i x H'' yl;obtain⟨u,O,C⟩:=getD S y;refine X u x _ R (ZH O) s (C.mono s) (λv L N E U=>rT _ _ ⟨s.trans E,by rw[ZJ];exact jo z2,?_⟩) λN=>rF _ ⟨s,jd z2,?_⟩
  .rw [Ub O,Zn N,ZI]
   exact Z5 (z3.mono E) (Z3 U)
  .rw [Ub O,Zo (by rw[N];exact Zg),zV]
   exact z3
 .rintro G Z p ⟨s,z2,z3⟩ hp
  rw[Ze (yq I.symm)]at z3;exact P G p _ (s.free hp) (s.trans (Yg hp _)) Ya (z3.mono (Yg hp _))
theorem Bd.dat_tag(t:Str):(Bd.tag t).dat=.tup [.str "tag",.str t]:=by unfold Bd.dat;rfl
theorem Bd.dat_pair(a b:Bd):(Bd.pair a b).dat=.tup [.str "pair",a.dat,b.dat]:=by(conv=>lhs;unfold Bd.dat)
theorem Bd.dat_ask0(f:Str):(Bd.ask f []).dat=.tup [.str "ask",.str f,.tup []]:=by unfold Bd.dat Bd.dats;rfl
theorem Pz(s t:Str):Bo (.pair (.tag s) (.tag t)):=⟨by simp[Bd.ok],by simp[Bd.dep],by simp[Bd.nl]⟩
theorem P2(f:Str):Bo (.ask f []):=⟨by simp[Bd.ok,Bd.oks],by simp[Bd.dep,Bd.deps],by simp[Bd.nl,Bd.nls]⟩
end L2
namespace K4
open PySem L2
section
theorem MV:Yo ["_law_pen","_law_kinds_here","_law_own","_law_strange","_law_word","_law_first","_law_some"] ["_law_pen","_law_kinds_here","_law_own","_law_strange"] (Yc Wx):=Y3
theorem LG:List.Nodup [("_law_kind":Str),"_law_shape","_law_own"]:=by decide +kernel
theorem Iq{t:Str}(e:t=alpha o)(h:R9 K H Q [.ref p,v,.str (alpha o)]):R9 K H Q [.ref p,v,.str t]:=e ▸ h
inductive SBF(K:W.Frag)(H:Hp)(Q:VK):List V->Prop
 |mk (p sa:Addr) (v sv:V) (y:Str) (ts:List Str) (ks:List (Str×Shp)) (c d:Str->Nat) (hd:Hds) (kv:List (Key×V)) (sb:Bd) (pn:Pen K sa H p) (hv:Has H v (.lst (ks.map Vq))) (kS:Xv ks c d) (nt:∀z ts,VG ks z=some (.tags ts)->1<=ts.length) (nd:hd "NoDef"=none) (hy:VG ks y=some (.tags ts)) (hs:Has H sv sb.dat) (bad:Bad ks hd kv y sb)
  (q:∀u b H',SameB p H H'->Pen K sa H' p->Has H' u b.dat->Bad ks hd kv y b->Q u H'):SBF K H Q [.ref p,v,.str y,sv]
def Io(K:W.Frag):Sp:=λZ H Q _=>SBF K H Q Z
theorem As(B:Blt mg)(F:Fun K "_law_bad_first" "_law_bad_first" Wx f fd)(DN:Df P w K mg base n "_law_next" pnm (JY K))(DF:Df P w K mg base n "_law_free" ["_law_pen","_law_taken","_law_letters"] (MQ K))(DT:Df P w K mg base n "_law_tags_told" ["_law_kinds_here"] MK)(DL:Df P w K mg base n "_law_flat_kinds" ["_law_kinds_here"] Xy):Yk P w K mg base CX0 (n+1) f fd ["_law_pen","_law_kinds_here","_law_own","_law_strange"] (Io K):=by
 refine F.oi MV λcdv A T9 s H L Q E hr h=>?_;obtain⟨p,sa,v,U,y,ts,Z,c,d,hd,kv,sb,pn,hv,J,nt,nd,hy,hs,bad,q⟩:=h;refine⟨_,YW (Ym 4 MV.nd (Yw DF hr (pa3 (pv 0) (Yw DT hr (pa1 (pv 1))) Y7)))
  (YW (Ym 5 MV.nd (Yx (pa2 Y7 (Yi Yl (Yi Yl (Yi Yl (Yi Y4 (pv 1) YX) YX) YX) YX))))
  (YW (Ym 6 MV.nd (Vs (pa4 (pv 3) (Yx (pa2 Y7 (pv 4))) (Yx (pa3 Y7 (pv 5) (pv 5))) (Yx (pa3 Y7 Y7 (Yx Vi))))))
  (YW (VO (Jk Zx yI yJ Wt (pv 6) (pa1 (Xl ["_law_kind","_law_shape"] [2] (VF (Yw DL hr (pa1 (pv 1)))) J3 (λcl C fp s H=>VE (n:=2) rfl (Ye (YZ 0 LG rfl (Or.inl rfl) (Or.inr rfl)) (Ye (YZ 1 LG rfl (Or.inl rfl) (Or.inr rfl)) Y6)))
   (λcl C fp s H=>Ys XY (pv 0) (pv 2) (Yy _)) (λcl C fp s H=>Yx (pa2 Y7 (Yi (r:=J9 K) Yl (Yi (r:=J9 K) Yl (pv 1) YX) YX)))))))
  (YY (Yt (Yi Y4 (pv 6) (Yw DN hr (pa2 (pv 0) (Yr Yj rfl B.len Zs (pa1 (pv 6))))) (λ_ _=>rfl))))))),?_⟩
 dsimp only[Vl,Cx.nox,Cx.wish];show let T0:=_;let T1:=Yh _ T0;let T2:=Yh _ T1;let T3:=Yh _ T2;Yh _ T3 _ _ _
 intros
 refine⟨v,Z,hv,J.k6,λy' s' m=>?_,λl1 H1 s1 h1=>?_⟩
 .obtain ⟨a,rfl,_,_,h4,_⟩:=J.fl.ok y' s' m
  exact⟨a,rfl,h4⟩
 have f3:=J.f3;refine Iq W1 (R9.mk p sa (.ref l1) 65 (Xw (flat Z)) (pn.same s1) (VQ h1 (VZ _)) ?_ λwd H2 Z8 I nw=>?_)
 .have:=Wc (fl:=flat Z) λy' s' m=>(by obtain⟨a,rfl,_,_,h4,_⟩:=J.fl.ok y' s' m;exact⟨a,rfl,h4⟩)
  omega
 have R4:=VC Z8 (pn.same s1) _ (Jc (Y0 Vc Z)) (hv.mono s1);have I3:=VC Z8 (pn.same s1) _ (Dat.ni_of (Bd.st _)) (hs.mono s1);have J5:SameB p H H2:=s1.sb.trans Z8;obtain⟨va,vx,rfl,F3,R1⟩:=V2 R4;obtain⟨y0,i,e0⟩:=J.h0;have i0:=(ZE.mp e0).1;have D0:=R1.length;rw[ZA]at D0;obtain⟨k0',R6,F1⟩:=getD R1 (ZC (show 0<vx.length by omega));rw[e0]at R6;cases R6;obtain⟨a0,w0,C2,I9,F2⟩:=Jt F1;obtain⟨b0,t0,rfl,I8,I2⟩:=Jg F2;have T6:VG Z y0=some (.tags i):=UH J.nd (ZH e0);obtain⟨G,tr,rfl⟩:∃G tr,i=G::tr:=match i,nt _ _ T6 with|G::tr,_=>⟨G,tr,rfl⟩
 refine⟨vx,.ref a0,Z1 F3,Yq (j:=0) (by rw[ZC (show 0<vx.length by omega),C2]),_,.ref b0,Z0 I9,Yq (j:=1) rfl,_,.ref t0,Z0 I8,Yq (j:=1) rfl,_,.str G,Z0 I2,Yq (j:=0) rfl,sl 2,λtf I0=>?_⟩;refine up_in I0 _ λH3 s3 g3=>?_;refine⟨sl 2,λM F5=>?_⟩;refine up_in F5 _ λH4 s4 g4=>?_;refine⟨sl 3,λN F7=>?_⟩;refine up_in F7 _ λH5 s5 g5=>?_;refine⟨sl 0,λte I1=>?_⟩;refine up_in I1 _ λH6 s6 g6=>?_;refine⟨sl 3,λO F9=>?_⟩;refine up_in F9 _ λH7 s7 g7=>?_;refine⟨sl 4,λS R5=>?_⟩;refine up_in R5 _ λH8 s8 g8=>?_;have G2:=s7.trans s8;have G3:=s6.trans G2;have L1:=s5.trans G3;have M2:=s4.trans L1;have T:=s3.trans M2;have pn8:=I.same T;have f1:Has H8 (.ref tf) (Bd.tag G).dat:=by rw[Bd.dat_tag];exact Yn (M2 _ _ g3) (Z2 Yu (Z3 Yu))
 have f2:Has H8 (.ref M) (Bd.tag wd).dat:=by rw[Bd.dat_tag];exact Yn (L1 _ _ g4) (Z2 Yu (Z3 Yu))
 have f4:Has H8 (.ref N) (Bd.pair (.tag G) (.tag G)).dat:=by rw[Bd.dat_pair];exact Yn (G3 _ _ g5) (Z2 Yu (Z2 f1 (Z3 f1)))
 have f5:Has H8 (.ref O) (Bd.ask "NoDef" []).dat:=by rw[Bd.dat_ask0];exact Yn (s8 _ _ g7) (Z2 Yu (Z2 Yu (Z3 (Yn (G2 _ _ g6) Z4))))
 refine⟨.inl ⟨rfl,_,Z1 g8⟩,?_⟩;refine⟨.ref va,Z,R4.mono T,by have:=J.k6;omega,λfa xf H9 ffa s9 R7 D3=>?_⟩;refine⟨⟨_,Z1 R7⟩,?_⟩;refine W6 (us:=flat Z) (D:=Vq) (F:=λk=>(Bd.tag (Ug Z k.1)).dat) (λk=>decide (k.1≠y)) (λH' s=>itl (Z1 (s _ _ R7))) D3 (by omega) (λu x l R hm G1 hx rT rF=>?_) λL q1 l fq G1 I5 R3=>?_
 .obtain ⟨z,s'⟩:=u
  have zm:=(ze.mp hm).1;obtain⟨r,er⟩:=J.flk.at (ZU.mpr ⟨_,hm,rfl⟩);rw[UH J.nd zm]at er;have S2:s'=Shp.tags (Ug Z z::r):=ZP er;subst S2;obtain⟨t,v',rfl,ht,I4⟩:=Jt hx;obtain⟨b,t',rfl,hb,F6⟩:=Jg I4;refine⟨_,Z0 ht,rfl,rfl,_,rfl,?_⟩;refine Jn (λc=>?_) λc=>rF ?_
  .refine ⟨_,_,Z0 hb,Yq (j:=1) rfl,_,_,Z0 F6,Yq (j:=0) rfl,sl 2,λtn F8=>?_⟩
   refine up_in F8 _ λHb T7 gb=>?_;exact rT _ _ (by simpa using c) T7 (by rw[Bd.dat_tag];exact Yn gb (Z2 Yu (Z3 Yu)))
  .simpa using c
 have Z9:=s9.trans G1;have T4:=Z9 _ _ g8;have lfl:(flat Z).length<=3:=f3;have lv:=R3.length;rw[ZA]at lv;have lfi:=zN (λk:Str×Shp=>decide (k.1≠y)) (flat Z);refine⟨S,q1,_,_,rfl,rfl,T4,I5,Zf (Yp (by show 4+_<=1000;omega)),?_⟩;have J1:=T.trans Z9;have J4:H2 S=none:=(((((s3.trans s4).trans s5).trans s6).trans s7)).free R5
 let bl:List Bd:=[sb,.tag wd,.pair (.tag G) (.tag G),.ask "NoDef" []]++ ((flat Z).filter λk=>decide (k.1≠y)).map λk=>.tag (Ug Z k.1)
 have I6:HasL l ([U,.ref M,.ref N,.ref O]++ L) (bl.map Bd.dat):=by
  show HasL l _ (List.map Bd.dat (_++ _));rw[ZI,za];exact Z5 ((Z2 (I3.mono T) (Z2 f2 (Z2 f4 (Z3 f5)))).mono Z9) R3
 have T5:TK l (upd l S (.lst ([U,.ref M,.ref N,.ref O]++ L))):=Ue T4 λxs z=>nomatch z
 have g:=VS T5 _ (Y0 Bd.st bl) I6;have gb:upd l S (.lst ([U,.ref M,.ref N,.ref O]++ L)) S=some (.lst ([U,.ref M,.ref N,.ref O]++ L)):=Ya;have X:SameB p H2 (upd l S (.lst ([U,.ref M,.ref N,.ref O]++ L))):=J1.sb.put J4;have N2:S≠p:=I.ne J4;have J2:=I.put J1.sb (I.same J1) J4 N2 (o:=.lst ([U,.ref M,.ref N,.ref O]++ L));generalize upd l S (.lst ([U,.ref M,.ref N,.ref O]++ L))=Hb at g gb X J2 |-;refine⟨S,_,rfl,.inl (Z1 gb),?_⟩;refine Jq p sa ([U,.ref M,.ref N,.ref O]++ L).length rfl J2 (by simp) (by rw[ZJ];show 4+_<1000;omega) λr Hc rl bc T8=>?_;have R8:=Vd bc.sb J2 _ (Dat.nis_of (Y0 Bd.st bl)) g;obtain⟨bd,I7,F4⟩:=getD R8 (ZC rl);refine⟨_,_,Z1 (bc.sb _ _ N2 gb),Yq (ZC rl),q _ bd Hc ((J5.trans X).trans bc.sb) T8 F4 ?_⟩;have mb:=ZH I7;rcases ZV.mp mb with m|m
 .simp only[Zb,zT,or_false]at m
  rcases m with rfl|rfl|rfl|rfl
  .exact bad
  .exact ⟨WB _,by rw[LS nw];exact λz=>nomatch z⟩
  .exact ⟨Pz _ _,Fc J.nd hy⟩
  .exact ⟨P2 _,by rw[Nn nd];exact λz=>nomatch z⟩
 .obtain ⟨⟨z,s'⟩,hm,rfl⟩:=ZU.mp m
  obtain⟨hm,hz⟩:=ze.mp hm;obtain⟨r',er⟩:=J.flk.at (ZU.mpr ⟨_,hm,rfl⟩);refine⟨WB _,?_⟩;rw[WT J.kg nt er ZY];exact λe=>Zr hz (ZP e)
end
end K4
namespace L2
open PySem
theorem HasL.drop9:∀{J:kK}{Z:kF}(n:Nat),HasL H Z J->HasL H (Z.drop n) (J.drop n)
 |_,_,0,h=>h
 |[],[],n+1,h=>h
 |[],_::_,_+1,h=>by unfold HasL at h;exact h.elim
 |_::_,[],_+1,h=>by unfold HasL at h;exact h.elim
 |d::J,x::Z,n+1,h=>by unfold HasL at h;exact HasL.drop9 n h.2
theorem HasL.take9:∀{J:kK}{Z:kF}(n:Nat),HasL H Z J->HasL H (Z.take n) (J.take n)
 |_,_,0,h=>Z4
 |[],[],n+1,h=>h
 |[],_::_,_+1,h=>by unfold HasL at h;exact h.elim
 |_::_,[],_+1,h=>by unfold HasL at h;exact h.elim
 |d::J,x::Z,n+1,h=>by unfold HasL at h;exact Z2 h.1 (HasL.take9 n h.2)
def JC{α:Type}(ls:List α)(lo hi:ky):List α:=(ls.drop (HT.sIx ls.length 0 lo)).take (HT.sIx ls.length ls.length hi-HT.sIx ls.length 0 lo)
theorem RN{α:Type}{Z:List α}{x:α}(h:x∈JC Z lo hi):x∈Z:=yi (Zi h)
section
variable{α:Type}{D:α->Dat}{ls l1 l2:List α}
theorem JX{Q:VK}(h:Has H u (.tup (ls.map D)))(q:∀L G,Same H G->Has G L (.tup ((JC ls lo hi).map D))->Q L G):Og u lo hi H Q:=by
 obtain⟨a,Z,rfl,R,M⟩:=Yz h;have J:=M.length;rw[ZA]at J;refine⟨a,Z,rfl,R,λN=>q _ H (Z6 _) ?_,λp O=>q _ _ (Yg O _) ?_⟩
 .have e:JC ls lo hi=ls:=by
   unfold JC;rw[<-J,N.1,N.2,Nat.sub_zero,vQ,J,zS]
  rw[e];exact h
 .have e:(JC ls lo hi).map D=((ls.map D).drop (HT.sIx Z.length 0 lo)).take (HT.sIx Z.length Z.length hi-HT.sIx Z.length 0 lo):=by
   unfold JC;rw[yj,List.map_drop,J]
  rw[e];exact Yn Ya (HasL.take9 _ (HasL.drop9 _ (M.mono (Yg O _))))
theorem Jv{Q:VK}(A:Has H u (.tup (l1.map D)))(F:Has H v (.tup (l2.map D)))(l:l1.length+l2.length<=900)(q:∀M J,Same H J->Has J M (.tup ((l1++ l2).map D))->Q M J):NX K u v H Q\/GS K u v H Q:=by
 obtain⟨a,L,rfl,E,T⟩:=Yz A;obtain⟨b,G,rfl,B,R⟩:=Yz F;have O:=T.length;have N:=R.length;rw[ZA]at O N
 by_cases e:L=[]
 .subst e
  refine .inl ⟨a,b,G,rfl,rfl,Z0 E,Z0 B,q _ H (Z6 _) ?_⟩;rw[List.eq_nil_of_length_eq_zero O.symm];exact F
 .refine .inr ⟨a,b,L,G,rfl,rfl,Z0 E,Z0 B,e,Zf (Yp (by omega)),λI=>q _ H (Z6 _) ?_,λ_ p Z=>q _ _ (Yg Z _) ?_⟩
  .subst I
   rw[List.eq_nil_of_length_eq_zero N.symm,zV];exact A
  .rw [ZI]
   exact Yn Ya (Z5 (T.mono (Yg Z _)) (R.mono (Yg Z _)))
end
theorem noP{Q:VK}(h:Og x l none H Q):D5 U H (λu Z=>Og x l u Z Q):=h
theorem Xs{α:Type}(Z:List α)(k:Nat)(h:k<=Z.length):JC Z none (some (k:Int))=Z.take k:=by
 unfold JC;rw[HT.sIx_none,HT.sIx_nat,vQ,Nat.sub_zero,zQ h]
theorem W5{α:Type}(Z:List α)(k:Nat)(h:k<=Z.length):JC Z (some (k:Int)) none=Z.drop k:=by
 unfold JC;rw[HT.sIx_none,HT.sIx_nat,zQ h,Ze (by rw[zp];omega)]
theorem Lb.of{J:kF}(G:Pen K sa H p)(Z:H l=none)(N:HasL H J L)(M:Dat.sts L=true):Lb K sa H p l L (upd H l (.lst J)):=⟨G,Z,(Yg Z _).sb,G.same (Yg Z _),J,Ya,N.mono (Yg Z _),M⟩
theorem D4(L:KG J)(G:∀z Z,VG J z=some (.tags Z)->1<=Z.length)(R:VG J y=some (.tags Z))(O:VG J z=some (.tags M))(m:t∈Z)(N:t∈M):y=z:=by
 have a:=WT (hd:=λ_=>none) (kv:=[]) L G R m;rw[WT L G O N]at a;exact(ZP a).symm
def Fi(t:Str):Str×Shp->Bool
 |(_,.tags us)=>decide (t∈us)
 |_=>false
theorem Lc(M:Xv Z c d)(O:∀z J,VG Z z=some (.tags J)->1<=J.length)(N:VG Z z=some (.tags J))(m:t∈J):∃r,((flat Z).filter (Fi t)).map (·.1)=z::r:=by
 have G:(z,Shp.tags J)∈(flat Z).filter (Fi t):=ze.mpr ⟨Ro (Jo N),decide_eq_true m⟩
 cases e:(flat Z).filter (Fi t)with
 |nil=>rw[e]at G;cases G
 |cons k r=>
  obtain⟨y,s⟩:=k;have mk:(y,s)∈(flat Z).filter (Fi t):=by rw[e];exact ZY
  obtain⟨R,L⟩:=ze.mp mk
  cases s with
  |pair a b=>cases L
  |tags T=>
   rw[D4 M.kg O (UH M.nd (ze.mp R).1) N (Zr L) m];exact⟨_,rfl⟩
theorem OI{Z:kq}(n:Z.Nodup)(l:1<Z.length):Z.drop 1++ Z.take 1≠Z:=λe=>by
 match Z,n,l,e with
 |a::b::r,n,_,e=>
  have J:b=a:=(List.cons.inj e).1;rw[J]at n;exact(zO.mp n).1 ZY
theorem Xi(h:Dat.sts Z=true):(Dat.tup Z).st=true:=by unfold Dat.st;exact h
theorem W8{zs:List (Str×Rb)}:(Rb.br e (zs.map (·.1)) (zs.map (·.2))).dat=.tup [.str "by",e.dat,.tup (zs.map rbF)]:=by unfold Rb.dat;rw[Mm]
structure Wrg(kd:Bd->Option Str)(ks:List (Str×Shp))(rh:Hds)(y:Str)(n:Nat)(b:Rb):Prop where
 ro:RO n b
 wr:rbG kd ks rh y n b=false
theorem P8{Z:List (Str×Rb)}(h:¬ ∃z,kd e=some z/\VG L z=some (.tags (Z.map (·.1))))(O:Bo e)(G:Z.length<=9)(J:∀x∈Z,RO n x.2):Wrg kd L rh y (n+1) (.br e (Z.map (·.1)) (Z.map (·.2))):=
 ⟨.br O (by rw[ZA,ZA]) (by rw[ZA];exact G) (λb N=>by obtain⟨x,M,rfl⟩:=ZU.mp N;exact J x M),Gw h⟩
theorem IO{Z:List (Str×Rb)}(B:kd e=some z)(T:VG R z=some (.tags L))(D:Bo e)(N:Z.map (·.1)≠L)(O:Z.length<=9)(M:∀x∈Z,RO n x.2):Wrg kd R rh y (n+1) (.br e (Z.map (·.1)) (Z.map (·.2))):=
 P8 (λ⟨E,G,J⟩=>by rw[B]at G;cases G;rw[T]at J;cases J;exact N rfl) D O M
end L2
namespace K4
open PySem L2
section
theorem Xz:Yo ["_law_pen","_law_kinds_here","_law_body_here","_law_strange","_law_sign","_law_first","_law_branches","_law_tag","_law_own","_law_some"] ["_law_pen","_law_kinds_here","_law_body_here","_law_strange"] (Yc X5):=Y3
theorem LF:List.Nodup [("_law_kind":Str),"_law_shape","_law_tag"]:=by decide +kernel
inductive SBC(K:W.Frag)(H:Hp)(Q:VK):List V->Prop
 |mk (p sa:Addr) (v bv sv:V) (y z:Str) (n:Nat) (e:Bd) (ts:List Str) (bs:List Rb) (ks:List (Str×Shp)) (c d:Str->Nat) (hd rh:Hds) (kv:List (Key×V)) (sb:Bd) (pn:Pen K sa H p) (hv:Has H v (.lst (ks.map Vq))) (kS:Xv ks c d) (nt:∀z ts,VG ks z=some (.tags ts)->1<=ts.length) (nd:hd "NoDef"=none)
  (hz:VG ks z=some (.tags ts)) (he:kdn ks hd 13 kv e=some z) (bo:Bo e) (lb:bs.length=ts.length) (t4:ts.length<=4) (tn:ts.Nodup) (rb:∀b∈bs,RO n b) (hb:Has H bv (Rb.br e ts bs).dat) (hs:Has H sv sb.dat) (bad:∀y,Bad ks hd kv y sb)
  (q:∀u b H',SameB p H H'->Pen K sa H' p->Has H' u b.dat->Wrg (kdn ks hd 13 kv) ks rh y (n+1) b->Q u H'):SBC K H Q [.ref p,v,bv,sv]
def OO(K:W.Frag):Sp:=λZ H Q _=>SBC K H Q Z
theorem Au(B:Blt mg)(F:Fun K "_law_bad_choice" "_law_bad_choice" X5 f fd)(DN:Df P w K mg base n "_law_next" pnm (JY K))(DL:Df P w K mg base n "_law_flat_kinds" ["_law_kinds_here"] Xy)(DF:Df P w K mg base n "_law_bad_first" ["_law_pen","_law_kinds_here","_law_own","_law_strange"] (Io K)):Yk P w K mg base CX0 (n+1) f fd ["_law_pen","_law_kinds_here","_law_body_here","_law_strange"] (OO K):=by
 refine F.oi Xz λcdv A F8 s H vs Q E hr h=>?_;obtain⟨p,sa,v,bv,sv,y,z,m,e,U,bs,ks,c,d,hd,rh,kv,sb,pn,hv,kS,nt,nd,hz,he,bo,lb,t4,tn,rb,hb,hs,bad,q⟩:=h;refine⟨_,YW (JP (pv 2) (VE (n:=3) rfl (Ye (YZ 4 Xz.nd) (Ye (YZ 5 Xz.nd) (Ye (YZ 6 Xz.nd) Y6)))))
  (YW (Ym 7 Xz.nd (Yi Yl (Yi Yl (pv 6) YX) YX) (hx:=Or.inr rfl))
  (YW (Ym 8 Xz.nd (Yi Y4 (Xl ["_law_kind","_law_shape"] [7] (VF (Yw DL hr (pa1 (pv 1)))) J3 (λcl C fp s H=>VE (n:=2) rfl (Ye (YZ 0 LF rfl (Or.inl rfl) (Or.inr rfl)) (Ye (YZ 1 LF rfl (Or.inl rfl) (Or.inr rfl)) Y6)))
   (λcl C fp s H=>Ys (r:=rIn K false) Xm (pv 2) (Yi (r:=J9 K) Yl (pv 1) YX) rfl) (λcl C fp s H=>pv 0)) YX))
  (YW (Ym 9 Xz.nd (Vs (pa2 (Yx (pa3 Y7 (pv 5) (Y1 Jh (pv 6) (VM JV (pv 6) Vb (Va YX))))) (Yx (pa3 Y7 (pv 5) (VM JV (pv 6) (Va YX) Vb))))))
  (YW (Y5 (Ys Ur (Yr Yj rfl B.len Zs (pa1 (pv 6))) YX (Yy _))
   (YY (VO (Jk Zx Zy Zz Vj (pv 9) (pa1 (Yx (pa3 Y7 (pv 5) (Y1 Jh (VM JV (pv 6) (Va YX) Vb) (VM JV (pv 6) Vb (Va YX))))))))) Yv)
  (YW (VO (Jk Zx Zy Zz Vj (pv 9) (pa1 (Yx (pa3 Y7 (Yw DF hr (pa4 (pv 0) (pv 1) (pv 8) (pv 3))) (pv 6))))))
  (YY (Yt (Yi Y4 (pv 9) (Yw DN hr (pa2 (pv 0) (Yr Yj rfl B.len Zs (pa1 (pv 9))))) (λ_ _=>rfl))))))))),?_⟩
 dsimp only[Vl,Cx.nox,Cx.wish];show let T0:=_;let T1:=Yh _ T0;let T2:=_;let T3:=Yh (VN _ T2 _) T1;let T4:=Yh _ T3;let T5:=Yh _ T4;let T6:=Yh _ T5;Yh _ T6 _ _ _
 intros
 obtain⟨t0,u0,b0,xs,rfl,F1,D3,G3,o⟩:=Dh hb lb;have t1:=nt _ _ hz;have zf:(U.zip bs).map (·.1)=U:=vF (by omega);have zl:(U.zip bs).length=U.length:=by rw[vN];omega
 have zr:∀x∈U.zip bs,RO m x.2:=λx hx=>rb _ (yt hx).2;have zb:(U.zip bs).map (·.2)=bs:=vE (by omega);generalize U.zip bs=zs at o zf zl zr zb;have F2:Has H (.ref b0) (.tup (zs.map rbF)):=Yn G3 o;refine⟨_,Z0 F1,rfl,?_⟩;obtain⟨M,zq,rfl⟩:∃M zq,zs=M::zq:=match zs,zl with|M::zq,_=>⟨M,zq,rfl⟩|[],zl=>Zp zl (by simp;omega)
 obtain⟨x0,xr,rfl,T9,I1⟩:=Yb o;obtain⟨a0,w0,rfl,F4,I3⟩:=G7 T9;refine⟨_,.ref a0,Z0 G3,Yq (j:=0) rfl,_,.str M.1,Z0 F4,Yq (j:=0) rfl,?_⟩;have m0:M.1∈U:=by rw[<-zf];exact ZY
 refine⟨v,ks,hv,by have:=kS.k6;omega,λfa xf H1 ffa s1 G1 T8=>?_⟩;refine⟨⟨_,Z1 G1⟩,?_⟩;have f3:=kS.f3;refine Ju (us:=flat ks) (D:=Vq) (E:=λk=>.str k.1) (Fi M.1) (itl (Z1 G1)) T8 (by omega) (λu x R hm hu rT rF=>?_) λvs l1 H2 fl1 s2 J5 D0=>?_
 .obtain ⟨y',s'⟩:=u
  obtain⟨us,rfl,_⟩:=kS.fl.ok y' s' hm;obtain⟨t,v',rfl,ht,hs'⟩:=Jt hu;obtain⟨b,t',rfl,hb',I8⟩:=Jg hs';refine⟨_,Z0 ht,rfl,_,.ref t',Z0 hb',Yq (j:=1) rfl,?_⟩;refine⟨t',_,rfl,.inr (Z0 I8),rfl,Jm _,_,rfl,?_⟩;rw[UA]
  by_cases mm:M.1∈us
  .exact V1 (by simp[mm]) (rT _ (decide_eq_true mm) Yu)
  .exact Y9 (by simp[mm]) (rF (Zw mm))
 obtain rfl:=X9 (ns:=((flat ks).filter (Fi M.1)).map (·.1)) (by rw[za];exact D0);obtain⟨kr,ekr⟩:=Lc kS nt hz m0;rw[ekr]at J5;refine⟨_,.str z,Z1 J5,Yq (j:=0) rfl,?_⟩;have O:=s1.trans s2;have F7:=pn.same O;have I4:=hv.mono O;have hs2:=hs.mono O;have J4:=D3.mono O;have L:=F2.mono O;clear T8 D0 J5 G1 ffa fl1 hv hs D3 F2 hb F1 G3 T9 I1 o F4 I3;have zl':(M::zq).length<=4:=by omega
 have N2:1<=(M::zq).length:=by omega
 generalize e0:M::zq=zs at *;have M2:JC zs none (some 1)=zs.take 1:=Xs zs 1 N2;have L1:JC zs (some 1) none=zs.drop 1:=W5 zs 1 N2;have cl1:(JC zs none (some 1)).length<=4:=by rw[M2,ZL];omega
 have cl2:(JC zs (some 1) none).length<=4:=by rw[L1,zp];omega
 refine⟨1,rfl,JX (ls:=zs) L λu3 H3 s3 h3=>?_⟩;refine Jv (l1:=zs) (L.mono s3) h3 (by omega) λu4 H4 s4 h4=>?_;refine⟨sl 3,λt5 ht5=>?_⟩;refine up_in ht5 _ λH5 s5 g5=>?_;have R3:=(s3.trans s4).trans s5;refine⟨1,rfl,noP (JX (ls:=zs) (L.mono R3) λu6 H6 s6 h6=>?_)⟩;refine⟨sl 3,λt7 C2=>?_⟩;refine up_in C2 _ λH7 s7 g7=>?_;refine⟨sl 2,λg hlo=>?_⟩;have Z:=(R3.trans s6).trans s7;have R1:=s6.trans s7;have wm:∀{x},x∈zs->RO m x.2:=λ{x} hx=>zr x hx
 let W:Rb->Prop:=Wrg (kdn ks hd 13 kv) ks rh y (m+1)
 have wA:W (.br e ((zs++ JC zs none (some 1)).map (·.1)) ((zs++ JC zs none (some 1)).map (·.2))):=IO he hz bo (λz'=>by
  have:=congrArg List.length z';rw[ZA,ZJ,M2,ZL]at this
  omega) (by rw[ZJ];omega) λx hx=>by
   rcases ZV.mp hx with h|h
   .exact wm h
   .exact wm (RN h)
 have wB:W (.br e ((JC zs (some 1) none).map (·.1)) ((JC zs (some 1) none).map (·.2))):=IO he hz bo (λz'=>by
  have:=congrArg List.length z';rw[ZA,L1,zp]at this;omega) (by omega) λx hx=>wm (RN hx)
 have J:Lb K sa H7 p g ([Rb.br e ((zs++ JC zs none (some 1)).map (·.1)) ((zs++ JC zs none (some 1)).map (·.2)),Rb.br e ((JC zs (some 1) none).map (·.1)) ((JC zs (some 1) none).map (·.2))].map Rb.dat) (upd H7 g (.lst [.ref t5,.ref t7])):=Lb.of (F7.same Z) hlo (by
   rw[ZT,ZT,W8,W8];exact Z2 (Yn (R1 _ _ g5) (Z2 Yu (Z2 (J4.mono Z) (Z3 (h4.mono (s5.trans R1)))))) (Z3 (Yn g7 (Z2 Yu (Z2 (J4.mono Z) (Z3 (h6.mono s7))))))) (Y0 Rb.st _)
 generalize upd H7 g (.lst [.ref t5,.ref t7])=H8 at J |-;dsimp only[Vu];refine V7 (λU' H'=>(∃cs:List Rb,Lb K sa H7 p g (cs.map Rb.dat) H'/\(∀b∈cs,W b)/\cs.length<=3)/\U'=[some (.ref p),some v,some (.ref t0),some sv,some (.str "by"),some u0,some (.ref b0),some (.str M.1),some (.str z),some (.ref g)]) ?_ ?_
 case refine_2=>
  intro N R6;have G2:Has H8 (.ref b0) (.tup (zs.map rbF)):=VC J.sb J.p0 _ (Dat.ni_of (Xi (Y0 Tj zs))) (L.mono Z);obtain⟨_,xs8,e8,F3,I2⟩:=Yz G2;cases e8;have lx:=I2.length;rw[ZA]at lx
  have w0:∀b∈ [Rb.br e ((zs++ JC zs none (some 1)).map (·.1)) ((zs++ JC zs none (some 1)).map (·.2)),Rb.br e ((JC zs (some 1) none).map (·.1)) ((JC zs (some 1) none).map (·.2))],W b:=λb hb=>by
   simp only[Zb,zT,or_false]at hb;rcases hb with rfl|rfl
   .exact wA
   .exact wB
  refine⟨b0,_,rfl,.inr (Z0 F3),_,rfl,Jn (λc1=>?_) (λc1=>R6 _ _ ⟨⟨_,J,w0,by show 2<=3;decide⟩,rfl⟩)⟩;have c1':=Zr c1;obtain⟨zz,G,l,_⟩:=J.zs;refine⟨.inl ⟨rfl,_,Z1 G⟩,?_⟩;refine⟨1,rfl,noP (JX (ls:=zs) G2 λu9 H9 s9 h9=>?_)⟩;refine⟨1,rfl,JX (ls:=zs) (G2.mono s9) λuA HA i hA=>?_⟩;refine Jv (h9.mono i) hA (by omega) λuB HB sB hB=>?_;refine⟨sl 3,λtC I9=>?_⟩;refine up_in I9 _ λHC sC gC=>?_;have X:=((s9.trans i).trans sB).trans sC;have J1:=l.length;refine⟨g,_,_,rfl,rfl,X _ _ G,Yp (by rw[J1];show 2<=1000;decide),?_⟩;have I7:=VC J.sb J.p0 _ (Dat.ni_of (Bd.st _)) (J4.mono Z)
  have I:=(J.sm X).ap (d:=(Rb.br e ((JC zs (some 1) none++ JC zs none (some 1)).map (·.1)) ((JC zs (some 1) none++ JC zs none (some 1)).map (·.2))).dat) (X _ _ G) (by
   rw[W8];exact Yn gC (Z2 Yu (Z2 (I7.mono X) (Z3 (hB.mono sC))))) (Rb.st _)
  refine R6 _ _ ⟨⟨[_,_,_],I,λb hb=>?_,by show 3<=3;decide⟩,rfl⟩;simp only[Zb,zT,or_false]at hb;rcases hb with rfl|rfl|rfl
  .exact wA
  .exact wB
  refine IO he hz bo (λz'=>?_) (by rw[ZJ];omega) λx hx=>by
   rcases ZV.mp hx with h|h <;> exact wm (RN h)
  rw[M2,L1,ZI,List.map_drop,yj,zf]at z';exact OI tn (by omega) z'
 rintro U' H' ⟨⟨cs,T,wc,l3⟩,rfl⟩;obtain⟨zz,G,l,_⟩:=T.zs;have Z9:=T.p0;have F9:=VC T.sb Z9 _ (Jc (Y0 Vc ks)) (I4.mono Z);refine⟨.inl ⟨rfl,_,Z1 G⟩,?_⟩;refine⟨p,sa,v,sv,z,U,ks,c,d,hd,kv,sb,T.pn,F9,kS,nt,nd,hz,VC T.sb Z9 _ (Dat.ni_of (Bd.st _)) (hs2.mono Z),bad z,λu9 bb H9 F5 F6 I6 Z8=>?_⟩;have J2:=T.mv F5 F6;obtain⟨zz,G,l,_⟩:=J2.zs;have J1:=l.length;rw[ZA]at J1;refine⟨sl 3,λtA S2=>?_⟩;refine up_in S2 _ λHA i gA=>?_;refine⟨g,_,_,rfl,rfl,i _ _ G,Yp (by omega),?_⟩;have hbA:Has HA (.ref b0) (.tup (zs.map rbF)):=(VC J2.sb Z9 _ (Dat.ni_of (Xi (Y0 Tj zs))) (L.mono Z)).mono i
 have S:=(J2.sm i).ap (d:=(Rb.br bb (zs.map (·.1)) (zs.map (·.2))).dat) (i _ _ G) (by
   rw[W8];exact Yn gA (Z2 Yu (Z2 (I6.mono i) (Z3 hbA)))) (Rb.st _)
 generalize upd HA g (.lst (zz++[.ref tA]))=HB at S |-;obtain⟨yy,R7,I0,yst⟩:=S.zs;have R5:=I0.length;rw[ZJ,ZA]at R5;refine⟨g,_,rfl,.inl (Z1 R7),?_⟩;have ly1:yy.length=cs.length+1:=R5;refine Jq p sa yy.length rfl S.pn (by omega) (by omega) λr HC rl bc R4=>?_;have I:=S.mv bc.sb R4;rw[show cs.map Rb.dat++[(Rb.br bb (zs.map (·.1)) (zs.map (·.2))).dat]=(cs++[Rb.br bb (zs.map (·.1)) (zs.map (·.2))]).map Rb.dat by rw[ZI];rfl]at I;have T7:=bc.sb _ _ S.np R7;obtain⟨yC,a,R8,_⟩:=I.zs;rw[T7]at a;cases a;obtain⟨bd,hbd,I5⟩:=getD R8 (ZC rl);refine⟨_,_,Z1 T7,Yq (ZC rl),q _ bd HC ((O.trans Z).sb.trans I.sb) R4 I5 ?_⟩;rcases ZV.mp (ZH hbd)with h|h
 .exact wc _ h
 rw[ZO.mp h];refine P8 (λ⟨z',h1,h2⟩=>Z8.ne ?_) Z8.bo (by omega) zr;rw[zf]at h2;rw[h1,D4 kS.kg nt h2 hz m0 m0]
end
end K4
namespace L2
open PySem
theorem D7:∀{J Z:kK},Dat.sts J=true->Dat.sts Z=true->Dat.sts (J++ Z)=true
 |[],_,_,h=>h
 |a::J,Z,h1,h2=>by
  unfold Dat.sts at h1;have t:=yE.mp h1;rw[yT];unfold Dat.sts;rw[t.1,D7 t.2 h2];rfl
theorem Lb.ex{Z J:kF}(b:Lb K sa H0 p l T H)(h:H l=some (.lst Z))(O:HasL H J es)(e:Dat.sts es=true):Lb K sa H0 p l (T++ es) (upd H l (.lst (Z++ J))):=by
 obtain⟨N,M,R,L⟩:=b.zs;rw[h]at M;cases M;have G:TK H (upd H l (.lst (Z++ J))):=Ue h λB z=>nomatch z
 exact⟨b.p0,b.fl,b.sb.put b.fl,b.p0.put b.sb b.pn b.fl b.np,_,Ya,Z5 (VS G _ L R) (VS G _ e O),D7 L e⟩
abbrev Go:=Str×List Bd
def goF(x:Go):Dat:=.tup [.str x.1,.tup (x.2.map Bd.dat)]
theorem W3(x:Go):(goF x).st=true:=by unfold goF;simp[Dat.st,Dat.sts,Y0 Bd.st x.2]
structure GoW(kd:Bd->Option Str)(rh:Hds)(y:Str)(x:Go):Prop where
 bo:∀a∈x.2,Bo a
 l9:x.2.length<=9
 wr:¬ ∃ps,rh x.1=some (ps,y)/\x.2.map kd=(ps.map (·.2)).map some
theorem WV{Z:List Hd}(h:r∉Z.map (·.1)):Y2 Z r=none:=by
 unfold Y2;rw[vk.mpr λx m z=>h (ZU.mpr ⟨x,m,Zr z⟩)];rfl
theorem Eb{r:Str}(h:rh r=none)(G:∀a∈Z,Bo a)(J:Z.length<=9):GoW kd rh y (r,Z):=⟨G,J,λ⟨L,e,_⟩=>by rw[h]at e;cases e⟩
theorem Le{r:Str}{J:List (Str×Str)}(h:rh r=some (J,y))(n:Z.length≠J.length)(N:∀a∈Z,Bo a)(L:Z.length<=9):GoW kd rh y (r,Z):=⟨N,L,λ⟨G,e,M⟩=>by
 rw[h]at e;cases e;have:=congrArg List.length M;rw[ZA,ZA,ZA]at this;exact n this⟩
theorem Pi{r:Str}{ps:List (Str×Str)}(h:rh r=some (ps,z))(n:z≠y)(L:∀a∈Z,Bo a)(G:Z.length<=9):GoW kd rh y (r,Z):=⟨L,G,λ⟨J,e,M⟩=>by
 rw[h]at e;cases e;exact n rfl⟩
theorem CH{r:Str}{i:Nat}{J:List (Str×Str)}{G:Str×Str}(h:rh r=some (J,y))(O:Z[i]?=some a)(N:J[i]?=some G)(n:kd a≠some G.2)(T:∀a∈Z,Bo a)(M:Z.length<=9):GoW kd rh y (r,Z):=⟨T,M,λ⟨L,e,R⟩=>by
 rw[h]at e;cases e;have:=congrArg (·[i]?) R;dsimp only at this;rw[ZG,ZG,ZG,O,N]at this;exact n (ZP this)⟩
theorem Rj{a:Bd}(h:a∈Vp J Z):Bo a:=by
 unfold Vp at h;obtain⟨p,_,rfl⟩:=ZU.mp h;exact WB _
def X2(g:List Bd)(i:Nat)(a:Bd):List Bd:=g.take i++[a]++ g.drop (i+1)
theorem Oj{g:List Bd}{i:Nat}(h:i<g.length):(X2 g i a)[i]?=some a:=by
 unfold X2;rw[yw,zt (by rw[ZL];omega),ZL,zQ (Zf h),jg];rfl
theorem Kh{g:List Bd}(h:b∈X2 g i a):b=a\/b∈g:=by
 unfold X2 at h;rcases ZV.mp h with h|h
 .rcases ZV.mp h with h|h
  .exact .inr (Zi h)
  .exact .inl (ZO.mp h)
 .exact .inr (yi h)
theorem Ki{g:List Bd}(h:i<g.length):(X2 g i a).length=g.length:=by
 unfold X2;rw[ZJ,ZJ,ZL,zp,zg];omega
theorem EG{Z:List Rw}(J:Wds 97 (Z.map λx=>x.1.1))(m:x∈Z):Y2 (Z.map (·.1)) x.1.1=some x.1.2:=Xe (by rw[za];exact J.nd) (ZU.mpr ⟨x,m,rfl⟩)
theorem SX{Z:kq}(J:Wds 97 Z):("NoRow":Str)∉Z:=λm=>by
 have:=J.abc _ m 78 (by decide +kernel);omega
theorem Om(Z:kK):(Dat.tup Z).pq (.tup [])=Z.isEmpty:=by cases Z <;> (unfold Dat.pq Dat.pqs;rfl)
theorem P3(Z:List Bd)(h:∀a∈Z,∃t,a=.tag t):(Dat.tup (Z.map Bd.dat)).dep<=2:=by
 unfold Dat.dep
 have:Dat.deps (Z.map Bd.dat)<=1:=by
  induction Z with
  |nil=>unfold List.map Dat.deps;decide
  |cons a Z ih=>
   obtain⟨t,rfl⟩:=h _ ZY;rw[ZT,Bd.dat_tag];unfold Dat.deps;have q:(Dat.tup [.str "tag",.str t]).dep=1:=by simp[Dat.dep,Dat.deps]
   rw[q];exact vI.mpr ⟨ZF _,ih λa m=>h a (ZK _ m)⟩
 omega
end L2
namespace K4
open PySem L2
section
theorem UO:Yo ["_law_pen","_law_kinds_here","_law_rows_here","_law_own","_law_strange","_law_fit","_law_row","_law_name","_law_given","_law_tag","_law_word","_law_some","_law_at","_law_kind","_law_shape"] ["_law_pen","_law_kinds_here","_law_rows_here","_law_own","_law_strange"] (Yc Dc):=Y3
theorem PR:List.Nodup [("_law_row":Str),"_law_own"]:=by decide +kernel
theorem EO:List.Nodup [("_law_one":Str)]:=by decide +kernel
theorem PV:List.Nodup [("_law_one":Str),"_law_kinds_here","_law_own"]:=by decide +kernel
inductive SBG(K:W.Frag)(H:Hp)(Q:VK):List V->Prop
 |mk (p sa:Addr) (v rv sv:V) (y:Str) (ns:List Str) (ks:List (Str×Shp)) (c d:Str->Nat) (hd:Hds) (kv:List (Key×V)) (rs:List Rw) (sb:Bd) (pn:Pen K sa H p) (hv:Has H v (.lst (ks.map Vq))) (kS:Xv ks c d) (nt:∀z ts,VG ks z=some (.tags ts)->1<=ts.length)
  (hrs:Has H rv (.lst (rs.map Vz))) (l6:rs.length<=6) (wd:Wds 97 (rs.map λx=>x.1.1)) (ho:∀x∈rs,UW ns c 24 x.1) (fk:FlK ks ns) (ym:y∈ns) (ft:∃x∈rs,x.1.2.2=y) (hs:Has H sv sb.dat) (bad:∀y,Bad ks hd kv y sb)
  (q:∀u x H',SameB p H H'->Pen K sa H' p->Has H' u (goF x)->GoW (kdn ks hd 13 kv) (Y2 (rs.map (·.1))) y x->Q u H'):SBG K H Q [.ref p,v,rv,.str y,sv]
def ON(K:W.Frag):Sp:=λZ H Q _=>SBG K H Q Z
theorem Ar(B:Blt mg)(F:Fun K "_law_bad_going" "_law_bad_going" Dc f fd)(hL:3<=n)(DN:Df P w K mg base n "_law_next" pnm (JY K))(DP:Df P w K mg base n "_law_plain_given" ["_law_kinds_here","_law_row"] WH)(DT:Df P w K mg base n "_law_tags_of" ["_law_kinds_here","_law_kind"] J7)(DW:Df P w K mg base n "_law_small_word" ["_law_pen","_law_taken"] (XT K))(DL:Df P w K mg base n "_law_flat_kinds" ["_law_kinds_here"] Xy):
  Yk P w K mg base CX0 (n+1) f fd ["_law_pen","_law_kinds_here","_law_rows_here","_law_own","_law_strange"] (ON K):=by
 refine F.oi UO λcdv A outer s H vs Q E hr h=>?_;obtain⟨p,sa,v,rv,sv,y,ns,Z,c,d,hd,kv,X,sb,pn,hv,kS,nt,hrs,l6,wd,ho,fk,ym,ft,hs,bad,q⟩:=h;have hr3:Vk (2+1) _:=hr.mono hL;refine⟨_,YW (Xk (i0:=5) ["_law_row"] [3] UO.nd rfl (Or.inl rfl) (VF (pv 2)) (VR (i:=0) (by decide)) (λcl C fp s H=>YZ 0 PR rfl (Or.inl rfl) (Or.inr rfl)) (λcl C fp s H=>Ys V9 (Yi (r:=J9 K) Yl (pv 0) YX) (pv 1) (Yy _)) (λcl C fp s H=>pv 0))
  (YW (Ym 6 UO.nd (Yi Y4 (pv 5) (Yw DN hr (pa2 (pv 0) (Yr Yj rfl B.len Zs (pa1 (pv 5))))) (λ_ _=>rfl)))
  (YW (Ym 7 UO.nd (Yi Yl (pv 6) YX))
  (YW (Ym 8 UO.nd (Yw DP hr (pa2 (pv 1) (pv 6))))
  (YW (Ym 9 UO.nd (Yx (pa2 Y7 (Yi Yl (Yw DT hr (pa2 (pv 1) (pv 3))) YX))))
  (YW (Ym 10 UO.nd (Yw DW hr (pa2 (pv 0) (Vh ["_law_one"] [] (VF (pv 2)) (VR (i:=0) (by decide)) (λcl C fp s H=>YZ 0 EO rfl (Or.inl rfl) (Or.inr rfl)) (λcl C fp s H=>Yi (r:=J9 K) Yl (pv 0) YX)))))
  (YW (Ym 11 UO.nd (Vs (pa3 (Yx (pa2 (pv 10) (Yx Vi))) (Yx (pa2 Y7 (pv 8))) (Yx (pa2 (pv 7) (Y1 Jh (pv 8) (Yx (pa1 (pv 9)))))))))
  (YW (VO (Jk Zx yI yJ Wt (pv 11) (pa1 (Xl ["_law_one"] [1,3] (VF (pv 2)) (VR (i:=0) (by decide)) (λcl C fp s H=>YZ 0 PV rfl (Or.inl rfl) (Or.inr rfl))
   (λcl C fp s H=>Ys XY (Yi (r:=J9 K) Yl (pv 0) YX) (pv 2) (Yy _)) (λcl C fp s H=>Yx (pa2 (Yi (r:=J9 K) Yl (pv 0) YX) (Yw DP hr (pa2 (pv 1) (pv 0)))))))))
  (YW (Y5 (Ys (XW hr3) (pv 8) (Yx Vi) (Yy _))
   (YW (Ym 12 UO.nd (Yw DN hr (pa2 (pv 0) (Yr Yj rfl B.len Zs (pa1 (pv 8))))))
   (YW (VO (Jk Zx Zy Zz Vj (pv 11) (pa1 (Yx (pa2 (pv 7) (Y1 Jh (VM JV (pv 8) Vb (Va (pv 12))) (VM JV (pv 8) (Va (Y1 Vf (pv 12) YX)) Vb)))))))
   (YW (VO (Jk Zx Zy Zz Vj (pv 11) (pa1 (Yx (pa2 (pv 7) (Y1 Jh (Y1 Jh (VM JV (pv 8) Vb (Va (pv 12))) (Yx (pa1 (pv 4)))) (VM JV (pv 8) (Va (Y1 Vf (pv 12) YX)) Vb)))))))
   (YY (Vo Zt rfl (VF (Yw DL hr (pa1 (pv 1)))) (VE (n:=2) rfl (Ye (YZ 13 UO.nd) (Ye (YZ 14 UO.nd) Y6)))
    (YY (Y5 (Ys XY (pv 13) (Yi Yl (Yi Yl (Yi Yl (pv 6) YX) (pv 12)) YX) (Yy _))
     (YY (VO (Jk Zx Zy Zz Vj (pv 11) (pa1 (Yx (pa2 (pv 7) (Y1 Jh (Y1 Jh (VM JV (pv 8) Vb (Va (pv 12))) (Yx (pa1 (Yx (pa2 Y7 (Yi Yl (Yi Yl (pv 14) YX) YX)))))) (VM JV (pv 8) (Va (Y1 Vf (pv 12) YX)) Vb)))))))) Yv))))))) Yv)
  (YY (Yt (Yi Y4 (pv 11) (Yw DN hr (pa2 (pv 0) (Yr Yj rfl B.len Zs (pa1 (pv 11))))) (λ_ _=>rfl)))))))))))),?_⟩
 dsimp only[Vl,Cx.nox,Cx.wish];show let T0:=_;let T1:=_;let T2:=VN _ T1 _;let T3:=Jx _ _ T2;let T4:=Yh _ T3;let T5:=Yh _ T4;let T6:=Yh _ T5;let T7:=Yh (VN _ T6 _) T0;let T8:=Yh _ T7;let T9:=Yh _ T8;let T10:=Yh _ T9;let T11:=Yh _ T10;let T12:=Yh _ T11;let T13:=Yh _ T12;let T14:=Yh _ T13;Yh _ T14 _ _ _
 intros
 obtain⟨ra,xr,rfl,R6,F3⟩:=V2 hrs;have D3:=Y0 V5 X;have S2:=pn.lst R6 F3 (Dat.nis_of D3);refine⟨⟨_,Z1 R6⟩,?_⟩;refine Ju (E:=Vz) (λx=>decide (x.1.2.2=y)) (itl (Z1 R6)) F3 (by omega) (λu x R hm hu rT rF=>?_) λva al H1 fal s1 hal hva=>?_
 .obtain ⟨t',u',xs',w',rfl,ht,_⟩:=JT hu
  exact⟨_,_,Z0 ht,Yq (j:=2) rfl,rfl,_,rfl,Jn (λc=>rT _ (decide_eq_true (V.str.inj (Zr c))) hu) λc=>rF (Zw λe=>c (decide_eq_true (congrArg V.str e)))⟩
 have fi:∀x∈X.filter (λx=>decide (x.1.2.2=y)),x∈X/\x.1.2.2=y:=λh m=>⟨(ze.mp m).1,Zr (ze.mp m).2⟩
 have fl0:0<(X.filter (λx=>decide (x.1.2.2=y))).length:=by
  obtain⟨h,hm,e⟩:=ft;exact vJ (ze.mpr ⟨hm,decide_eq_true e⟩)
 have lfi:=zN (λx:Rw=>decide (x.1.2.2=y)) X;have lva:=hva.length;rw[ZA]at lva;have npa:al≠p:=pn.ne fal;refine⟨al,_,rfl,.inl (Z1 hal),?_⟩;refine Jq p sa va.length rfl (pn.same s1) (by omega) (by omega) λr H2 rl b2 I9=>?_;obtain⟨x,hx,N2⟩:=getD (Vd b2.sb (pn.same s1) _ (Dat.nis_of (Y0 V5 _)) hva) (ZC rl);obtain⟨xm,xy⟩:=fi x (ZH hx);obtain⟨t2,u2,xs2,w2,ev,ht2,hu2,hxs2,_⟩:=JT N2;rw[ev]at N2;refine⟨_,.ref t2,Z1 (b2.sb _ _ npa hal),Yq (by rw[ZC rl,ev]),?_⟩;refine⟨_,.str x.1.1,Z0 ht2,Yq (j:=0) rfl,?_⟩;have o1:=ho x xm;have fkx:∀x∈X,FlK Z (x.1.2.1.map (·.2)):=λx xm y' m'=>by obtain⟨pr,hp,rfl⟩:=ZU.mp m';exact fk _ ((ho x xm).kin pr hp)
 have I5:SameB p H H2:=s1.sb.trans b2.sb;have F4:=VC I5 pn _ (Jc (Y0 Vc Z)) hv;refine⟨v,.ref t2,Z,x,F4,kS.k6,N2,fkx x xm,o1.len,λgv H3 s3 h3=>?_⟩;obtain⟨rt,ert⟩:=fk.at ym;refine⟨v,y,Z,_,F4.mono s3,by have:=kS.k6;omega,ert,λtv H4 s4 h4=>?_⟩;obtain⟨tv',xt,rfl,htv,hxt⟩:=Yz h4;obtain rfl:=X9 hxt;refine⟨_,_,Z0 htv,Yq (j:=0) rfl,sl 2,λt5 ht5=>?_⟩;refine up_in ht5 _ λH5 s5 g5=>?_;have s25:=(s3.trans s4).trans s5;have sb5:SameB p H H5:=I5.trans s25.sb;have R5:=sb5 _ _ S2 R6;refine⟨⟨_,Z1 R5⟩,?_⟩;refine US (us:=X) (D:=Vz) (E:=λx=>.str x.1.1) (itl (Z1 R5)) (Vd sb5 pn _ (Dat.nis_of D3) F3) (by omega) (λu x R hm hu rT=>?_) λvn nl H6 fnl s6 hnl hvn=>?_
 .obtain ⟨t',u',xs',w',rfl,ht,_⟩:=JT hu
  exact⟨_,_,Z0 ht,Yq (j:=0) rfl,rT _ Yu⟩
 obtain rfl:=X9 (ns:=X.map λx=>x.1.1) (by rw[za];exact hvn);have s26:=s25.trans s6;have I8:=I9.same s26;refine⟨p,sa,.ref nl,_,I8,VQ hnl (VZ _),by rw[ZA];omega,λS H7 I4 L nw=>?_⟩;have J4:SameB p H2 H7:=s26.sb.trans I4;have g:SameB p H H7:=I5.trans J4;have hg:Y2 (X.map (·.1)) x.1.1=some (x.1.2.1,y):=by rw[EG wd xm,<-xy]
 have lG:(Vp Z x.1.2.1).length=x.1.2.1.length:=by unfold Vp;rw[ZA]
 have J2:∀a∈Vp Z x.1.2.1,Bo a:=λa m=>Rj m
 have dpG:(Dat.tup ((Vp Z x.1.2.1).map Bd.dat)).dep<=2:=P3 _ λa m=>by
  unfold Vp at m;obtain⟨pr,_,rfl⟩:=ZU.mp m;exact⟨_,rfl⟩
 generalize Vp Z x.1.2.1=G at h3 lG J2 dpG;have R8:(Dat.tup (G.map Bd.dat)).st=true:=Xi (Y0 Bd.st G);have l3:=o1.len;have J1:Has H7 gv (.tup (G.map Bd.dat)):=VC I4 I8 _ (Dat.ni_of R8) ((h3.mono (s4.trans s5)).mono s6);have htg7:Has H7 (.ref t5) (Bd.tag (Ug Z y)).dat:=VC I4 I8 _ (Dat.ni_of (Bd.st _)) (by rw[Bd.dat_tag];exact(U0 g5).mono s6);have hx7:Has H7 (.ref t2) (Vz x):=VC J4 I9 _ (Dat.ni_of (V5 _)) N2;have hv7:=VC J4 I9 _ (Jc (Y0 Vc Z)) F4;have hra7:=g _ _ S2 R6;have hxr7:=Vd g pn _ (Dat.nis_of D3) F3;have hs7:=VC g pn _ (Dat.ni_of (Bd.st _)) hs;clear hva hxs2 hu2 ht2 ev hxt htv h4 h3 g5 hvn hnl R5 N2 hal ht5 F4;refine⟨sl 0,λt8 ht8=>?_⟩;refine up_in ht8 _ λH8 s8 g8=>?_;refine⟨sl 2,λt9 ht9=>?_⟩;refine up_in ht9 _ λH9 s9 g9=>?_;refine⟨sl 2,λtA htA=>?_⟩;refine up_in htA _ λHA sA gA=>?_;refine⟨sl 1,λtB htB=>?_⟩;refine up_in htB _ λHB sB gB=>?_;have s79:=s8.trans s9;have s7A:=s79.trans sA;have s7B:=s7A.trans sB;refine Jv (D:=Bd.dat) (l1:=G) (l2:=[.tag (Ug Z y)]) (J1.mono s7B) (Yn gB (Z3 (htg7.mono s7B))) (by show _+1<=900;omega) λuC HC sC hC=>?_;refine⟨sl 2,λtD htD=>?_⟩;refine up_in htD _ λHD sD gD=>?_;refine⟨sl 3,λT hlo=>?_⟩;have sBD:=sC.trans sD;have sAD:=sB.trans sBD;have s9D:=sA.trans sAD;have s8D:=s9.trans s9D;have O:=s8.trans s8D
 let W:Go->Prop:=GoW (kdn Z hd 13 kv) (Y2 (X.map (·.1))) y
 have w1:W (S,[]):=Eb (WV (by rw[za];exact nw)) (λa m=>nomatch m) (by decide);have w2:W ("NoRow",G):=Eb (WV (by rw[za];exact SX wd)) J2 (by omega)
 have w3:W (x.1.1,G++[.tag (Ug Z y)]):=Le hg (by rw[ZJ,zg];omega) (λa m=>by
  rcases ZV.mp m with m|m
  .exact J2 a m
  .rw [ZO.mp m];exact WB _) (by rw[ZJ,zg];omega)
 have F2:Lb K sa HD p T ([(S,[]),("NoRow",G),(x.1.1,G++[.tag (Ug Z y)])].map goF) (upd HD T (.lst [.ref t9,.ref tA,.ref tD])):=Lb.of (L.same O) hlo
  (Z2 (Yn (s9D _ _ g9) (Z2 Yu (Z3 (Yn (s8D _ _ g8) Z4)))) (Z2 (Yn (sAD _ _ gA) (Z2 Yu (Z3 (J1.mono O)))) (Z3 (Yn gD (Z2 Yu (Z3 (hC.mono sD))))))) (Y0 W3 _)
 generalize upd HD T (.lst [.ref t9,.ref tA,.ref tD])=HE at F2 |-;have I3:=O.sb.trans F2.sb;have I1:=I3 _ _ S2 hra7;obtain⟨zE,hzE,hhE,_⟩:=F2.zs;refine⟨.inl ⟨rfl,_,Z1 hzE⟩,?_⟩;refine⟨⟨_,Z1 I1⟩,?_⟩;have hvE:=VC I3 L _ (Jc (Y0 Vc Z)) hv7;refine W6 (us:=X) (D:=Vz) (F:=λx=>goF (x.1.1,Vp Z x.1.2.1)) (λx=>decide (x.1.2.2≠y)) (λH' s=>itl (Z1 (s _ _ I1))) (Vd I3 L _ (Dat.nis_of D3) hxr7) (by omega) (λu x' Ha R hm sa' hx rT rF=>?_) λvs q1 HF fq sF hq1 hvs=>?_
 .obtain ⟨t',u',xs',w',rfl,ht,_⟩:=JT hx
  refine⟨_,_,Z0 ht,Yq (j:=2) rfl,rfl,_,rfl,Jn (λc=>?_) λc=>rF (by simpa using c)⟩;refine⟨_,_,Z0 ht,Yq (j:=0) rfl,v,_,Z,u,hvE.mono sa',kS.k6,hx,fkx u hm,(ho u hm).len,λgv' Hb sb' hb=>⟨sl 2,λtn htn=>?_⟩⟩;refine up_in htn _ λHc sc gc=>?_;exact rT _ _ (by simpa using c) (sb'.trans sc) (Yn gc (Z2 Yu (Z3 (hb.mono sc))))
 have lfi2:=zN (λx:Rw=>decide (x.1.2.2≠y)) X;have lvs:=hvs.length;rw[ZA]at lvs;have lzE:=hhE.length;rw[ZA]at lzE;refine⟨T,q1,_,_,rfl,rfl,sF _ _ hzE,hq1,Zf (Yp (by rw[lzE];show 3+_<=1000;omega)),?_⟩;have M2:=(F2.sm sF).ex (es:=((X.filter λx=>decide (x.1.2.2≠y)).map λx=>(x.1.1,Vp Z x.1.2.1)).map goF) (sF _ _ hzE) (by rw[za];exact hvs) (Y0 W3 _);rw[<-ZI]at M2;generalize upd HF T (.lst (zE++ vs))=HG at M2 |-
 have wG:∀x'∈ [(S,[]),("NoRow",G),(x.1.1,G++[.tag (Ug Z y)])]++ ((X.filter λx=>decide (x.1.2.2≠y)).map λx=>(x.1.1,Vp Z x.1.2.1)),W x':=λx' m=>by
  rcases ZV.mp m with m|m
  .simp only[Zb,zT,or_false]at m
   rcases m with rfl|rfl|rfl
   .exact w1
   .exact w2
   .exact w3
  .obtain ⟨x2,m2,rfl⟩:=ZU.mp m
   obtain⟨m3,m4⟩:=ze.mp m2;exact Pi (ps:=x2.1.2.1) (z:=x2.1.2.2) (by rw[EG wd m3]) (Zr m4) (λa m=>Rj m) (by unfold Vp;rw[ZA];have:=(ho x2 m3).len;omega)
 have lGG:([(S,[]),("NoRow",G),(x.1.1,G++[.tag (Ug Z y)])]++ ((X.filter λx=>decide (x.1.2.2≠y)).map λx=>(x.1.1,Vp Z x.1.2.1))).length<=9:=by
  rw[ZJ,ZA];show 3+_<=9;omega
 have lG1:1<=([(S,[]),("NoRow",G),(x.1.1,G++[.tag (Ug Z y)])]++ ((X.filter λx=>decide (x.1.2.2≠y)).map λx=>(x.1.1,Vp Z x.1.2.1))).length:=by
  rw[ZJ];show 1<=3+_;omega
 generalize [(S,[]),("NoRow",G),(x.1.1,G++[.tag (Ug Z y)])]++ ((X.filter λx=>decide (x.1.2.2≠y)).map λx=>(x.1.1,Vp Z x.1.2.1))=cs0 at M2 wG lGG lG1;dsimp only[IW];refine V7 (λU' H'=>(∃t:List Go,Lb K sa HD p T (t.map goF) H'/\(∀b∈t,W b)/\1<=t.length/\t.length<=14)/\∃z12 Z9 Z8:kJ,U'=[some (.ref p),some v,some (.ref ra),some (.str y),some sv,some (.ref al),some (.ref t2),some (.str x.1.1),some gv,some (.ref t5),some (.str S),some (.ref T),z12,Z9,Z8]) ?_ ?_
 case refine_2=>
  intro N key;have sbG:=O.sb.trans M2.sb;have hgG:=VC sbG L _ (Dat.ni_of R8) J1;refine⟨sl 0,λtz htz=>?_⟩;refine up_in htz _ λH1' I7 g1'=>?_;refine⟨.tup (G.map Bd.dat),.tup [],hgG.mono I7,Yn g1' Z4,dpG,_,rfl,?_⟩;have lb1:=M2.sm I7;refine Jn (λc1=>?_) (λc1=>key _ _ ⟨⟨cs0,lb1,wG,lG1,by omega⟩,_,_,_,rfl⟩);rw[Om]at c1
  have g0:0<G.length:=by
   cases G with
   |nil=>exact Zp c1 (by simp)
   |cons a r=>exact Nat.succ_pos _
  obtain⟨ga,gs,rfl,hga,hgs⟩:=Yz (hgG.mono I7);have lgs:=hgs.length;rw[ZA]at lgs;refine⟨ga,_,rfl,.inr (Z0 hga),?_⟩;refine Jq p sa gs.length rfl lb1.pn (by omega) (by omega) λi H2' il b2' pn2'=>?_;have lb2:=lb1.mv b2'.sb pn2';have sb2':=O.sb.trans lb2.sb;have hG2:=VC sb2' L _ (Dat.ni_of R8) J1;have F6:JC G none (some (i:Int))=G.take i:=Xs G i (by omega);have F5:JC G (some ((i:Int)+1)) none=G.drop (i+1):=W5 G (i+1) (by omega);have cl1:(JC G none (some (i:Int))).length<=3:=by rw[F6,ZL];omega
  have cl2:(JC G (some ((i:Int)+1)) none).length<=3:=by rw[F5,zp];omega
  obtain⟨pr,hpr⟩:∃pr,x.1.2.1[i]?=some pr:=⟨_,ZC (show i<x.1.2.1.length by omega)⟩
  have wp:∀a,Bo a->kdn Z hd 13 kv a≠some pr.2->W (x.1.1,X2 G i a):=λa ba na=>CH hg (Oj (by omega)) hpr na (λb m=>by
   rcases Kh m with rfl|m
   .exact ba
   .exact J2 b m) (by rw[Ki (by omega)];omega)
  have wq:W (x.1.1,G.take i++ G.drop (i+1)):=Le hg (by rw[ZJ,ZL,zp];omega) (λb m=>by
   rcases ZV.mp m with m|m
   .exact J2 b (Zi m)
   .exact J2 b (yi m)) (by rw[ZJ,ZL,zp];omega)
  obtain⟨z2,hz2,hh2,_⟩:=lb2.zs;refine⟨.inl ⟨rfl,_,Z1 hz2⟩,?_⟩;refine⟨i,rfl,JX (ls:=G) hG2 λu3 H3' s3' h3'=>?_⟩;refine⟨(i:Int)+1,rfl,noP (JX (ls:=G) (hG2.mono s3') λu4 H4' s4' h4'=>?_)⟩;refine Jv (h3'.mono s4') h4' (by omega) λu5 H5' s5' h5'=>?_;refine⟨sl 2,λt6 ht6=>?_⟩;refine up_in ht6 _ λH6' s6' g6'=>?_;have L1:=((s3'.trans s4').trans s5').trans s6';have lz2:=hh2.length;rw[ZA]at lz2;refine⟨T,_,_,rfl,rfl,L1 _ _ hz2,Yp (by omega),?_⟩;rw[F6,F5]at h5';have F1:=(lb2.sm L1).ap (d:=goF (x.1.1,G.take i++ G.drop (i+1))) (L1 _ _ hz2) (Yn g6' (Z2 Yu (Z3 (h5'.mono s6')))) (W3 _);generalize upd H6' T (.lst (z2++[.ref t6]))=H7' at F1 |-;have F9:=O.sb.trans F1.sb;have hG7:=VC F9 L _ (Dat.ni_of R8) J1;have hs7':=VC F9 L _ (Dat.ni_of (Bd.st _)) hs7;obtain⟨z7,hz7,hh7,_⟩:=F1.zs;refine⟨.inl ⟨rfl,_,Z1 hz7⟩,?_⟩;refine⟨i,rfl,JX (ls:=G) hG7 λu8 H8' G3 h8'=>?_⟩;refine⟨sl 1,λt8' R4=>?_⟩;refine up_in R4 _ λH9' D0 g9'=>?_;have M:=G3.trans D0;refine Jv (D:=Bd.dat) (l2:=[sb]) (h8'.mono D0) (Yn g9' (Z3 (hs7'.mono M))) (by show _+1<=900;omega) λuA HA' G2 hA'=>?_;refine⟨(i:Int)+1,rfl,noP (JX (ls:=G) (hG7.mono (M.trans G2)) λuB HB' G1 hB'=>?_)⟩;refine Jv (hA'.mono G1) hB' (by rw[ZJ];show _+1+_<=900;omega) λuC HC' I6 R7=>?_;refine⟨sl 2,λtD' R3=>?_⟩;refine up_in R3 _ λHD' J5 gD'=>?_;have J:=(((M.trans G2).trans G1).trans I6).trans J5;have lz7:=hh7.length;rw[ZJ,ZA,zg]at lz7;refine⟨T,_,_,rfl,rfl,J _ _ hz7,Yp (by omega),?_⟩;rw[F6,F5]at R7;have C2:=(F1.sm J).ap (d:=goF (x.1.1,X2 G i sb)) (J _ _ hz7) (Yn gD' (Z2 Yu (Z3 (R7.mono J5)))) (W3 _);generalize upd HD' T (.lst (z7++[.ref tD']))=HE' at C2 |-
  have l:Lb K sa HD p T ((cs0++[(x.1.1,G.take i++ G.drop (i+1)),(x.1.1,X2 G i sb)]).map goF) HE':=by
   rw[ZI];rw[yw]at C2;exact C2
  have wE:∀b∈cs0++[(x.1.1,G.take i++ G.drop (i+1)),(x.1.1,X2 G i sb)],W b:=λb m=>by
   rcases ZV.mp m with m|m
   .exact wG b m
   .simp only[Zb,zT,or_false]at m
    rcases m with rfl|rfl
    .exact wq
    .exact wp sb (bad pr.2).bo (bad pr.2).ne
  have lE:(cs0++[(x.1.1,G.take i++ G.drop (i+1)),(x.1.1,X2 G i sb)]).length<=11:=by rw[ZJ];show _+2<=11;omega
  have lE1:1<=(cs0++[(x.1.1,G.take i++ G.drop (i+1)),(x.1.1,X2 G i sb)]).length:=by rw[ZJ];show 1<=_+2;omega
  generalize cs0++[(x.1.1,G.take i++ G.drop (i+1)),(x.1.1,X2 G i sb)]=cs1 at l wE lE lE1;have sbE':=O.sb.trans l.sb;refine⟨v,Z,VC sbE' L _ (Jc (Y0 Vc Z)) hv7,by have:=kS.k6;omega,λfa xf HL ffa sL hfa hxf=>?_⟩;refine⟨⟨_,Z1 hfa⟩,?_⟩;have lbL:=l.sm sL;obtain⟨zL,hzL,_⟩:=lbL.zs
  have nfl:fa≠T:=λz=>by
   obtain⟨z',hz',_⟩:=l.zs;rw[<-z,ffa]at hz';cases hz'
  have lxf:=hxf.length;rw[ZA]at lxf;have f3:=kS.f3
  let I:kH:=λk U Hi=>(∃t:List Go,Lb K sa HD p T (t.map goF) Hi/\(∀b∈t,W b)/\t.length<=11+k/\1<=t.length)/\SameB T HL Hi/\∃Z9 Z8:kJ,U=[some (.ref p),some v,some (.ref ra),some (.str y),some sv,some (.ref al),some (.ref t2),some (.str x.1.1),some (.ref ga),some (.ref t5),some (.str S),some (.ref T),some (.int (i:Nat)),Z9,Z8]
  refine Ua (xs:=xf) I ⟨⟨cs1,lbL,wE,by omega,lE1⟩,SameB.refl _ _,_,_,rfl⟩ (λk U Hi _ z=>Z1 (z.2.1 _ _ nfl hfa)) ?_ ?_
  .rintro BB RR k xv U Hi hxk ⟨⟨t,lbi,wi,li,li1⟩,sbi,Z9,Z8,rfl⟩
   have kl:=(ZE.mp hxk).1;have tkL:TK HL Hi:=λb us e=>sbi b _ (λh=>by rw[h,hzL]at e;cases e) e;obtain⟨⟨zk,sk⟩,hk,hxk2⟩:=getD (VS tkL _ (Y0 Vc (flat Z)) hxf) hxk;have mk:=ZH hk;obtain⟨rk,erk⟩:=kS.flk.at (ZU.mpr ⟨_,mk,rfl⟩);rw[UH kS.nd (ze.mp mk).1]at erk;obtain rfl:sk=Shp.tags (Ug Z zk::rk):=ZP erk;obtain⟨ta,va',rfl,hta,hsa⟩:=Jt hxk2;obtain⟨tb,tt,rfl,htb,htt⟩:=Jg hsa;refine⟨_,Z0 hta,rfl,?_⟩;have F8:=O.sb.trans lbi.sb;obtain⟨_,u2',F7,w2',e2',ht2',hu2',R1,_⟩:=JT (VC F8 L _ (Dat.ni_of (V5 _)) hx7);cases e2';have lx2:=R1.length;rw[ZA]at lx2;obtain⟨pr',I2,hxp⟩:=getD R1 (ZC (show i<F7.length by omega));rw[hpr]at I2;cases I2;obtain⟨tp,ep,htp⟩:=X8 hxp;refine⟨_,.ref u2',Z0 ht2',Yq (j:=1) rfl,_,.ref tp,Z0 hu2',Yq (by rw[ZC (show i<F7.length by omega),ep]),_,.str pr.2,Z0 htp,Yq (j:=1) rfl,rfl,_,rfl,?_⟩;refine Jn (λc2=>?_) λc2=>⟨⟨t,lbi,wi,by omega,li1⟩,sbi,_,_,rfl⟩;have c2':zk≠pr.2:=by simpa using c2
   obtain⟨zi,hzi,hhi,_⟩:=lbi.zs;have hGi:=VC F8 L _ (Dat.ni_of R8) J1;refine⟨.inl ⟨rfl,_,Z1 hzi⟩,?_⟩;refine⟨i,rfl,JX (ls:=G) hGi λu8 H8' G3 h8'=>?_⟩;refine⟨_,.ref tt,Z0 (G3 _ _ htb),Yq (j:=1) rfl,_,.str (Ug Z zk),Z0 (G3 _ _ htt),Yq (j:=0) rfl,sl 2,λt8' R4=>?_⟩;refine up_in R4 _ λH9' D0 g9'=>?_;refine⟨sl 1,λt9' ht9'=>?_⟩;refine up_in ht9' _ λHZ' sZ' gZ'=>?_;have I0:=D0.trans sZ';have M:=G3.trans I0;refine Jv (D:=Bd.dat) (l2:=[.tag (Ug Z zk)]) (h8'.mono I0) (Yn gZ' (Z3 (by rw[Bd.dat_tag];exact U0 (sZ' _ _ g9')))) (by show _+1<=900;omega) λuA HA' G2 hA'=>?_;refine⟨(i:Int)+1,rfl,noP (JX (ls:=G) (hGi.mono (M.trans G2)) λuB HB' G1 hB'=>?_)⟩;refine Jv (hA'.mono G1) hB' (by rw[ZJ];show _+1+_<=900;omega) λuC HC' I6 R7=>?_;refine⟨sl 2,λtD' R3=>?_⟩;refine up_in R3 _ λHD' J5 gD'=>?_;have J:=(((M.trans G2).trans G1).trans I6).trans J5;have lzi:=hhi.length;rw[ZA]at lzi;refine⟨T,_,_,rfl,rfl,J _ _ hzi,Yp (by omega),?_⟩;rw[F6,F5]at R7;have lbZ:=(lbi.sm J).ap (d:=goF (x.1.1,X2 G i (.tag (Ug Z zk)))) (J _ _ hzi) (Yn gD' (Z2 Yu (Z3 (R7.mono J5)))) (W3 _);refine⟨⟨t++[(x.1.1,X2 G i (.tag (Ug Z zk)))],by rw[ZI];exact lbZ,λb m=>?_,by rw[ZJ];show _+1<=_;omega,by rw[ZJ];show 1<=_+1;omega⟩,λb o nb hb=>by rw[Yd nb];exact J _ _ (sbi _ _ nb hb),_,_,rfl⟩;rcases ZV.mp m with m|m
   .exact wi b m
   .rw [ZO.mp m]
    refine wp _ (WB _) ?_;rw[WT kS.kg nt (UH kS.nd (ze.mp mk).1) ZY];exact λe=>c2' (ZP e)
  .rintro U Hi ⟨⟨t,lbi,wi,li,li1⟩,sbi,Z9,Z8,rfl⟩
   refine key _ _ ⟨⟨t,lbi,wi,li1,by omega⟩,_,_,_,rfl⟩
 rintro U' H' ⟨⟨t,lb,wc,l1,l14⟩,z12,Z9,Z8,rfl⟩;obtain⟨yy,hyy,hyh,_⟩:=lb.zs;have lyy:=hyh.length;rw[ZA]at lyy;refine⟨T,_,rfl,.inl (Z1 hyy),?_⟩;refine Jq p sa yy.length rfl lb.pn (by omega) (by omega) λr' HX rl' bc pnc=>?_;obtain⟨bd,hbd,hub⟩:=getD (Vd bc.sb lb.pn _ (Dat.nis_of (Y0 W3 t)) hyh) (ZC rl');exact⟨_,_,Z1 (bc.sb _ _ lb.np hyy),Yq (ZC rl'),q _ bd HX (((g.trans O.sb).trans lb.sb).trans bc.sb) pnc hub (wc _ (ZH hbd))⟩
end
end K4
namespace L2
open PySem
theorem Sh{Z:List (Str×Str)}(h:x∉Z.map (·.1)):VH (kvP Z) (Sum.inr x)=none:=Uz (by
 unfold kvP;rw[za];intro m;obtain⟨J,G,e⟩:=ZU.mp m;exact h (ZU.mpr ⟨J,G,Sum.inr.inj e⟩))
theorem Bd.dat_name(t:Str):(Bd.name t).dat=.tup [.str "name",.str t]:=by unfold Bd.dat;rfl
theorem Pf(h:Has H v (goF x)):∃t w,v=.ref t/\H t=some (.tup [.str x.1,w])/\Has H w (.tup (x.2.map Bd.dat)):=by
 unfold goF at h;obtain⟨t,R,rfl,L,M⟩:=Yz h;obtain⟨T,D,rfl,O,J⟩:=Yb M;obtain⟨G,B,rfl,N,Z⟩:=Yb J;obtain rfl:=VD Z;obtain rfl:=has_str O;exact⟨t,G,rfl,L,N⟩
theorem Rb.dat_on(r:Str)(Z:List Bd):(Rb.on r Z).dat=.tup [.str "on",.str r,.tup (Z.map Bd.dat)]:=by unfold Rb.dat;rw[Z7]
theorem Rb.dat_thn(e:Bd)(r:Str)(Z:List Bd):(Rb.thn e r Z).dat=.tup [.str "then",e.dat,.str r,.tup (Z.map Bd.dat)]:=by unfold Rb.dat;rw[Z7]
theorem Ef(J:Each (λ(G:Str×Str) b=>Sd R T O G.2 5 b) N M):∀a∈M,Bo a:=λa L=>by
 obtain⟨i,Z⟩:=zh.mp L;have l:=(ZE.mp Z).1;rw[J.1]at l;exact(J.2 i _ a (ZC l) Z).bo
theorem Sz(h:Has H v b.dat)(p:RK B P rh X y n b):(∃e N S z m,b=.br e N S/\n=m+1/\VG B z=some (.tags N)/\Sd B P X z 5 e/\S.length=N.length/\N.length<=4/\N.Nodup/\∀b∈S,RK B P rh X y m b) \/
  ∃a w T r Q,∃U:List Bd,v=.ref a/\H a=some (.tup (.str w::T))/\w≠"by" /\atI (.str w::T) (-2)=some (.str r)/\atI (.str w::T) (-1)=some Q/\Has H Q (.tup (U.map Bd.dat))/\(∀a∈U,Bo a)/\U.length<=9:=by
 cases p with
 |br M R I s o l u=>exact .inl ⟨_,_,_,_,_,rfl,rfl,M,R,I,o,l,u⟩
 |on M R I=>
  rw[Rb.dat_on]at h;obtain⟨t,j,rfl,D,F⟩:=Yz h;obtain⟨k,f,rfl,M,G⟩:=Yb F;obtain⟨g,d,rfl,O,J⟩:=Yb G;obtain⟨C,c,rfl,L,Z⟩:=Yb J;obtain rfl:=VD Z;obtain rfl:=has_str M;obtain rfl:=has_str O;exact .inr ⟨t,"on",_,_,C,_,rfl,D,by decide +kernel,rfl,rfl,L,Ef R,by omega⟩
 |thn x M R I=>
  rw[Rb.dat_thn]at h;obtain⟨t,j,rfl,D,F⟩:=Yz h;obtain⟨k,f,rfl,M,G⟩:=Yb F;obtain⟨g,d,rfl,O,J⟩:=Yb G;obtain⟨C,c,rfl,L,Z⟩:=Yb J;obtain⟨q,i,rfl,A,E⟩:=Yb Z;obtain rfl:=VD E;obtain rfl:=has_str M;obtain rfl:=has_str L;exact .inr ⟨t,"then",_,_,q,_,rfl,D,by decide +kernel,rfl,rfl,A,Ef R,by omega⟩
theorem AJ{Z:List (Str×Rb)}(m:x∈Z)(w:rbG kd L rh y n x.2=false)(O:Bo e)(G:Z.length<=9)(J:∀x∈Z,RO n x.2):Wrg kd L rh y (n+1) (.br e (Z.map (·.1)) (Z.map (·.2))):=
 ⟨.br O (by rw[ZA,ZA]) (by rw[ZA];exact G) (λb N=>by obtain⟨x,M,rfl⟩:=ZU.mp N;exact J x M),Of (ZU.mpr ⟨x,m,rfl⟩) w⟩
structure BX(H:Hp)(v rv lv:V)(ks:List (Str×Shp))(c d:Str->Nat)(hd:Hds)(rs:List Rw)(ns:List Str)(ls:List Bd):Prop where
 hv:Has H v (.lst (ks.map Vq))
 kS:Xv ks c d
 nt:∀z ts,VG ks z=some (.tags ts)->1<=ts.length
 nd:hd "NoDef"=none
 hrs:Has H rv (.lst (rs.map Vz))
 l6:rs.length<=6
 wd:Wds 97 (rs.map λx=>x.1.1)
 ho:∀x∈rs,UW ns c 24 x.1
 fk:FlK ks ns
 hl:Has H lv (.lst (ls.map Bd.dat))
 ll:ls.length<=6
 lb:∀a∈ls,∀kv y,Bad ks hd kv y a
theorem BX.pn(b:BX H v L lv G c d N rs M J)(s:SameB p H O)(Z:Pen K sa H p):BX O v L lv G c d N rs M J:=
 {b with hv:=VC s Z _ (Jc (Y0 Vc G)) b.hv,hrs:=VC s Z _ (Jc (Y0 V5 rs)) b.hrs,hl:=VC s Z _ (Jc (Y0 Bd.st J)) b.hl}
end L2
namespace K4
open PySem L2
section
abbrev bbp:kq:=["_law_pen","_law_kinds_here","_law_rows_here","_law_lone","_law_row","_law_body_here"]
theorem U6:Yo ["_law_pen","_law_kinds_here","_law_rows_here","_law_lone","_law_row","_law_body_here","_law_names_here","_law_strange","_law_branches","_law_at","_law_inner","_law_way","_law_name","_law_given"] bbp (Yc EU):=Y3
inductive SBB(K:W.Frag)(m:Nat)(H:Hp)(Q:VK):List V->Prop
 |mk (p sa:Addr) (v rv lv tv bv:V) (ks:List (Str×Shp)) (c d:Str->Nat) (hd:Hds) (rs:List Rw) (ns:List Str) (ls:List Bd) (x:Rw) (n:Nat) (b:Rb) (pn:Pen K sa H p) (bx:BX H v rv lv ks c d hd rs ns ls) (xm:x∈rs) (hx:Has H tv (Vz x)) (hb:Has H bv b.dat) (rk:RK ks hd (Y2 (rs.map (·.1))) (kvP x.1.2.1) x.1.2.2 n b) (dm:n<m)
  (q:∀u b' H',SameB p H H'->Pen K sa H' p->Has H' u b'.dat->Wrg (kdn ks hd 13 (kvP x.1.2.1)) ks (Y2 (rs.map (·.1))) x.1.2.2 (n+1) b'->Q u H'):SBB K m H Q [.ref p,v,rv,lv,tv,bv]
def FA(K:W.Frag)(m:Nat):Sp:=λZ H Q _=>SBB K m H Q Z
theorem Av(B:Blt o)(F:Fun K "_law_bent_body" "_law_bent_body" EU f fd)(DN:Df P w K o base L "_law_next" pnm (JY K))(DW:Df P w K o base L "_law_small_word" ["_law_pen","_law_taken"] (XT K))(DT:Df P w K o base L "_law_tags_of" ["_law_kinds_here","_law_kind"] J7)(DC:Df P w K o base L "_law_bad_choice" ["_law_pen","_law_kinds_here","_law_body_here","_law_strange"] (OO K))(DO:Df P w K o base L "_law_bad_going" ["_law_pen","_law_kinds_here","_law_rows_here","_law_own","_law_strange"] (ON K))(DF:Df P w K o base L "_law_bad_first" ["_law_pen","_law_kinds_here","_law_own","_law_strange"] (Io K))(G:Yk P w K o base CX0 L f fd bbp (FA K m))(bG:Binds K fd bbp [])(mG:o "_law_bent_body"=some (.ref f)):Yk P w K o base CX0 (L+1) f fd bbp (FA K (m+1)):=by
 have DG:Df P w K o base L "_law_bent_body" bbp (FA K m):=⟨f,fd,mG,F.kp,bG,G⟩;refine F.oi U6 λcdv A outer s H vs Q E a h=>?_;obtain⟨p,sa,v,rv,lv,tv,bv,ks,c,d,hd,rs,ns,ls,x,n,b,pn,M,xm,hx,hb,rk,dm,q⟩:=h;refine⟨_,YW (Mp (i0:=6) ["_law_one"] [] U6.nd rfl (Or.inl rfl) (JH (Yi Yl (pv 4) YX)) (VR (i:=0) (by decide)) (λcl C fp s H=>YZ 0 EO rfl (Or.inl rfl) (Or.inr rfl)) (λcl C fp s H=>Yi (r:=J9 K) Yl (pv 0) YX))
  (YW (Ym 7 U6.nd (Yi Y4 (Y1 Mv (Vs (pa1 (Yx (pa2 Y7 (Yw DW a (pa2 (pv 0) (pv 6))))))) (pv 3)) (Yw DN a (pa2 (pv 0) (Y1 Vf YX (Yr Yj rfl B.len Zs (pa1 (pv 3)))))) (λ_ _=>rfl)))
  (YW (Y5 (Ys V9 (Yi Yl (pv 5) YX) Y7 (Yy _))
   (YW (Y5 (Ys V9 (Yw DN a (pa2 (pv 0) YX)) YX (Yy _)) (YY (Yt (Yw DC a (pa4 (pv 0) (pv 1) (pv 5) (pv 7))))) Yv)
   (YW (Ym 8 U6.nd (Yi Yl (pv 5) YX))
   (YW (Ym 9 U6.nd (Yw DN a (pa2 (pv 0) (Yr Yj rfl B.len Zs (pa1 (pv 8))))))
   (YW (Ym 10 U6.nd (Yw DG a (pa6 (pv 0) (pv 1) (pv 2) (pv 3) (pv 4) (Yi Yl (Yi Yl (pv 8) (pv 9)) YX))))
   (YY (Yt (Yx (pa3 Y7 (Yi Yl (pv 5) YX) (Y1 Jh (Y1 Jh (VM JV (pv 8) Vb (Va (pv 9))) (Yx (pa1 (Yx (pa2 (Yi Yl (Yi Yl (pv 8) (pv 9)) YX) (pv 10)))))) (VM JV (pv 8) (Va (Y1 Vf (pv 9) YX)) Vb)))))))))) Yv)
  (YW (Ym 11 U6.nd (Yw DN a (pa2 (pv 0) YX)))
  (YW (JP (Yw DO a (pa5 (pv 0) (pv 1) (pv 2) (Yi Yl (pv 4) YX) (pv 7))) (VE (n:=2) rfl (Ye (YZ 12 U6.nd) (Ye (YZ 13 U6.nd) Y6))))
  (YW (Y5 (Ys V9 (pv 11) YX (Yy _)) (YY (Yt (Yx (pa3 Y7 (pv 12) (pv 13))))) Yv)
  (YW (Y5 (Ys V9 (pv 11) YX (Yy _)) (YY (Yt (Yx (pa4 Y7 (Yx (pa2 Y7 (Yi Yl (Yw DT a (pa2 (pv 1) (Yi Yl (pv 4) YX))) YX))) (pv 12) (pv 13))))) Yv)
  (YY (Yt (Yx (pa4 Y7 (Yw DF a (pa4 (pv 0) (pv 1) (Yi Yl (pv 4) YX) (pv 7))) (Yi Yl (pv 5) (EJ MG YX)) (Yi Yl (pv 5) (EJ MG YX)))))))))))),?_⟩
 dsimp only[Vl,Cx.nox,Cx.wish];show let T0:=_;let T1:=_;let T2:=Yh (VN _ T1 _) T0;let T3:=_;let T4:=Yh (VN _ T3 _) T2;let T5:=Yh _ T4;let T6:=Yh _ T5;let T7:=_;let T8:=Yh _ T7;let T9:=Yh _ T8;let T10:=Yh _ T9;let T11:=_;let T12:=Yh (VN _ T11 _) T10;let T13:=Yh (VN _ T12 _) T6;let T14:=Yh _ T13;Yh _ T14 _ _ _
 intros
 obtain⟨tx,ux,xx,wx,rfl,I9,I8,hxx,_⟩:=JT hx;have o1:=M.ho x xm;have l3:=o1.len;refine⟨_,.ref ux,Z0 I9,Yq (j:=1) rfl,⟨_,Z0 I8⟩,?_⟩;refine US (us:=x.1.2.1) (D:=prD) (E:=λp=>.str p.1) (itt (Z0 I8)) hxx (by omega) (λu x R hm hu rT=>?_) λvn nl H1 fnl s1 C2 I7=>?_
 .obtain ⟨t8,rfl,ht8⟩:=X8 hu
  exact⟨_,_,Z0 ht8,Yq (j:=0) rfl,rT _ Yu⟩
 obtain rfl:=X9 (ns:=x.1.2.1.map (·.1)) (by rw[za];exact I7);refine⟨p,sa,.ref nl,_,pn.same s1,VQ C2 (VZ _),by rw[ZA];omega,λwd' H2 sb2 I4 nw=>?_⟩;refine⟨sl 2,λt3 ht3=>?_⟩;refine up_in ht3 _ λH3 s3 g3=>?_;refine⟨sl 1,λl4 hl4=>?_⟩;refine up_in hl4 _ λH4 s4 g4=>?_;have G1:SameB p H H2:=s1.sb.trans sb2;have R3:=s3.trans s4;have F8:SameB p H H4:=G1.trans R3.sb;have bx4:=M.pn F8 pn;obtain⟨la,xl,rfl,F2,R7⟩:=V2 bx4.hl;have lxl:=R7.length;rw[ZA]at lxl;have ll:=M.ll;refine⟨l4,la,_,xl,rfl,rfl,g4,F2,Zf (Yp (by show 1+_<=1000;omega)),λl5 hl5=>?_⟩;refine up_in hl5 _ λH5 s5 g5=>?_;have I0:=R3.trans s5;have I3:=I4.same I0;have np5:l5≠p:=(I4.same R3).ne hl5;refine⟨la,_,rfl,.inl (Z1 (s5 _ _ F2)),?_⟩;refine Jq p sa (1+xl.length) rfl I3 (by omega) (by omega) λr H6 rl b6 Z=>?_;have I1:r<([V.ref t3]++ xl).length:=by rw[ZJ];exact rl
 have S2:HasL H5 ([V.ref t3]++ xl) ((Bd.name wd'::ls).map Bd.dat):=Z2 (by rw[Bd.dat_name];exact U0 (s5 _ _ (s4 _ _ g3))) (R7.mono s5);have G2:=Vd b6.sb I3 _ (Dat.nis_of (Y0 Bd.st _)) S2;obtain⟨sb,hsb,F1⟩:=getD G2 (ZC I1)
 have F7:∀y,Bad ks hd (kvP x.1.2.1) y sb:=λy=>by
  rcases Zb.mp (ZH hsb)with rfl|m
  .exact ⟨P0 _,by rw[Fd (Sh nw)];exact λz=>nomatch z⟩
  .exact M.lb sb m _ y
 refine⟨_,_,Z1 (b6.sb _ _ np5 g5),Yq (ZC I1),?_⟩;have I:SameB p H H6:=(G1.trans I0.sb).trans b6.sb;have J5:=M.pn I pn;have F4:=VC I pn _ (Dat.ni_of (Rb.st _)) hb;have hx6:=VC I pn _ (Dat.ni_of (V5 _)) hx;generalize ([V.ref t3]++ xl)[r]=sv at F1 |-;have tk6:=pn.tk I;clear G2 S2 hb hx R7 F2 I7 C2;rcases Sz F4 rk with⟨e,ts,bs,z,m',rfl,rfl,hz,L1,lb,t4,tn,I2⟩|⟨ba,wb,xb,rn,al,as,rfl,F3,nby,a2,a1,hal,boas,las⟩
 .have he:=EB M.kS.kg M.nt L1
  obtain⟨t0,u0,b0,xs,rfl,D3,hu0,J2,R6⟩:=Dh F4 lb;refine⟨_,_,Z0 D3,Yq (j:=0) rfl,rfl,_,rfl,V1 (by decide +kernel) ?_⟩;refine⟨p,sa,3,Z,by decide,by decide,λr7 H7 r7l k X=>?_⟩;have J4:=J5.pn k.sb Z;have hb7:=VC k.sb Z _ (Dat.ni_of (Rb.st _)) F4;have J1:=VC k.sb Z _ (Dat.ni_of (Bd.st _)) F1;have sb7:=I.trans k.sb;have R4:∀b∈bs,RO (m'+1) b:=λb hb=>(I2 b hb).ro;refine⟨rfl,_,rfl,Jn (λc1=>?_) λc1=>?_⟩
  .exact ⟨p,sa,v,.ref t0,sv,x.1.2.2,z,m'+1,e,ts,bs,ks,c,d,hd,Y2 (rs.map (·.1)),kvP x.1.2.1,sb,X,J4.hv,M.kS,M.nt,M.nd,hz,he,L1.bo,lb,t4,tn,R4,hb7,J1,F7,λu b' H8 Z9 T hu wr=>q u b' H8 (sb7.trans Z9) T hu wr⟩
  have zl:(ts.zip bs).length=ts.length:=by rw[vN];omega
  have zr:∀x∈ts.zip bs,x.2∈bs:=λx hx=>(yt hx).2;generalize ts.zip bs=zs at R6 zl zr;have t1:=M.nt _ _ hz;have Z8:=Z.tk k.sb;have lxs:=R6.length;rw[ZA]at lxs;refine⟨_,.ref b0,Z0 (Z8 _ _ D3),Yq (j:=2) rfl,?_⟩;refine⟨b0,_,rfl,.inr (Z0 (Z8 _ _ J2)),?_⟩;refine Jq p sa xs.length rfl X (by omega) (by omega) λi H8 il b8 T=>?_;have J:=k.sb.trans b8.sb;have O:=Z.tk J;have I5:=VS O _ (Y0 Tj zs) R6;obtain⟨zi,hzi,hxi⟩:=getD I5 (ZC il);obtain⟨ai,wi,ei,hai,hwi⟩:=G7 hxi;have ei':xs[i]?=some (.ref ai):=by rw[ZC il,ei]
  have zim:=ZH hzi;refine⟨_,.ref ai,Z0 (O _ _ J2),Yq ei',_,wi,Z0 hai,Yq (j:=1) rfl,?_⟩;have hb8:Has H8 (.ref b0) (.tup (zs.map rbF)):=Yn (O _ _ J2) I5;have hu8:=Jd O _ (Bd.st _) hu0;refine⟨p,sa,v,rv,.ref la,.ref tx,wi,ks,c,d,hd,rs,ns,ls,x,m',zi.2,T,J5.pn J Z,xm,VC J Z _ (Dat.ni_of (V5 _)) hx6,hwi,I2 _ (zr _ zim),by omega,λuI bI H9 S R5 hI wI=>?_⟩;have N:=T.tk S;have hb9:=Jd N _ (Xi (Y0 Tj zs)) hb8;have hu9:=Jd N _ (Bd.st _) hu8;refine⟨_,u0,Z0 (N _ _ (O _ _ D3)),Yq (j:=1) rfl,i,rfl,JX (ls:=zs) hb9 λuA HA l hA=>?_⟩;refine⟨_,.ref ai,Z0 (l _ _ (N _ _ (O _ _ J2))),Yq ei',_,.str zi.1,Z0 (l _ _ (N _ _ hai)),Yq (j:=0) rfl,sl 2,λtB D0=>?_⟩;refine up_in D0 _ λHB sB gB=>?_;refine⟨sl 1,λtC R8=>?_⟩;refine up_in R8 _ λHC sC gC=>?_;have F9:=sB.trans sC;have N2:=l.trans F9;have F6:JC zs none (some (i:Int))=zs.take i:=Xs zs i (by omega);have F5:JC zs (some ((i:Int)+1)) none=zs.drop (i+1):=W5 zs (i+1) (by omega);have cl1:(JC zs none (some (i:Int))).length<=4:=by rw[F6,ZL];omega
  have cl2:(JC zs (some ((i:Int)+1)) none).length<=4:=by rw[F5,zp];omega
  refine Jv (D:=rbF) (l2:=[(zi.1,bI)]) (hA.mono F9) (Yn gC (Z3 (Yn (sC _ _ gB) (Z2 Yu (Z3 (hI.mono N2)))))) (by show _+1<=900;omega) λuD HD sD hD=>?_;refine⟨(i:Int)+1,rfl,noP (JX (ls:=zs) (hb9.mono (N2.trans sD)) λuE HE sE hE=>?_)⟩;refine Jv (hD.mono sE) hE (by rw[ZJ];show _+1+_<=900;omega) λuF HF sF hF=>?_;refine⟨sl 3,λtG htG=>?_⟩;refine up_in htG _ λHG sG gG=>?_;have M2:=(((N2.trans sD).trans sE).trans sF).trans sG;rw[F6,F5]at hF;rw[F6]at cl1;rw[F5]at cl2;refine q _ (.br e ((zs.take i++[(zi.1,bI)]++ zs.drop (i+1)).map (·.1)) ((zs.take i++[(zi.1,bI)]++ zs.drop (i+1)).map (·.2))) HG (((I.trans J).trans S).trans M2.sb) (R5.same M2) ?_ ?_
  .rw [W8]
   exact Yn gG (Z2 Yu (Z2 (hu9.mono M2) (Z3 (hF.mono sG))))
  .refine AJ (x:=(zi.1,bI)) (ZV.mpr (.inl (ZV.mpr (.inr ZY)))) wI.wr L1.bo (by rw[ZJ,ZJ];show _+1+_<=9;omega) λx' hx'=>?_
   rcases ZV.mp hx' with h|h
   .rcases ZV.mp h with h|h
    .exact R4 _ (zr _ (Zi h))
    .rw [ZO.mp h];exact wI.ro
   .exact R4 _ (zr _ (yi h))
 refine⟨_,_,Z0 F3,Yq (j:=0) rfl,rfl,_,rfl,Y9 (λz=>nby (V.str.inj (Zr z))) ?_⟩;refine⟨p,sa,3,Z,by decide,by decide,λway H7 wl k X=>?_⟩;have Z8:=Z.tk k.sb;have J4:=J5.pn k.sb Z;have J1:=VC k.sb Z _ (Dat.ni_of (Bd.st _)) F1;have t:=tk6 _ _ I9;refine⟨_,.str x.1.2.2,Z0 (Z8 _ _ t),Yq (j:=2) rfl,p,sa,v,rv,sv,x.1.2.2,ns,ks,c,d,hd,kvP x.1.2.1,rs,sb,X,J4.hv,M.kS,M.nt,J4.hrs,M.l6,M.wd,M.ho,M.fk,o1.own,⟨x,xm,rfl⟩,J1,F7,λug g H8 Z9 T hg gw=>?_⟩;obtain⟨tg,wg,rfl,htg,I6⟩:=Pf hg;refine⟨_,Z0 htg,rfl,?_⟩;have J:=k.sb.trans Z9;have U:=I.trans J;refine⟨rfl,_,rfl,Jn (λc1=>⟨sl 3,λt9 ht9=>?_⟩) λc1=>?_⟩
 .refine up_in ht9 _ λH9 s9 g9=>?_
  exact q _ (.on g.1 g.2) H9 (U.trans s9.sb) (T.same s9) (by rw[Rb.dat_on];exact Yn g9 (Z2 Yu (Z2 Yu (Z3 (I6.mono s9))))) ⟨.on gw.bo gw.l9,Oe gw.wr⟩
 have O:=Z.tk J;have bx8:=J5.pn J Z;obtain⟨rt,ert⟩:=M.fk.at o1.own;have k6:=M.kS.k6;refine⟨rfl,_,rfl,Jn (λc2=>?_) λc2=>?_⟩
 .refine ⟨_,.str x.1.2.2,Z0 (O _ _ t),Yq (j:=2) rfl,v,x.1.2.2,ks,_,bx8.hv,by omega,ert,λtv HA l hA=>?_⟩
  obtain⟨tv',xt,rfl,htv,hxt⟩:=Yz hA;obtain rfl:=X9 hxt;refine⟨_,_,Z0 htv,Yq (j:=0) rfl,sl 2,λtB D0=>?_⟩;refine up_in D0 _ λHB sB gB=>?_;refine⟨sl 4,λtC R8=>?_⟩;refine up_in R8 _ λHC sC gC=>?_;have R1:=(l.trans sB).trans sC;exact q _ (.thn (.tag (Ug ks x.1.2.2)) g.1 g.2) HC (U.trans R1.sb) (T.same R1) (by rw[Rb.dat_thn,Bd.dat_tag];exact Yn gC (Z2 Yu (Z2 (U0 (sC _ _ gB)) (Z2 Yu (Z3 (I6.mono R1)))))) ⟨.thn (WB _) gw.bo gw.l9,Kb gw.wr⟩
 refine⟨_,.str x.1.2.2,Z0 (O _ _ t),Yq (j:=2) rfl,p,sa,v,sv,x.1.2.2,_,ks,c,d,hd,kvP x.1.2.1,sb,T,bx8.hv,M.kS,M.nt,M.nd,ert,VC Z9 X _ (Dat.ni_of (Bd.st _)) J1,F7 _,λu2 b2 H9 S R5 hu2 G3=>?_⟩;have N:=Z.tk (J.trans S);refine⟨2,rfl,_,.str rn,Z0 (N _ _ F3),a2,1,rfl,_,al,Z0 (N _ _ F3),a1,sl 4,λtA htA=>?_⟩;refine up_in htA _ λHA l gA=>?_;exact q _ (.thn b2 rn as) HA ((U.trans S).trans l.sb) (R5.same l) (by rw[Rb.dat_thn];exact Yn gA (Z2 Yu (Z2 (hu2.mono l) (Z2 Yu (Z3 ((Jd N _ (Xi (Y0 Bd.st as)) hal).mono l)))))) ⟨.thn G3.bo boas las,Kc G3.ne⟩
theorem QY(B:Blt Z)(F:Fun K "_law_bent_body" "_law_bent_body" EU f G)(R:Df P w K Z base L "_law_next" pnm (JY K))(DW:Df P w K Z base L "_law_small_word" ["_law_pen","_law_taken"] (XT K))(N:Df P w K Z base L "_law_tags_of" ["_law_kinds_here","_law_kind"] J7)(D:Df P w K Z base L "_law_bad_choice" ["_law_pen","_law_kinds_here","_law_body_here","_law_strange"] (OO K))(O:Df P w K Z base L "_law_bad_going" ["_law_pen","_law_kinds_here","_law_rows_here","_law_own","_law_strange"] (ON K))(T:Df P w K Z base L "_law_bad_first" ["_law_pen","_law_kinds_here","_law_own","_law_strange"] (Io K))(M:Binds K G bbp [])(J:Z "_law_bent_body"=some (.ref f)):∀m:Nat,Yk P w K Z base CX0 (L+m) f G bbp (FA K m)
 |0=>.none λS H Q E h=>by
  obtain⟨p,C,v,X,g,U,i,u,c,d,l,j,t,k,x,n,b,z,o,I,r,e,y,A,q⟩:=h;exact Zp A (Zu _)
 |m+1=>Av B F (R.up (by omega)) (DW.up (by omega)) (N.up (by omega)) (D.up (by omega)) (O.up (by omega)) (T.up (by omega)) (QY B F R DW N D O T M J m) M J
end
end K4
namespace L2
open PySem
theorem LY{J:List Dd}(M:∀x∈J,UW L c 40 x.1):HK L (Y2 (J.map (·.1))):=λf O k e=>by
 obtain⟨G,Z,N⟩:=ZU.mp (G6 e);have:=(M G Z).own;rw[N]at this;exact this
theorem Pen.oth(h:Pen K sa H p)(e:H r=some o)(n:∀J,o≠.lst J):r≠p:=λz=>by
 obtain⟨G,k,x,M,Z,L⟩:=h.ex;rw[<-z,e]at Z;cases Z;exact n _ rfl
mutual
theorem W.ni:∀w:W,w.dat.ni=true
 |.non=>by unfold W.dat Dat.ni;rfl
 |.tag _=>by unfold W.dat Dat.ni;rfl
 |.pair a b=>by unfold W.dat Dat.ni;unfold Dat.nis;rw[W.ni a];unfold Dat.nis;rw[W.ni b];unfold Dat.nis;rfl
end
theorem BE.pn(b:BE H C X t D c d F)(s:SameB p H I)(M:Pen K sa H p):BE I C X t D c d F:=by
 have Z:∀{r:Addr}{o:HO},H r=some o->(∀O,o≠.lst O)->I r=some o:=λh n=>s _ _ (M.oth h n) h;obtain⟨A,U,rfl,L⟩:=b.bi;obtain⟨P,S,e,G,J⟩:=L.so;refine{b with bi:=⟨A,U,rfl,Z L.ins (λ_ z=>nomatch z),⟨P,S,e,⟨Z G.ins (λ_ z=>nomatch z),Z G.sh (λ_ z=>nomatch z),Z G.wo (λ_ z=>nomatch z),Z G.he (λ_ z=>nomatch z),Z G.pd (λ_ z=>nomatch z),Z G.tk (λ_ z=>nomatch z),Z G.pk (λ_ z=>nomatch z),G.nd⟩,?_⟩,Z L.td (λ_ z=>nomatch z),L.ke,Vd s M _ (Dat.nis_of (TH F)) L.va,L.nd⟩};refine⟨J.ke,λy T h=>let⟨v,R,N⟩:=J.sh y T h;⟨v,R,VC s M _ (Dat.ni_of (Shp.st T)) N⟩,λy h=>?_,J.he,J.pd,J.tk,J.pk,J.ln⟩;obtain⟨l,O,R,N,E⟩:=J.wo y h;have B:=PP W.ni (VB D 3 y);exact⟨l,O,R,s _ _ (M.lst N E B) N,Vd s M _ B E⟩
end L2
namespace K4
open PySem L2
section
variable{f g C CK:Addr}
inductive SBK(C CK:Addr)(H:Hp)(Q:VK):List V->Prop
 |mk (A:BA) (kv:List (Key×V)) (ks:List (Str×Shp)) (c d:Str->Nat) (ds:List Dd) (bd:BD H C CK A kv ks d ds) (kg:KG ks) (kk:KK 30 c d ks) (k6:ks.length<=6) (ho:∀x∈ds,UW (ks.map (·.1)) c 40 x.1) (dok:∀x∈ds,Sd ks (Y2 (ds.map (·.1))) (kvP x.1.2.1) x.1.2.2 5 x.2) (q:∀H',Same H H'->Q .non H'):SBK C CK H Q [.ref A.t]
def Qz(C CK:Addr):Sp:=λZ H Q _=>SBK C CK H Q Z
theorem SV(B:Blt S)(me:S "enumerate"=none)(TB:BCl K C)(F:Fun K "check_bodies" "Book.check_bodies" Mi f fd)(mH:Vn K C "names" g)(GH:Yk P w K S base CX0 n g gd ["self"] (WI C CK))(bH:Binds K gd ["self"] [])(DK:Df P w K S base n "kind_or_place" ["book","around","body"] (TU C CK 13)):Yk P w K S base CX0 (n+1) f fd ["self"] (Qz C CK):=by
 refine F.oi J8 λL1 A m s H vs Q E hr h=>?_;obtain⟨D,kv,ks,c,d,j,bd,kg,kk,k6,ho,J5,q⟩:=h;have hu:=Jl hr;refine⟨_,YY (Vo Zt rfl (U9 rfl me (pa1 (VU (pv 0) TB.cl mH GH hr bH .nil VI))) (VE (n:=2) rfl (Ye (YZ 1 J8.nd) (Ye (YZ 2 J8.nd) Y6)))
   (YW (JP (JM hu (Y8 (pv 0) rfl) (pv 2) (λ_ _=>rfl)) (VE (n:=3) rfl (Ye (YZ 3 J8.nd) (Ye (YZ 4 J8.nd) (Ye (YZ 5 J8.nd) Y6)))))
   (YW (JP (Yw DK hr (pa3 (pv 0) (VA (Ux rfl) rfl B.dict WA (pa1 (pv 3))) (pv 5))) (VE (n:=2) rfl (Ye (YZ 6 J8.nd) (Ye (YZ 7 J8.nd) Y6))))
   (YW (Y5 (Ys Tt (pv 6) V4 (Yy _)) (YY V8) Yv)
   (YY (Y5 (Ys XY (pv 6) (pv 4) (Yy _)) (YY V8) Yv)))))),?_⟩
 dsimp only[Vl,Cx.nox,Cx.wish];show let T0:=_;let T1:=VN _ T0 _;let T2:=_;let T3:=Yh (VN _ T2 _) T1;let T4:=Yh _ T3;let T5:=Yh _ T4;Jx _ _ T5 _ _ _
 intros
 show let a:=_;let b:=VN _ a _;let c:=_;let d:=Yh (VN _ c _) b;let e:=Yh _ d;let f:=Yh _ e;Jx _ _ f _ _ _
 intros
 refine⟨_,_,bd.ins,C5 _,D.t,ks,d,j,rfl,⟨D,kv,rfl,bd⟩,λnl H1 s1 G2 R=>?_⟩;refine⟨nl,false,_,rfl,Z1 R,?_⟩
 let I:kH:=λi U T=>Same H1 T/\∃(z1 z2 z3 z4 z5 z6 z7:kJ),U=[some (.ref D.t),z1,z2,z3,z4,z5,z6,z7]
 refine Xq (tp:=false) (xs:=j.map λx=>V.str x.1.1) I ⟨Z6 _,_,_,_,_,_,_,_,rfl⟩ (λi U T _ z=>Z1 (z.1 _ _ R)) ?_ ?_
 .rintro BB' RR i x U T r hx ⟨si,z1,z2,z3,z4,z5,z6,z7,rfl⟩ hr'
  rw[ZG]at hx
  cases hc:j[i]? with
  |none=>rw[hc]at hx;cases hx
  |some Z=>
   rw[hc]at hx;cases hx;have hm:=ZH hc;have o:=ho Z hm;have p:=J5 Z hm;refine up_in hr' _ λHR sR gR=>?_;have M:=bd.mono ((s1.trans si).trans sR);obtain⟨v,e1,e2⟩:=M.at hm;obtain⟨ta,u,wv,rfl,J1,O,Z9⟩:=RB e2;refine⟨_,Z0 gR,rfl,?_⟩;refine⟨C,_,_,_,M.ins,TB.cl,TB.td,Fj _,_,e1,?_⟩;refine⟨_,Z0 J1,rfl,?_⟩;unfold psD at O;obtain⟨l,xp,rfl,hl,N⟩:=Yz O;obtain⟨tp,rfl,G⟩:=B3 (K:=K) N;replace G:E3 K HR tp (kvP Z.1.2.1):=G;have G1:(kvP Z.1.2.1).length=Z.1.2.1.length:=ZA _;have J:=o.nd
   have Z8:((kvP Z.1.2.1).map (·.1)).Nodup:=by
    unfold kvP;rw[za];unfold List.Nodup at J |-;rw[yz]at J |-;exact J.imp λJ2 q=>J2 (Sum.inr.inj q)
   refine⟨l,tp,_,rfl,hl,G,Z8,λaA J4=>?_⟩;refine up_in J4 _ λH3 t g3=>?_;have l3:=o.len;have G3:=p.dep;refine⟨D.t,aA,wv,ks,c,d,j,kvP Z.1.2.1,Z.2,rfl,⟨D,kv,rfl,M.mono t⟩,kk,λf ps k e=>?_,λq' hq=>?_,λy L=>(ho y L).len,.inl g3,by omega,Z9.mono t,p.ok,by omega,by omega,λr4 p4 H4 s4 X _=>?_⟩
   .obtain ⟨y,L,e'⟩:=ZU.mp (G6 e)
    have:=(ho y L).own;rw[e']at this;exact this
   .obtain ⟨pr,hpr,rfl⟩:=ZU.mp hq
    exact⟨pr.1,pr.2,rfl,o.kin pr hpr⟩
   rw[EB kg (λz ts e=>(kk.at e).1) p]at X;replace X:H4 r4=some (.tup [.str Z.1.2.2,p4]):=X;refine⟨_,Z0 X,rfl,?_⟩;refine⟨rfl,_,rfl,Y9 (by simp) ?_⟩;refine⟨rfl,_,rfl,Y9 (by simp) ?_⟩;exact⟨((si.trans sR).trans t).trans s4,_,_,_,_,_,_,_,rfl⟩
 .rintro U T ⟨si,_⟩
  exact q T (s1.trans si)
inductive SBN(C CK:Addr)(H:Hp)(Q:VK):List V->Prop
 |mk (x dx kl dl:Addr) (xs zs:List V) (ks:List (Str×Shp)) (c d:Str->Nat) (ds:List Dd) (hx:H x=some (.ins C dx [])) (hkl:H kl=some (.lst xs)) (hxs:HasL H xs (ks.map Vq)) (kS:Xv ks c d) (hdl:H dl=some (.lst zs)) (hzs:HasL H zs (ds.map N5)) (d0:0<ds.length) (d8:ds.length<=8) (wd:Wds 97 (ds.map λx=>x.1.1)) (ho:∀x∈ds,UW (ks.map (·.1)) c 40 x.1) (dok:∀x∈ds,Sd ks (Y2 (ds.map (·.1))) (kvP x.1.2.1) x.1.2.2 5 x.2)
  (q:∀H',(∀b o,b≠x->H b=some o->H' b=some o)->BE H' C CK x ks c d ds->Q .non H'):SBN C CK H Q [.ref x,.ref kl,.ref dl]
def Qy(C CK:Addr):Sp:=λZ H Q _=>SBN C CK H Q Z
theorem SU(hm:m+1<=n)(L:BCl K C)(F:Fun K "__init__" "Book.__init__" Bx f fd)(R6:Mk K CK gi)(mC:a "Kinds"=some (.ref CK))(GI:Yk P w K a base CX0 m gi J1 ["self","told"] (BU CK))(bI:Binds K J1 ["self","told"] [])(m1:Vn K C "take_heads" g1)(G1:Yk P w K a base CX0 n g1 d1 ["self","definitions"] (Im C CK))(b1:Binds K d1 ["self","definitions"] [])(m2:Vn K C "check_bodies" g2)(G2:Yk P w K a base CX0 n g2 d2 ["self"] (Qz C CK))(b2:Binds K d2 ["self"] []):
  Yk P w K a base CX0 (n+1) f fd ["self","kinds","definitions"] (Qy C CK):=by
 refine F.oi Ob λT5 A Z8 s H vs Q E hr h=>?_;obtain⟨x,J,kl,dl,xs,zs,S,c,d,ds,hx,L1,J4,kS,N2,J2,d0,d8,wd,ho,R1,q⟩:=h;obtain⟨kk,nd,kg,k0,k6,_,_,_⟩:=id kS;have G3:Vk (m+1) _:=hr.mono hm;refine⟨_,YW (J0 (pv 0) (Gz R6 GI G3 rfl mC bI .nil VI (pa1 (pv 1))) rfl)
  (YW (J0 (pv 0) JQ rfl) (YW (J0 (pv 0) JQ rfl) (YW (J0 (pv 0) JQ rfl)
  (YW (VO (Vg (pv 0) L.cl m1 G1 hr b1 .nil VI (pa1 (pv 2))))
  (YY (VO (VU (pv 0) L.cl m2 G2 hr b2 .nil VI))))))),?_⟩
 dsimp only[Vl,Cx.nox,Cx.wish];show let T0:=_;let T1:=Yh _ T0;let T2:=Yh _ T1;let T3:=Yh _ T2;let T4:=Yh _ T3;Yh _ T4 _ _ _
 intros
 refine λt O ht M2 R8=>?_;have tx:upd (upd H O (.own t)) t (.ins CK O []) t=some (.ins CK O []):=Ya;have r:Same H (upd (upd H O (.own t)) t (.ins CK O [])):=λb o e=>by rw[Yd (Yf e ht),Yd (Yf e M2)];exact e
 generalize upd (upd H O (.own t)) t (.ins CK O [])=H7 at tx r |-;have R7:x≠t:=Yf hx ht;refine⟨t,O,kl,xs,S,c,d,rfl,tx,r _ _ L1,J4.mono r,kk,nd,kg,k0,k6,λZ f8 Z9=>⟨rfl,?_⟩⟩;have s8:Same H Z:=λb o e=>f8 b o (Yf e ht) (r b o e);have x8:=s8 _ _ hx;refine⟨x,C,J,_,rfl,x8,L.cl,L.so,by decide,?_⟩;have k:upd Z x (.ins C J (VY "sorts" (.ref t) [])) x=some (.ins C J (VY "sorts" (.ref t) [])):=Ya;have l:∀b o,b≠x->Z b=some o->upd Z x (.ins C J (VY "sorts" (.ref t) [])) b=some o:=λb o n e=>by rw[Yd n];exact e
 generalize upd Z x (.ins C J (VY "sorts" (.ref t) []))=H9 at k l |-;intro I T;refine⟨x,C,J,_,rfl,by rw[Yd (Yf k T)];exact k,L.cl,L.td,(by show 1<1000;decide),?_⟩;obtain⟨v,a1,n1,r1⟩:=JU (f:="told") (o:=.dK []) k T;generalize upd (upd H9 I (.dK [])) x (.ins C J (VY "told" (.ref I) (VY "sorts" (.ref t) [])))=H1 at v a1 r1 |-;intro U N;refine⟨x,C,J,_,rfl,by rw[Yd (Yf v N)];exact v,L.cl,L.rd,(by show 2<1000;decide),?_⟩;obtain⟨u,a2,n2,r2⟩:=JU (f:="rows") (o:=.dK []) v N;generalize upd (upd H1 U (.dK [])) x (.ins C J (VY "rows" (.ref U) (VY "told" (.ref I) (VY "sorts" (.ref t) []))))=H2 at u a2 r2 |-;intro p3 X;refine⟨x,C,J,_,rfl,by rw[Yd (Yf u X)];exact u,L.cl,L.tn,(by show 3<1000;decide),?_⟩;obtain⟨x3,a3,n3,i⟩:=JU (f:="turns") (o:=.dK []) u X;generalize upd (upd H2 p3 (.dK [])) x (.ins C J (VY "turns" (.ref p3) (VY "rows" (.ref U) (VY "told" (.ref I) (VY "sorts" (.ref t) [])))))=H3 at x3 a3 i |-
 let R:BA:=⟨x,J,t,I,U,p3⟩
 have M:∀{b:Addr}{o:HO},WR Z x b=some o->b≠x/\Z b=some o:=λ{b o} h=>by
  unfold WR at h
  by_cases e:b=x
  .rw [Zn e]at h;cases h
  .rw [Zo e]at h;exact⟨e,h⟩
 have fr:∀b o,b≠x->Z b=some o->H3 b=some o:=λb o n e=>i b o n (r2 b o n (r1 b o n (l b o n e)));have sm:Same (WR Z x) H3:=λb o h=>fr b o (M h).1 (M h).2
 have free:∀p:Addr,(∀o,p≠x->Z p=some o->False)->WR Z x p=none:=λp h=>by
  cases e:WR Z x p with
  |none=>rfl
  |some o=>exact(h o (M e).1 (M e).2).elim
 have R5:=r2 _ _ n1 a1;have R4:=i _ _ n1 R5;have R3:=i _ _ n2 a2;have bb:BB (WR Z x) H3 C CK R S d:=⟨x3,sm,Z9.out x8,free I λo n e=>(by have:=l _ _ n e;rw[T]at this;cases this),free U λo n e=>(by have:=r1 _ _ n (l _ _ n e);rw[N]at this;cases this),Yf a1 N,Zq n1,Zq n2⟩;have bt:BT H3 R [] [] S []:=⟨R4,R3,rfl,Z4,(λy hy=>nomatch hy),ZF _⟩;have B:∀{b:Addr}{o:HO},H b=some o->o≠.ins C J []->WR Z x b=some o:=λ{b o} h n=>B8 (JR h hx n) (s8 _ _ h);have tl:TL H (WR Z x):=⟨λb xs h=>B h (by intro z;cases z),λb xs h=>B h (by intro z;cases z)⟩;refine⟨_,_,x3,C3 R,WR Z x,R,dl,zs,S,c,d,ds,rfl,bb,bt,kk,k6,B N2 (by intro z;cases z),HasL.tl tl _ J2,d0,d8,wd,ho,λH4 kv rv G D=>?_⟩;have j:BD H4 C CK R kv S d ds:=⟨G.ins,G.so.mono G.sm,D.td,D.ke,D.va,wd.nd⟩;refine⟨_,_,G.ins,C7 R,R,kv,S,c,d,ds,j,kg,kk,k6,ho,R1,λH5 s5=>?_⟩;exact q H5 (λb o n e=>s5 _ _ (G.sm _ _ (B8 n (s8 _ _ e)))) ⟨⟨R,kv,rfl,j.mono s5⟩,kk,LY ho,λx' J5=>(ho x' J5).len,k6⟩
end
end K4
namespace L2
open PySem
theorem Eh(L:DW m d)(G:DW m e)(J:DW m f):DW (1+m) (.tup [d,e,f]):=UR (λx Z=>by
 simp only[Zb,yp,or_false]at Z;rcases Z with rfl|rfl|rfl
 .exact L
 .exact G
 .exact J) (by show 3<=1000;decide)
theorem Eg(M:DW m d)(L:DW m e)(G:DW m f)(J:DW m g):DW (1+m) (.tup [d,e,f,g]):=UR (λx Z=>by
 simp only[Zb,yp,or_false]at Z;rcases Z with rfl|rfl|rfl|rfl
 .exact M
 .exact L
 .exact G
 .exact J) (by show 4<=1000;decide)
theorem Bo.dw(h:Bo b):DW 15 b.dat:=Bd.dw 4 b h.dep h.ok
theorem L4{Z:List Bd}(h:∀a∈Z,Bo a)(l:Z.length<=9):DW 16 (.tup (Z.map Bd.dat)):=UR (m:=15) (λd J=>by obtain⟨a,G,rfl⟩:=ZU.mp J;exact(h a G).dw) (by rw[ZA];omega)
theorem RO.dw:∀{n:Nat}{b:Rb},RO n b->DW (3*n+17) b.dat
 |n+1,.on r as,h=>by
  cases h with
  |on J Z=>rw[Rb.dat_on];exact(Eh ((Jf _).up (by decide)) ((Jf _).up (by decide)) (L4 J Z)).up (by omega)
 |n+1,.thn e r as,h=>by
  cases h with
  |thn G J Z=>rw[Rb.dat_thn];exact(Eg ((Jf _).up (by decide)) (G.dw.up (by decide)) ((Jf _).up (by decide)) (L4 J Z)).up (by omega)
 |n+1,.br e ts bs,h=>by
  cases h with
  |br G J Z T=>
   have M:(ts.zip bs).map (·.1)=ts:=vF (by omega);have N:(ts.zip bs).map (·.2)=bs:=vE (by omega);have B:(ts.zip bs).length=ts.length:=by rw[vN];omega
   have L:=W8 (e:=e) (zs:=ts.zip bs);rw[M,N]at L;rw[L];refine(Eh (m:=3*n+19) ((Jf _).up (by omega)) (G.dw.up (by omega)) ((UR (m:=1+(3*n+17)) (λd R=>?_) (by rw[ZA];omega)).up (by omega))).up (by omega);obtain⟨x,O,rfl⟩:=ZU.mp R;exact M7 ((Jf _).up (Za _)) (T _ (yt O).2).dw
theorem Od{Z:List Rw}(h:∀x∈Z,RO 3 x.2)(L:∀x∈Z,x.1.2.1.length<=3)(l:Z.length<=6):DW 28 (.lst (Z.map Vz)):=Lo (m:=27) (λd J=>by
 obtain⟨x,G,rfl⟩:=ZU.mp J;have M:=L x G;unfold Vz;refine Eg (m:=26) ((Jf _).up (by decide)) ?_ ((Jf _).up (by decide)) (h x G).dw;rw[Mr];refine(UR (m:=1) (λd J=>?_) (by rw[ZA];omega)).up (by decide);obtain⟨p,_,rfl⟩:=ZU.mp J;exact M7 (Jf _) (Jf _)) (by rw[ZA];omega)
theorem Fn(a:GG G N rs k)(b:GG G N rs j):k=j:=by
 obtain⟨x,M,R,J⟩:=a;obtain⟨y,L,O,Z⟩:=b;rcases jj k j with h|h|h
 .rw [O k x h M]at J;cases J
 .exact h
 .rw [R j y h L]at Z;cases Z
structure XR(K:W.Frag)(mg:Str->Option Value)(aW N a1 a2 a3 a4 a5 a6 a7 a8 a9 b1 b2:Addr):Prop where
 mW:mg "WantError"=some (.ref aW)
 mN:mg "NoRows"=some (.ref N)
 m1:mg "NoAsking"=some (.ref a1)
 m2:mg "NoBook"=some (.ref a2)
 m3:mg "NoCell"=some (.ref a3)
 m4:mg "NoKinds"=some (.ref a4)
 m5:mg "NoMore"=some (.ref a5)
 m6:mg "NoMost"=some (.ref a6)
 m7:mg "NoNote"=some (.ref a7)
 m8:mg "NoPart"=some (.ref a8)
 m9:mg "NoSheet"=some (.ref a9)
 n1:mg "NoWorth"=some (.ref b1)
 n2:mg "Torn"=some (.ref b2)
 mV:mg "ValueError"=none
 hand:Qe K aW
 exc:W.ExcC K N
 sub:W.subIn K (.ref N) (.ref aW)=some true
 u1:W.kitAny K (.ref N) ([a1,a2,a3,a4,a5,a6,a7,a8,a9].map Value.ref)=some false
 u2:W.kitAny K (.ref N) ([b1,b2].map Value.ref)=some false
 u3:W.kitOne K (.ref N) (.ref N)=some true
 u4:W.kitOne K (.ref N) (.type "ValueError")=some true
 hd:W.hasDictIn K N=true
 fn:W.findIn K (.ref N) "number"=some none
theorem WD.mono(c:WD H ea C Z)(s:Same H J):WD J ea C Z:=⟨s _ _ c.at_,λd z=>let⟨o,h⟩:=c.dict d z;⟨o,s _ _ h⟩⟩
end L2
namespace K4
open PySem L2
section
variable{C CK CW aW N a1 a2 a3 a4 a5 a6 a7 a8 a9 b1 b2:Addr}
theorem Q4:Yo ["_law_e","_law_others"] ["_law_e"] (Yc Tx):=Y3
inductive SKE(N:Addr)(H:Hp)(Q:VK):List V->Prop
 |mk (ea:Addr) (dx:Option Addr) (h:WD H ea N dx) (q:∀H',Same H H'->Q (.bl true) H'):SKE N H Q [.ref ea]
def Qx(N:Addr):Sp:=λZ H Q _=>SKE N H Q Z
theorem Ap(B:Blt U)(Z:XR K U aW N a1 a2 a3 a4 a5 a6 a7 a8 a9 b1 b2)(F:Fun K "_law_kinds_of" "_law_kinds_of" Tx f z):Yk P w K U base CX0 (n+1) f z ["_law_e"] (Qx N):=by
 refine F.oi Q4 λt A M s H k Q E p h=>?_;obtain⟨J,G,X,q⟩:=h;refine⟨_,YW (Ym 1 Q4.nd (Yr (r:=NW K) Xt rfl B.isi Uy (pa2 (pv 0) (Yx (VJ (UC rfl Z.m1) (VJ (UC rfl Z.m2) (VJ (UC rfl Z.m3) (VJ (UC rfl Z.m4) (VJ (UC rfl Z.m5) (VJ (UC rfl Z.m6) (VJ (UC rfl Z.m7) (VJ (UC rfl Z.m8) (VJ (UC rfl Z.m9) Vi)))))))))))))
  (YW (Ym 1 Q4.nd (Ab (pv 1) (To (Yr (r:=NW K) Xt rfl B.isi Uy (pa2 (pv 0) (Yx (pa2 (UC rfl Z.n1) (UC rfl Z.n2))))))))
  (YY (Yt (Tq (Yr (r:=NW K) Xt rfl B.isi Uy (pa2 (pv 0) (UC rfl Z.mN))) (Tq (Yr (r:=NW K) Xt rfl B.isi Uy (pa2 (pv 0) (EK (v:=.ty "ValueError") rfl Z.mV PyProof.Rows.Boot.«ValueError» rfl))) (To (SL (pv 1)))))))),?_⟩
 show let g:=_;let m:=Yh _ g;Yh _ m _ _ _
 intros
 refine⟨sl 9,λI R=>?_⟩;refine up_in R _ λd L y=>?_;refine⟨J,N,G,.ref I,false,rfl,X.mono L,Z.exc,.inl ⟨I,[a1,a2,a3,a4,a5,a6,a7,a8,a9],rfl,y,Z.u1⟩,?_⟩;refine⟨false,rfl,Y9 Zg ⟨sl 2,λD O=>?_⟩⟩;refine up_in O _ λc S j=>?_;have T:=(X.mono L).mono S;refine⟨J,N,G,.ref D,false,rfl,T,Z.exc,.inl ⟨D,[b1,b2],rfl,j,Z.u2⟩,?_⟩;refine⟨J,N,G,.ref N,true,rfl,T,Z.exc,.inr (.inl ⟨N,rfl,Z.u3⟩),⟨true,rfl,V1 rfl ?_⟩⟩;refine⟨J,N,G,.ty "ValueError",true,rfl,T,Z.exc,.inr (.inr ⟨"ValueError",rfl,Z.u4⟩),⟨true,rfl,V1 rfl ?_⟩⟩;exact⟨_,rfl,q _ (L.trans S)⟩
theorem Tb:Yo ["_law_book_here","_law_told","_law_found","_law_handed","e"] ["_law_book_here","_law_told"] (Yc Tw):=Y3
inductive SRf(C CK:Addr)(H:Hp)(Q:VK):List V->Prop
 |mk (bk la:Addr) (xs:List V) (rs:List Rw) (ks:List (Str×Shp)) (ns:List Str) (c d:Str->Nat) (ds:List Dd) (k:Nat) (be:BE H C CK bk ks c d ds) (hl:H la=some (.lst xs)) (hrs:HasL H xs (rs.map Vz)) (r1:1<=rs.length) (l6:rs.length<=6) (wd:Wds 97 (rs.map λx=>x.1.1)) (ho:∀x∈rs,UW ns c 24 x.1) (fk:FlK ks ns) (ro:∀x∈rs,RO 3 x.2) (to:tot c (rs.map (·.1))<=24)
  (fr:GG ks (Y2 (ds.map (·.1))) rs k) (q:∀H',Same H H'->Q (.int (k:Nat)) H'):SRf C CK H Q [.ref bk,.ref la]
def Qs(C CK:Addr):Sp:=λZ H Q _=>SRf C CK H Q Z
theorem Ah(hn:29<=n)(hm:m+1<=n)(B:Blt R)(Z:XR K R aW N a1 a2 a3 a4 a5 a6 a7 a8 a9 b1 b2)(F:Fun K "_law_refused" "_law_refused" Tw f fd)(Z9:Mk K CW gi)(mC:R "Rows"=some (.ref CW))(GI:Yk P w K R base (CX1 P w) m gi t ["self","book","told"] (Ii CW C CK N))(bI:Binds K t ["self","book","told"] [])(DK:Df P w K R base n "_law_kinds_of" ["_law_e"] (Qx N)):
  Yk P w K R base CX0 (n+1) f fd ["_law_book_here","_law_told"] (Qs C CK):=by
 refine F.oi Tb λJ2 A y s H vs Q E p h=>?_;obtain⟨bk,la,xs,j,ks,ns,c,d,ds,k,be,hl,L,r1,l6,wd,ho,fk,ro,to,fr,q⟩:=h;have T:Vk (28+1) _:=p.mono hn;have g:Vk (m+1) _:=p.mono hm;refine⟨_,YW (Ym 2 Tb.nd V4)
  (YW (Ym 3 Tb.nd (VA V3 rfl B.list Vw (pa1 (pv 1))))
  (YW (SC (i:=4) rfl rfl Tb.nd rfl rfl rfl Z.mW Z.hand (tb:=λEX=>QB (IY CW (Ii CW C CK N) [] EX (V6 (MH 0) (V6 (MH 3) TJ))))
    (λEX pn W hp=>YY (VO (Kl Z9 GI g rfl mC bI .nil hp (pa2 (pv 0) (pv 3)))))
    (λA'=>YY (Ym 2 Tb.nd (pv 4))))
  (YW (Y5 (PW.pt (UF (Ys Tt (pv 2) V4 (Yy _)) (UF (Ja (JZ (Yw DK p (pa1 (pv 2))))) (Jz (Ys (XW T) (pv 3) (pv 1) (Yy _)))))) (YY (Yt V4)) Yv)
  (YW (Y5 (PW.pt (UF (Ja (JZ (Mt rfl B.isi rfl B.int IH (Tn K rfl (pv 2) rfl)))) (Jz (JZ (Mt rfl B.isi rfl B.bool Ds (Tn K rfl (pv 2) rfl)))))) (YY (Yt V4)) Yv)
  (YY (Yt (Tn K rfl (pv 2) rfl))))))),?_⟩
 dsimp only[Vl,Cx.nox,Cx.wish];show let T0:=_;let T1:=_;let T2:=Yh (VN _ T1 _) T0;let T3:=_;let T4:=Yh (VN _ T3 _) T2;let T5:=Yh _ T4;let T6:=Yh _ T5;Yh _ T6 _ _ _
 intros
 refine⟨la,_,rfl,.inl (Z1 hl),λl1 u=>?_⟩;refine up_in u _ λH1 X g1=>?_;refine λx dx S r J1=>?_;have sX:Same H1 (upd (upd H1 dx (.own x)) x (.ins CW dx [])):=λb o e=>by rw[Yd (Yf e S),Yd (Yf e r)];exact e
 refine⟨H1,x,dx,bk,l1,xs,j,ks,ns,c,d,ds,Ya,sX,S,be.mono X,g1,L.mono X,r1,l6,wd,ho,fk,ro,to,λgood=>?_,λk' Z8 H2 e s2 he=>?_⟩
 .obtain ⟨x',hx',_,e'⟩:=fr
  rw[good x' (ZH hx')]at e';cases e'
 cases Fn fr Z8;refine⟨N,rfl,Z.sub,λe' z=>by cases z;exact⟨_,he⟩,λG v=>?_⟩;have D:=Yg v (Xf G N (some e));have l:upd H2 G (Xf G N (some e)) G=some (Xf G N (some e)):=Ya;have O:=D _ _ he;generalize upd H2 G (Xf G N (some e))=HE at D l O |-;have cE:WD HE G N (some e):=⟨l,λd z=>by cases z;exact⟨_,O⟩⟩;refine⟨rfl,_,rfl,Y9 (by simp) ?_⟩;refine⟨G,some e,cE,λH3 I=>?_⟩;have J:=((X.trans s2).trans D).trans I;have U:=(s2.trans D).trans I;refine⟨_,rfl,Y9 (by decide) ?_⟩;refine⟨.lst (j.map Vz),.lst (j.map Vz),VQ (U _ _ g1) (L.mono J),VQ (J _ _ hl) (L.mono J),(Od ro (λx S=>(ho x S).len) l6).1,_,rfl,Y9 (by rw[Dat.pq_self];decide) ?_⟩;have a:=I _ _ l;have M:=I _ _ O;refine⟨N,e,_,.int (k:Nat),a,M,Z.exc,Z.hd,Z.fn,rfl,?_⟩;refine⟨_,_,_,_,rfl,WC.int _,Tz K "int",_,rfl,Y9 (by decide) ?_⟩;refine⟨N,e,_,.int (k:Nat),a,M,Z.exc,Z.hd,Z.fn,rfl,?_⟩;refine⟨_,_,_,_,rfl,WC.int _,Sj (by decide),_,rfl,Y9 (by decide) ?_⟩;exact⟨N,e,_,.int (k:Nat),a,M,Z.exc,Z.hd,Z.fn,rfl,q _ J⟩
end
end K4
namespace L2
open PySem PySem.Spec PyProof.Rows
section
variable{X:Cx}
theorem RZ:∀{G:kz}{J:kj},Vals (G.map V.int) J->∃Z:List (Int×Tok),J.toArray=intItems Z.toArray/\Z.map (·.1)=G
 |[],J,r=>by
  cases r;exact⟨[],by simp[intItems],rfl⟩
 |n::G,J,r=>by
  cases r with
  |cons N M=>
   obtain⟨t,rfl⟩:=N;obtain⟨Z,e,rfl⟩:=RZ M;refine⟨(n,t)::Z,?_,rfl⟩;have L:=congrArg Array.toList e;unfold intItems at L |-;apply Array.ext';simp at L |-;exact L
theorem Fw(t:X.calm=true):UG X (.builtin "min") (λM H Q=>∃(p:Addr)(J:kz),M=[.ref p]/\SqL X.K H p (J.map V.int)/\0<J.length/\∀m∈J,(∀i∈J,m<=i)->Q (.int m) H):=by
 intro O s U H M c Q I r h;obtain⟨p,J,rfl,P,T,q⟩:=h;obtain⟨u,rfl,D⟩:=vals1 r;cases D;obtain⟨S,E,N,w⟩:=I.list P;obtain⟨Z,e,rfl⟩:=RZ E;rw[ZA]at T;rw[e]at N;refine min_intList (I.ok.hd t) N.isList (by simpa using T) λv l d G k=>?_;obtain⟨F,B⟩:=argBest_lt (numAt Z.toArray) (Z.toArray.size-1);generalize argBest (λi j=>decide (numAt Z.toArray i<numAt Z.toArray j)) (Z.toArray.size-1)=k0 at G F B;have f:Z.toArray.size=Z.length:=by simp
 have L:k0<Z.length:=by omega
 have R:∀i (h:i<Z.length),numAt Z.toArray i=(Z[i]).1:=λi h=>by
  unfold numAt;simp[h]
 have g:v=.int (Z[k0]).1 (Z[k0]).2:=by
  unfold intItems at G;simp[L]at G;exact G.symm
 subst g;refine⟨.int (Z[k0]).1,H,I.kept k,⟨_,rfl⟩,q _ (ZU.mpr ⟨_,yV L,rfl⟩) λi z=>?_⟩;obtain⟨y,C,rfl⟩:=ZU.mp z;obtain⟨j,A,rfl⟩:=List.getElem_of_mem C;have:=B j (by omega);rw[R _ L,R _ A]at this;exact this
end
section
variable{X:Cx}{es:kP}{t:TA}{pos:Pos}
def AO(K:W.Frag)(t:TA):TE:=λU H Q=>t U H λZ J=>Z.length<=sizeLine/\∀p,J p=none->K.lookup p=none->Q (.ref p) (upd J p (.lst Z))
theorem Oq(h:PA X es t):PE X (.List es pos) (AO X.K t):=by
 intro J s U H Q I O;refine wpAny_List_spliced (thn (h pos J s U H _ I O) λN Z ⟨M,L,G,r,z,q⟩=>⟨by rw[<-r.length];exact z,?_⟩);have T:L Z.heap.objs.size=none:=G.hok.fresh (ZF _)
 have R:X.K.lookup Z.heap.objs.size=none:=by
  cases e:X.K.lookup Z.heap.objs.size with
  |none=>rfl
  |some o=>exact Zp (ZN (G.kIn _ o e)) (zJ _)
 refine⟨.ref Z.heap.objs.size,upd L Z.heap.objs.size (.lst M),G.laid (t':=Z.toks) (λb u e=>ZD _ e) (ZF _) ?_,rfl,q _ T R⟩;exact⟨z,N,0,r,ZW _ rfl⟩
end
theorem Pen.new{K:W.Frag}{J:kz}(G:SqL K H a (J.map V.int))(Z:H p=none)(L:K.lookup p=none):Pen K a (upd H p (.lst [.ref a,.int (0:Nat),.int (0:Nat)])) p:=by
 have n:a≠p:=by
  rintro rfl;rcases G with(h|⟨o,h⟩)|⟨o,its,n,h,_⟩
  .rw [Z]at h;cases h
  .rw [Z]at h;cases h
  .rw [L]at h;cases h
 exact⟨J,0,0,(Yg Z _).seq G,Ya,n⟩
theorem QJ{P:Program}{w:World}{X:Cx}:UV (CX1 P w) X (λ_ _ _=>False):=λ_ _ _ _ _ _ _ h=>by
 obtain⟨_,_,_,_,_,_,_,_,_,_,z⟩:=h;exact z.elim
end L2
namespace L2
open PySem
theorem HasL.set:∀{J:kK}{Z:kF}{i:Nat},HasL H Z J->Has H v d->HasL H (Z.set i v) (J.set i d)
 |[],Z,i,h,hv=>by obtain rfl:=VD h;exact Z4
 |e::J,Z,0,h,hv=>by obtain⟨x,r,rfl,L,G⟩:=Yb h;exact Z2 hv G
 |e::J,Z,i+1,h,hv=>by obtain⟨x,r,rfl,L,G⟩:=Yb h;exact Z2 L (HasL.set G hv)
theorem UW.sub(h:UW Z c t x)(s:∀y∈Z,y∈J):UW J c t x:=⟨h.len,λp m=>s _ (h.kin p m),s _ h.own,h.nd,h.spl,h.rows⟩
theorem SY{Z:kq}(J:Wds 97 Z):("NoDef":Str)∉Z:=λm=>by
 have:=J.abc _ m 78 (by decide +kernel);omega
theorem NP:∀{as:List Bd},(∀a∈as,∃t,a=Bd.tag t)->Bd.oks as/\Bd.deps as=0/\Bd.nls as
 |[],_=>⟨by unfold Bd.oks;trivial,by unfold Bd.deps;rfl,by unfold Bd.nls;trivial⟩
 |a::as,h=>by
  obtain⟨t,rfl⟩:=h a ZY;obtain⟨G,J,Z⟩:=NP λa m=>h a (ZK _ m);have o:=WB t;refine⟨?_,?_,?_⟩
  .unfold Bd.oks;exact⟨o.ok,G⟩
  .unfold Bd.deps;rw[J];unfold Bd.dep;rfl
  .unfold Bd.nls;exact⟨o.nl,Z⟩
theorem P1(f:Str)(l:Z.length<=3):Bo (.ask f (Vp J Z)):=by
 obtain⟨L,O,G⟩:=NP (as:=Vp J Z) λa m=>by
  unfold Vp at m;obtain⟨M,_,rfl⟩:=ZU.mp m;exact⟨_,rfl⟩
 have N:(Vp J Z).length=Z.length:=by unfold Vp;rw[ZA]
 refine⟨?_,?_,?_⟩
 .unfold Bd.ok;exact⟨by omega,L⟩
 .unfold Bd.dep;omega
 .unfold Bd.nl;exact G
theorem Bd.dat_ask(f:Str)(Z:List Bd):(Bd.ask f Z).dat=.tup [.str "ask",.str f,.tup (Z.map Bd.dat)]:=by(conv=>lhs;unfold Bd.dat);rw[Z7]
structure BtR(ks:List (Str×Shp))(hd:Hds)(rs rs':List Rw)(ps:List Nat):Prop where
 ln:rs'.length=rs.length
 at_:∀i x',rs'[i]?=some x'->∃x,rs[i]?=some x/\x'.1=x.1/\RO 3 x'.2/\(i∈ps->rG ks hd rs x'=false)/\(i∉ps->x'=x)
 pl:∀i∈ps,i<rs.length
theorem BtR.none{Z:List Rw}(h:∀x∈Z,RO 3 x.2):BtR J G Z Z []:=⟨rfl,λi x e=>⟨x,e,rfl,h x (ZH e),(λm=>nomatch m),λ_=>rfl⟩,λi m=>nomatch m⟩
theorem BtR.put(h:BtR Z L rs rs' O)(G:rs[i]?=some x)(w:Wrg (kdn Z L 13 (kvP x.1.2.1)) Z (Y2 (rs.map (·.1))) x.1.2.2 3 b):BtR Z L rs (rs'.set i (x.1,b)) (O++[i]):=by
 have J:=(ZE.mp G).1;refine⟨by rw[vK];exact h.ln,λj N e=>?_,λj m=>?_⟩
 .by_cases q:i=j
  .subst q
   rw[vG (by rw[h.ln];exact J)]at e;cases e;exact⟨x,G,rfl,w.ro,λ_=>w.wr,λm=>Zp (ZV.mpr (.inr ZY)) m⟩
  .rw [yB q]at e
   obtain⟨M,E,D,B,T,R⟩:=h.at_ j N e;refine⟨M,E,D,B,λm=>T ?_,λm=>R λz=>m (ZV.mpr (.inl z))⟩;rcases ZV.mp m with m|m
   .exact m
   .exact Zp (ZO.mp m).symm q
 .rcases ZV.mp m with m|m
  .exact h.pl j m
  .rw [ZO.mp m];exact J
theorem BtR.hds(h:BtR M N rs rs' L):rs'.map (·.1)=rs.map (·.1):=by
 apply yx;intro i;rw[ZG,ZG]
 cases e:rs'[i]? with
 |none=>
  have:rs[i]?=Option.none:=by rw[zo]at e |-;rw[<-h.ln];exact e
  rw[this]
 |some Z=>
  obtain⟨x,G,J,_⟩:=h.at_ i Z e;rw[G];show some Z.1=some x.1;rw[J]
theorem BtR.mem(h:BtR N O rs rs' M)(m:Z∈rs'):RO 3 Z.2/\∃x∈rs,Z.1=x.1:=by
 obtain⟨i,e⟩:=zh.mp m;obtain⟨x,L,G,J,_⟩:=h.at_ i Z e;exact⟨J,x,ZH L,G⟩
theorem BtR.rG(h:BtR Z J rs rs' G)(x:Rw):rG Z J rs' x=rG Z J rs x:=by unfold L2.rG;rw[h.hds]
theorem BtR.first(h:BtR J L rs rs' Z)(good:∀x∈rs,L2.rG J L rs x=true)(m:k∈Z)(least:∀i∈Z,k<=i):GG J L rs' k:=by
 have G:=h.pl k m;rw[<-h.ln]at G;have e:rs'[k]?=some rs'[k]:=ZC G;obtain⟨x,U,S,I,T,A⟩:=h.at_ k _ e;refine⟨_,e,λi y B N=>?_,by rw[h.rG];exact T m⟩;obtain⟨M,R,F,E,D,O⟩:=h.at_ i y N;rw[h.rG,O λz=>by have:=least i z;omega];exact good M (ZH R)
structure LW(H:Hp)(C CK bk:Addr)(v rv lv dv:V)(ks:List (Str×Shp))(c d:Str->Nat)(ds:List Dd)(rs:List Rw)(ls:List Bd):Prop where
 be:BE H C CK bk ks c d ds
 bx:BX H v rv lv ks c d (Y2 (ds.map (·.1))) rs ((flat ks).map (·.1)) ls
 du:Has H dv (.lst ((rs.map λx=>x.1.1).map Dat.str))
 r1:1<=rs.length
 to:tot c (rs.map (·.1))<=24
 rk:∀x∈rs,RK ks (Y2 (ds.map (·.1))) (Y2 (rs.map (·.1))) (kvP x.1.2.1) x.1.2.2 2 x.2
theorem LW.pn(b:LW H C O bk v J lv dv L c d M rs G)(s:SameB p H N)(Z:Pen K sa H p):LW N C O bk v J lv dv L c d M rs G:={b with be:=b.be.pn s Z,bx:=b.bx.pn s Z,du:=VC s Z _ (Jc (TN _)) b.du}
theorem LW.good(b:LW H C M bk v G lv dv Z c d J rs L):∀x∈rs,rG Z (Y2 (J.map (·.1))) rs x=true:=λx m=>(b.rk x m).good b.bx.kS.kg b.bx.nt
theorem LW.ro(b:LW H C M bk v Z lv dv G c d L rs J):∀x∈rs,RO 3 x.2:=λx m=>(b.rk x m).ro
end L2
namespace K4
open PySem L2
section
variable{C CK CW N:Addr}
inductive CP(K:W.Frag)(H:Hp)(Q:VK):List V->Prop
 |mk (a:Addr) (ns:List Int) (hS:SqL K H a (ns.map V.int)) (q:∀H',Q (.bl true) H'):CP K H Q [.ref a]
def D8(K:W.Frag):Sp:=λZ H Q _=>CP K H Q Z
theorem UE:Yo ["script","_law_pen","_law_kinds_here","_law_flat_here","_law_world_here","_law_book_here","_law_told","_law_due","_law_taken","_law_lone","_law_k","_law_bent","_law_places","_law_turn","_law_at","_law_row"] ["script"] (Yc DY):=Y3
theorem PU:List.Nodup [("_law_row":Str)]:=by decide +kernel
theorem LH:List.Nodup [("_law_head":Str)]:=by decide +kernel
theorem SZ:List.Nodup [("_law_row":Str),"_law_kinds_here","_law_taken"]:=by decide +kernel
theorem NQ(Z:kq):(Dat.lst (Z.map Dat.str)).dep<=1:=by unfold Dat.dep;rw[Wd];decide
theorem Ss{n j:Nat}(h:j<n):ixN n (j:Int)=some j:=by
 unfold ixN;rw[Zn (by omega),Zn (by omega)]
 rfl
theorem Nm:∀{ps:List Nat},0<ps.length->∃k∈ps,∀i∈ps,k<=i
 |[k],_=>⟨k,ZY,λi m=>by rw[ZO.mp m];exact ZF _⟩
 |k::j::ps,_=>by
  obtain⟨m,G,J⟩:=Nm (ps:=j::ps) (Nat.succ_pos _)
  by_cases c:k<=m
  .refine ⟨k,ZY,λi Z=>?_⟩
   rcases Zb.mp Z with rfl|Z
   .exact ZF _
   .exact ZZ c (J i Z)
  .refine ⟨m,ZK _ G,λi Z=>?_⟩
   rcases Zb.mp Z with rfl|Z
   .omega
   .exact J i Z
theorem Ka{Z:List Rw}:(Z.set i x).map Vz=(Z.map Vz).set i (Vz x):=List.map_set
theorem ST(hn:2<=n)(hb:mB+1<=n)(hw:mW+1<=n)(B:Blt mg)(nm:mg "min"=none)(T:RCl K CW)(F:Fun K "law" "law" DY f fd)(DN:Df P w K mg base n "_law_next" pnm (JY K))(DKD:Df P w K mg base n "_law_kinds_drawn" ["_law_pen"] (TR K))(DL:Df P w K mg base n "_law_flat_kinds" ["_law_kinds_here"] Xy)(DH:Df P w K mg base n "_law_heads_drawn" ["_law_pen","_law_flat_here"] (TX K))(DD:Df P w K mg base n "_law_defined_drawn" ["_law_pen","_law_world_here"] (BW K))(DR:Df P w K mg base n "_law_rows_drawn" ["_law_pen","_law_world_here"] (ML K))(DP:Df P w K mg base n "_law_plain_given" ["_law_kinds_here","_law_row"] WH)(DB:Df P w K mg base n "_law_bent_body" bbp (FA K 3))(DF:Df P w K mg base n "_law_refused" ["_law_book_here","_law_told"] (Qs C CK))(MkB:Mk K C gB)(mB':mg "Book"=some (.ref C))(GB:Yk P w K mg base CX0 mB gB dB ["self","kinds","definitions"] (Qy C CK))(bB:Binds K dB ["self","kinds","definitions"] [])(MkW:Mk K CW gW)(mW':mg "Rows"=some (.ref CW))(GW:Yk P w K mg base (CX1 P w) mW gW dW ["self","book","told"] (Ii CW C CK N))(bW:Binds K dW ["self","book","told"] [])(mH:Vn K CW "names" gN)(GH:Yk P w K mg base CX0 n gN dN ["self"] (Ih CW))(bH:Binds K dN ["self"] []):Yk P w K mg base CX0 (n+1) f fd ["script"] (D8 K):=by
 refine F.oi UE λcdv A outer s H vs Q E hr h=>?_;obtain⟨a,ns,hS,q⟩:=h;have hr2:Vk (1+1) _:=hr.mono hn;have hrB:Vk (mB+1) _:=hr.mono hb;have hrW:Vk (mW+1) _:=hr.mono hw;refine⟨_,YW (Ym 1 UE.nd (Oq (pa3 (pv 0) YX YX)))
  (YW (Ym 2 UE.nd (Yw DKD hr (pa1 (pv 1))) (hx:=Or.inr rfl))
  (YW (Ym 3 UE.nd (Yw DL hr (pa1 (pv 2))))
  (YW (Ym 4 UE.nd (Yx (pa2 (pv 3) (Yw DH hr (pa2 (pv 1) (pv 3))))))
  (YW (Ym 5 UE.nd (Gz MkB GB hrB rfl mB' bB .nil VI (pa2 (pv 2) (Yw DD hr (pa2 (pv 1) (pv 4))))))
  (YW (Ym 6 UE.nd (Yw DR hr (pa2 (pv 1) (pv 4))))
  (YW (Mp (i0:=7) ["_law_row"] [] UE.nd rfl (Or.inl rfl) (VF (pv 6)) (VR (i:=0) (by decide)) (λcl C fp s H=>YZ 0 PU rfl (Or.inl rfl) (Or.inr rfl)) (λcl C fp s H=>Yi (r:=J9 K) Yl (pv 0) YX))
  (YW (Ym 8 UE.nd (Vh ["_law_head"] [] (VF (Yi Yl (pv 4) YX)) (VR (i:=0) (by decide)) (λcl C fp s H=>YZ 0 LH rfl (Or.inl rfl) (Or.inr rfl)) (λcl C fp s H=>Yi (r:=J9 K) Yl (pv 0) YX)) (hx:=Or.inr rfl))
  (YW (Xk (i0:=9) ["_law_row"] [2,8] UE.nd rfl (Or.inl rfl) (VF (pv 6)) (VR (i:=0) (by decide)) (λcl C fp s H=>YZ 0 SZ rfl (Or.inl rfl) (Or.inr rfl)) (λcl C fp s H=>Ys (r:=rIn K true) Jr (Yi (r:=J9 K) Yl (pv 0) YX) (pv 2) rfl)
   (λcl C fp s H=>Yx (pa3 Y7 (Yi (r:=J9 K) Yl (pv 0) YX) (Yw DP hr (pa2 (pv 1) (pv 0))))))
  (YW (Y5 (Ys (XW hr2) (VU (Gz MkW GW hrW rfl mW' bW .nil QJ (pa2 (pv 5) (VA V3 rfl B.list Vw (pa1 (pv 6))))) T.cl mH GH hr bH .nil VI) (pv 7) (Yy _)) (YY (Yt GU)) Yv)
  (YW (Vo Zt rfl (Uo rfl B.range (pa1 YX)) (YZ 10 UE.nd)
   (YW (Ym 11 UE.nd (VA V3 rfl B.list Vw (pa1 (pv 6))))
   (YW (Ym 12 UE.nd (Vs Vi))
   (YW (Vo Zt rfl (Uo rfl B.range (pa1 (Y1 Vf YX (Yw DN hr (pa2 (pv 1) YX))))) (YZ 13 UE.nd)
    (YW (Ym 14 UE.nd (Yw DN hr (pa2 (pv 1) (Yr Yj rfl B.len Zs (pa1 (pv 6))))))
    (YW (Ym 15 UE.nd (Yi Y4 (pv 6) (pv 14)))
    (YW (JP (Y1 Jh (VM JV (pv 15) Vb (Va YX)) (Yx (pa1 (Yw DB hr (pa6 (pv 1) (pv 2) (pv 6) (pv 9) (pv 15) (Yi Yl (pv 15) YX)))))) (Ms (pv 11) (pv 14) set_list))
    (YY (VO (Jk Zx Zy Zz Vj (pv 12) (pa1 (pv 14)))))))))
   (YY (Y5 (Ys XY (Yw DF hr (pa2 (pv 5) (pv 11))) (Yr (Fw rfl) rfl nm F0 (pa1 (pv 12))) (Yy _)) (YY (Yt GU)) Yv))))))
  (YY (Yt (XA (Ks hr2) (VU (Gz MkW GW hrW rfl mW' bW .nil QJ (pa2 (pv 5) (VA V3 rfl B.list Vw (pa1 (pv 6))))) T.cl mH GH hr bH .nil VI) (pv 7) (Yy _)))))))))))))),?_⟩
 dsimp only[Vl,Cx.nox,Cx.wish];show let T0:=_;let T1:=_;let T2:=VN _ T1 _;let T3:=_;let T4:=Yh _ T3;let T5:=Yh _ T4;let T6:=Yh _ T5;let T7:=Yh (Jx _ _ T6) T2;let T8:=Yh _ T7;let T9:=Yh _ T8;let T10:=Yh (Jx _ _ T9) T0;let T11:=_;let T12:=Yh (VN _ T11 _) T10;let T13:=Yh _ T12;let T14:=Yh _ T13;let T15:=Yh _ T14;let T16:=Yh _ T15;let T17:=Yh _ T16;let T18:=Yh _ T17;let T19:=Yh _ T18;let T20:=Yh _ T19;Yh _ T20 _ _ _
 intros
 refine⟨sl 3,λp hp hk=>?_⟩;have pn0:=Pen.new hS hp hk;generalize upd H p (.lst [.ref a,.int (0:Nat),.int (0:Nat)])=H1 at pn0 |-;refine⟨p,a,pn0,λkl xk Z c d H2 sb2 pn2 fkl hkl C2 kS=>?_⟩;have k6:=kS.k6;refine⟨.ref kl,Z,VQ hkl C2,by omega,λfa xf H3 ffa s3 hfa hxf=>?_⟩;have pn3:=pn2.same s3;refine⟨p,a,.ref fa,flat Z,c,pn3,VQ hfa hxf,kS.fl,λhl xh hs H4 sb4 pn4 fhl hhl hxh h0 h5 R4 hoh=>?_⟩;refine⟨sl 2,λwa hwa=>?_⟩;refine up_in hwa _ λH5 s5 g5=>?_;have F4:=sb4.trans s5.sb;have pn5:=pn4.same s5;have I0:=VC F4 pn3 _ (Jc (Y0 Vc _)) (VQ hfa hxf);have I3:Wld H5 (.ref wa) Z (flat Z) hs c:=⟨Yn g5 (Z2 I0 (Z3 (VQ (s5 _ _ hhl) (hxh.mono s5)))),kS.fl,λy s m=>UH kS.nd (ze.mp m).1,R4.nd,by omega,hoh⟩;refine⟨p,a,.ref wa,Z,flat Z,hs,c,pn5,I3,λdl zd ds H6 sb6 pn6 fdl hdl hzd eds sds=>?_⟩;subst eds;have hk6:=VC (s3.sb.trans (F4.trans sb6)) pn2 _ (Jc (Y0 Vc _)) (VQ hkl C2);obtain⟨_,xk6,e6,F9,F6⟩:=V2 hk6;cases e6;refine λbt dt ht hdt ndt=>?_;have tx:upd (upd H6 dt (.own bt)) bt (.ins C dt []) bt=some (.ins C dt []):=Ya;have s7:Same H6 (upd (upd H6 dt (.own bt)) bt (.ins C dt [])):=λb o e=>by rw[Yd (Yf e ht),Yd (Yf e hdt)];exact e
 generalize upd (upd H6 dt (.own bt)) bt (.ins C dt [])=H7 at tx s7 |-
 have sub:∀y∈(flat Z).map (·.1),y∈Z.map (·.1):=λy m=>by
  obtain⟨k,hk,rfl⟩:=ZU.mp m;exact ZU.mpr ⟨k,(ze.mp hk).1,rfl⟩
 rw[ZA]at h0 h5;have wdd:Wds 97 (ds.map λx=>x.1.1):=by rw[za]at R4;exact R4
 refine⟨bt,dt,kl,dl,xk6,zd,Z,c,d,ds,tx,s7 _ _ F9,F6.mono s7,kS,s7 _ _ hdl,hzd.mono s7,h0,by omega,wdd,λx m=>(hoh _ (ZU.mpr ⟨x,m,rfl⟩)).sub sub,sds,λH8 f8 be8=>⟨rfl,?_⟩⟩;have I7:Same H6 H8:=λb o e=>f8 b o (Yf e ht) (s7 b o e);have R6:=pn6.same I7;have I2:=(I3.pn sb6 pn5).sm I7;refine⟨p,a,.ref wa,Z,flat Z,_,c,R6,I2,λla xr L H9 I6 pn9 fla G2 G1 g=>?_⟩;have l6:=g.l6;have lxr:=G1.length;rw[ZA]at lxr;have r1:1<=L.length:=ZZ kS.f0 g.f;refine⟨⟨_,Z1 G2⟩,?_⟩;refine US (us:=L) (D:=Vz) (E:=λx=>.str x.1.1) (itl (Z1 G2)) G1 (by omega) (λu x R hm hu rT=>?_) λvn du HA fdu sA hdu hvn=>?_
 .obtain ⟨t',u',xs',w',rfl,ht,_⟩:=JT hu
  exact⟨_,_,Z0 ht,Yq (j:=0) rfl,rT _ Yu⟩
 obtain rfl:=X9 (ns:=L.map λx=>x.1.1) (by rw[za];exact hvn);have wlA:=(I2.pn I6 R6).sm sA;obtain⟨_,fa',ha',xf',xh',eA,hwA,_,_,hhA,hxA⟩:=wlA.at;cases eA;refine⟨_,.ref ha',Z0 hwA,Yq (j:=1) rfl,⟨_,Z1 hhA⟩,?_⟩;refine US (us:=ds.map (·.1)) (D:=hdT) (E:=λx=>.str x.1) (itl (Z1 hhA)) hxA (by rw[ZA];omega) (λu x R hm hu rT=>?_) λvt tk HB ftk sB htk hvt=>?_
 .obtain ⟨t',u',xs',rfl,ht,_⟩:=XG hu
  exact⟨_,_,Z0 ht,Yq (j:=0) rfl,rT _ Yu⟩
 obtain rfl:=X9 (ns:=(ds.map (·.1)).map (·.1)) (by rw[za];exact hvt);have R5:=sA.trans sB;have sb6B:SameB p H6 HB:=(I7.sb.trans I6).trans R5.sb;have hkB:Has HB (.ref kl) (.lst (Z.map Vq)):=VC sb6B pn6 _ (Jc (Y0 Vc _)) hk6;have R3:=R5 _ _ G2;have fkx:∀x∈L,FlK Z (x.1.2.1.map (·.2)):=λx xm y' m'=>by obtain⟨pr,hp,rfl⟩:=ZU.mp m';exact kS.flk _ ((g.ho x xm).kin pr hp)
 refine⟨⟨_,Z1 R3⟩,?_⟩;refine W6 (us:=L) (D:=Vz) (F:=λx=>(Bd.ask x.1.1 (Vp Z x.1.2.1)).dat) (λx=>decide (x.1.1∉(ds.map (·.1)).map (·.1))) (λH' s=>itl (Z1 (s _ _ R3))) (G1.mono R5) (by omega) (λu x Ha R hm sa' hx rT rF=>?_) λvl lo HC flo sC hlo hvl=>?_
 .obtain ⟨t',u',xs',w',rfl,ht,_⟩:=JT hx
  refine⟨_,_,Z0 ht,Yq (j:=0) rfl,tk,_,rfl,.inl (Z1 (sa' _ _ htk)),rfl,Jm _,_,rfl,?_⟩;rw[UA]
  by_cases m:u.1.1∈(ds.map (·.1)).map (·.1)
  .exact Y9 (by simpa using m) (rF (Zw λz=>z m))
  refine V1 (by simpa using m) ?_;refine⟨_,_,Z0 ht,Yq (j:=0) rfl,.ref kl,_,Z,u,hkB.mono sa',k6,hx,fkx u hm,(g.ho u hm).len,λgv Hb sb' hb=>⟨sl 3,λtn htn=>?_⟩⟩;refine up_in htn _ λHc sc gc=>?_;exact rT _ _ (decide_eq_true m) (sb'.trans sc) (by rw[Bd.dat_ask];exact Yn gc (Z2 Yu (Z2 Yu (Z3 (hb.mono sc)))))
 have J5:=R5.trans sC;have pnC:=pn9.same J5
 let ls:List Bd:=(L.filter λx=>decide (x.1.1∉(ds.map (·.1)).map (·.1))).map λx=>.ask x.1.1 (Vp Z x.1.2.1)
 have G:LW HC C CK bt (.ref kl) (.ref la) (.ref lo) (.ref du) Z c d ds L ls:=by
  refine⟨(be8.pn I6 R6).mono J5,⟨hkB.mono sC,kS,λz ts e=>(kS.kk.at e).1,WV (SY R4),VQ (J5 _ _ G2) (G1.mono J5),l6,g.wd,g.ho,kS.flk,VQ hlo (by show HasL HC vl (List.map Bd.dat (List.map _ _));rw[za];exact hvl),?_,λx m kv y=>?_⟩,VQ ((sB.trans sC) _ _ hdu) (VZ _),r1,g.to,g.rk⟩
  .show (List.map _ _).length<=6
   rw[ZA];exact ZZ (zN _ _) l6
  .obtain ⟨x',m',rfl⟩:=ZU.mp m
   obtain⟨m1,m2⟩:=ze.mp m';exact⟨P1 _ (g.ho x' m1).len,by rw[Nn (WV (Zr m2))];exact λz=>nomatch z⟩
 have R7:la≠p:=R6.ne fla;have R1:=J5 _ _ G2;have N2:=G1.mono J5;have I1:(Dat.lst ((L.map λx=>x.1.1).map Dat.str)).pq (.lst ((L.map λx=>x.1.1).map Dat.str))=true:=Dat.pq_self _;clear hvl hvt hvn htk hlo R3 hkB hwA hhA hxA wlA G2 G1 be8 I2 hzd hdl F9 F6 hk6 I3 I0 g5 hhl hxh hfa hxf hkl C2 tx;generalize ls=ls at G;refine⟨la,_,rfl,.inl (Z1 R1),λl1 hl1=>?_⟩;refine up_in hl1 _ λHD sD gD=>?_;refine λx dx hx F1 ndx=>?_;have sX:Same HD (upd (upd HD dx (.own x)) x (.ins CW dx [])):=λb o e=>by rw[Yd (Yf e hx),Yd (Yf e F1)];exact e
 refine⟨HD,x,dx,bt,l1,xr,L,Z,(flat Z).map (·.1),c,d,ds,Ya,sX,hx,G.be.mono sD,gD,N2.mono sD,r1,l6,G.bx.wd,G.bx.ho,G.bx.fk,G.ro,G.to,λgood HE A' kw sE eA rd=>⟨rfl,?_⟩,λk fr=>?_⟩
 case refine_2=>
  obtain⟨x',hx',_,e'⟩:=fr;rw[G.good x' (ZH hx')]at e';cases e'
 subst eA;refine⟨_,_,rd.ins,rfl,A',kw,L,rd,λnl HF fnl sF D3=>?_⟩;have G3:=(sD.trans sE).trans sF;refine⟨_,_,VQ D3 (VZ _),G.du.mono G3,NQ _,_,rfl,Y9 (by rw[I1];decide) ?_⟩;have L1:=pnC.same G3;have v:=G.pn G3.sb pnC;have F8:=G3 _ _ R1;have F5:=N2.mono G3;clear D3 rd hx F1 sX gD G R1 N2;refine⟨6,rfl,by decide,by decide,?_⟩
 let st:(t J4 J2 X S M:kJ)->St:=λt J4 J2 X S M=>[some (.ref a),some (.ref p),some (.ref kl),some (.ref fa),some (.ref wa),some (.ref bt),some (.ref la),some (.ref du),some (.ref tk),some (.ref lo),t,J4,J2,X,S,M]
 let O:kH:=λ_ U Hi=>SameB p HF Hi/\Pen K a Hi p/\∃t J4 J2 X S M,U=st t J4 J2 X S M
 refine RG (n:=6) O ⟨SameB.refl _ _,L1,_,_,_,_,_,_,rfl⟩ ?_ ?_
 .rintro BB RR i U Hi hi ⟨sbi,pni,t,J4,J2,X,S,M,rfl⟩
  have J:=v.pn sbi L1;have J1:=sbi _ _ R7 F8;have Z9:=Vd sbi L1 _ (Dat.nis_of (Y0 V5 L)) F5;refine⟨la,_,rfl,.inl (Z1 J1),λbl F2=>?_⟩;refine up_in F2 _ λHG sG gG=>?_;refine⟨sl 0,λpl hpl=>?_⟩;refine up_in hpl _ λHI sI gI=>?_;have fpl:Hi pl=none:=sG.free hpl;have I9:bl≠p:=pni.ne F2;have I8:pl≠p:=pni.ne fpl;have nbp:bl≠pl:=Yf gG hpl;have I4:=sG.trans sI;refine⟨p,a,2,pni.same I4,by decide,by decide,λr HJ rl bJ pnJ=>?_⟩;refine⟨(1:Int)+(r:Nat),rfl,by omega,by omega,?_⟩
  let I:kH:=λj U Hj=>SameB p Hi Hj/\Pen K a Hj p/\(∃(l:List Rw)(ys:kF)(ps:List Nat),Hj bl=some (.lst ys)/\HasL Hj ys (l.map Vz)/\Hj pl=some (.lst ((ps.map λk:Nat=>(k:Int)).map V.int))/\ps.length=j/\BtR Z (Y2 (ds.map (·.1))) L l ps)/\∃t X S M,U=st t (some (.ref bl)) (some (.ref pl)) X S M
  refine RG (n:=((1:Int)+(r:Nat)).toNat) I ⟨I4.sb.trans bJ.sb,pnJ,⟨L,xr,[],bJ.sb _ _ I9 (sI _ _ gG),Vd (I4.sb.trans bJ.sb) pni _ (Dat.nis_of (Y0 V5 L)) Z9,bJ.sb _ _ I8 gI,rfl,BtR.none v.ro⟩,_,_,_,_,rfl⟩ ?_ ?_
  .rintro BB' RR' j U Hj hj ⟨sbj,pnj,⟨l,ys,ps,hbj,hyj,hpj,lps,btr⟩,t,X,S,M,rfl⟩
   have S2:=J.pn sbj pni;have F7:=sbj _ _ R7 J1;have hxrj:=Vd sbj pni _ (Dat.nis_of (Y0 V5 L)) Z9;refine⟨la,_,rfl,.inl (Z1 F7),?_⟩;refine Jq p a xr.length rfl pnj (by omega) (by omega) λk HK kl' bK pnK=>?_;have hlaK:=bK.sb _ _ R7 F7;obtain⟨x,hx,R8⟩:=getD (Vd bK.sb pnj _ (Dat.nis_of (Y0 V5 L)) hxrj) (ZC kl');have xm:=ZH hx;obtain⟨tr,ur,xs,wx,ev,htr,hur,hxs,hwx⟩:=JT R8;rw[ev]at R8;refine⟨_,.ref tr,Z1 hlaK,Yq (by rw[ZC kl',ev]),?_⟩;have hxv':Has HK (.ref tr) (.tup ([Dat.str x.1.1,psD x.1.2.1,.str x.1.2.2,x.2.dat].map λd=>d)):=R8;refine⟨3,rfl,JX (D:=λd=>d) (ls:=[Dat.str x.1.1,psD x.1.2.1,.str x.1.2.2,x.2.dat]) hxv' λuL HL sL hL=>?_⟩;have ec:JC [Dat.str x.1.1,psD x.1.2.1,.str x.1.2.2,x.2.dat] none (some 3)=[Dat.str x.1.1,psD x.1.2.1,.str x.1.2.2]:=Xs _ 3 (by show 3<=4;decide);rw[ec]at hL;have lwL:=(S2.pn bK.sb pnj).pn sL.sb pnK;have pnL:=pnK.same sL;refine⟨_,wx,Z0 (sL _ _ htr),Yq (j:=3) rfl,p,a,.ref kl,.ref la,.ref lo,.ref tr,wx,Z,c,d,_,L,_,ls,x,2,x.2,pnL,lwL.bx,xm,R8.mono sL,hwx.mono sL,v.rk x xm,by decide,λub b' HM sbM pnM hub wr=>?_⟩;refine⟨sl 1,λt7 ht7=>?_⟩;refine up_in ht7 _ λHN sN gN=>?_;have d3:Dat.sts [Dat.str x.1.1,psD x.1.2.1,.str x.1.2.2]=true:=by simp[Dat.sts,Dat.st,Mq]
   refine Jv (D:=λd=>d) (l1:=[Dat.str x.1.1,psD x.1.2.1,.str x.1.2.2]) (l2:=[b'.dat]) ((VC sbM pnL _ (Dat.ni_of (Xi d3)) hL).mono sN) (Yn gN (Z3 (hub.mono sN))) (by show 3+1<=900;decide) λuP HP sP hP=>?_;have hP':Has HP uP (Vz (x.1,b')):=hP;have sNP:=sN.trans sP;have sbKP:SameB p HK HP:=(sL.sb.trans sbM).trans sNP.sb;have Z8:SameB p Hj HP:=bK.sb.trans sbKP;have F3:SameB p Hi HP:=sbj.trans Z8;have pnP:=pnM.same sNP;have hbP:=Z8 _ _ I9 hbj;have hpP:=Z8 _ _ I8 hpj;have hyP:=Vd Z8 pnj _ (Dat.nis_of (Y0 V5 l)) hyj;have lys:=hyj.length;rw[ZA,btr.ln]at lys;have kly:k<ys.length:=by omega
   refine⟨bl,ys,(k:Int),k,rfl,rfl,hbP,Ss kly,?_⟩;have M2:=HasL.set (i:=k) hyP hP';have tkQ:TK HP (upd HP bl (.lst (ys.set k uP))):=Ue hbP λxs z=>nomatch z
   have D0:upd HP bl (.lst (ys.set k uP)) pl=some (.lst ((ps.map λk:Nat=>(k:Int)).map V.int)):=by rw[Yd nbp.symm];exact hpP
   have gQ:upd HP bl (.lst (ys.set k uP)) bl=some (.lst (ys.set k uP)):=Ya;have I5:SameB p Hi (upd HP bl (.lst (ys.set k uP))):=F3.put F2;have pnQ:Pen K a (upd HP bl (.lst (ys.set k uP))) p:=pni.put F3 pnP F2 I9;rw[<-Ka]at M2;replace M2:=VS tkQ _ (Y0 V5 _) M2;generalize upd HP bl (.lst (ys.set k uP))=HQ at tkQ D0 gQ I5 pnQ M2 |-;refine⟨.inl ⟨rfl,_,Z1 D0⟩,pl,_,_,rfl,rfl,D0,Yp (by rw[ZA,ZA];omega),?_⟩;have tkR:TK HQ (upd HQ pl (.lst ((ps.map λk:Nat=>(k:Int)).map V.int++[.int (k:Nat)]))):=Ue D0 λxs z=>nomatch z
   refine⟨I5.put fpl,pni.put I5 pnQ fpl I8,⟨l.set k (x.1,b'),ys.set k uP,ps++[k],by rw[Yd nbp];exact gQ,VS tkR _ (Y0 V5 _) M2,by rw[Ya,ZI,ZI];rfl,by rw[ZJ,lps];rfl,btr.put hx wr⟩,_,_,_,_,rfl⟩
  .rintro U Hj ⟨sbj,pnj,⟨l,ys,ps,hbj,hyj,hpj,lps,btr⟩,z10',z13',z14',z15',rfl⟩
   have S2:=J.pn sbj pni;obtain⟨k,km,kle⟩:=Nm (ps:=ps) (by omega)
   have nms:(l.map λx=>x.1.1)=L.map λx=>x.1.1:=by
    have:=congrArg (List.map (·.1)) btr.hds;rw[za,za]at this;exact this
   refine⟨bt,bl,ys,l,Z,(flat Z).map (·.1),c,d,ds,k,S2.be,hbj,hyj,by rw[btr.ln];exact r1,by rw[btr.ln];exact l6,by rw[nms];exact v.bx.wd,λx m=>?_,v.bx.fk,λx m=>(btr.mem m).1,by rw[btr.hds];exact v.to,btr.first v.good km kle,λHR sR=>?_⟩
   .obtain ⟨_,x0,m0,e0⟩:=btr.mem m
    rw[e0];exact v.bx.ho x0 m0
   refine⟨pl,ps.map λk:Nat=>(k:Int),rfl,Z1 (sR _ _ hpj),by rw[ZA];omega,λm hm lm=>?_⟩
   have em:m=(k:Int):=by
    obtain⟨i',mi,rfl⟩:=ZU.mp hm;have h1:=lm (k:Int) (ZU.mpr ⟨k,km,rfl⟩);have h2:=kle i' mi;omega
   subst em;refine⟨rfl,_,rfl,Y9 (by simp) ?_⟩;exact⟨(sbi.trans sbj).trans sR.sb,pnj.same sR,_,_,_,_,_,_,rfl⟩
 .rintro U Hi ⟨sbi,pni,t,J4,J2,X,S,M,rfl⟩
  have J:=v.pn sbi L1;have J1:=sbi _ _ R7 F8;have Z9:=Vd sbi L1 _ (Dat.nis_of (Y0 V5 L)) F5;refine⟨la,_,rfl,.inl (Z1 J1),λl1 hl1=>?_⟩;refine up_in hl1 _ λHG sG gG=>?_;refine λx dx hx F1 ndx=>?_;have sX:Same HG (upd (upd HG dx (.own x)) x (.ins CW dx [])):=λb o e=>by rw[Yd (Yf e hx),Yd (Yf e F1)];exact e
  refine⟨HG,x,dx,bt,l1,xr,L,Z,(flat Z).map (·.1),c,d,ds,Ya,sX,hx,J.be.mono sG,gG,Z9.mono sG,r1,l6,J.bx.wd,J.bx.ho,J.bx.fk,J.ro,J.to,λgood HE A' kw sE eA rd=>⟨rfl,?_⟩,λk fr=>?_⟩
  case refine_2=>
   obtain⟨x',hx',_,e'⟩:=fr;rw[J.good x' (ZH hx')]at e';cases e'
  subst eA;refine⟨_,_,rd.ins,rfl,A',kw,L,rd,λnl HK fnl sK D3=>?_⟩;refine⟨_,_,VQ D3 (VZ _),J.du.mono ((sG.trans sE).trans sK),NQ _,?_⟩;rw[I1];exact q _
end
theorem N9{K:W.Frag}{C:Addr}{v:Value}{b:Bool}(h:W.mroIn K C v=some b):(W.clsIn K C).isSome=true:=by
 unfold W.mroIn at h;obtain⟨Z,a,_⟩:=Option.bind_eq_some_iff.mp h;rw[a];rfl
def At(K:W.Frag)(f:Addr)(x q:Str)(st:Stmt):Prop:=∃(L:Value)(G:kB)(kV M J:Value)(O:kB)(Z N:Value)(sl:Array (Option Value)),K.lookup f=some ⟨L,G,.func (W.fnOf x q (Ud st) (JW st) (Yc st) .none kV M J O Z N),sl⟩/\W.codeIn K Z q=true/\W.keepIn K (.ref f)=true
theorem At.of{K:W.Frag}{f:Addr}{x q:Str}{Z:Stmt}{M:Value}{L:kB}{kV N G:Value}{R:kB}{J O:Value}{sl:Array (Option Value)}(l:K.lookup f=some ⟨M,L,.func (W.fnOf x q (Ud Z) (JW Z) (Yc Z) .none kV N G R J O),sl⟩)(d:W.codeIn K J q=true)(k:W.keepIn K (.ref f)=true):At K f x q Z:=⟨M,L,kV,N,G,R,J,O,sl,l,d,k⟩
section
variable{K:W.Frag}{x q:Str}{st:Stmt}{f:Addr}{fd:FuncData}{ps:kq}
def BA1(x q:Str)(st:Stmt)(ps:kq)(us:kj):Prop:=∀(kV Z G:Value)(M:kB)(J L:Value),bindArgs (W.fnOf x q (Ud st) (JW st) (Yc st) .none kV Z G M J L) ⟨us,[]⟩=pure (ps.zip us)
def OB:Nat->(List Value->Prop)->Prop
 |0,R=>R []
 |n+1,R=>∀a,OB n λus=>R (a::us)
theorem OB.at:∀{n:Nat}{R:List Value->Prop}{Z:kj},OB n R->Z.length=n->R Z
 |0,_,[],h,_=>h
 |_+1,R,a::_,h,e=>OB.at (R:=λZ=>R (a::Z)) (h a) (Nat.succ.inj e)
theorem _root_.L2.Fun.bn(F:Fun K x q st f fd)(ps:kq)(h:OB ps.length (BA1 x q st ps)):Binds K fd ps []:=F.binds λ_ _ _ _ _ _ _ e=>h.at e _ _ _ _ _ _
theorem _root_.L2.Fun.b1(F:Fun K x q st f fd)(p:Str)(h:∀a,BA1 x q st [p] [a]:=by exact λ_ _ _ _ _ _ _=>rfl):Binds K fd [p] []:=F.bn [p] h
theorem _root_.L2.Fun.b2(F:Fun K x q st f fd)(p Z:Str)(h:∀a b,BA1 x q st [p,Z] [a,b]:=by exact λ_ _ _ _ _ _ _ _=>rfl):Binds K fd [p,Z] []:=F.bn [p,Z] h
theorem _root_.L2.Fun.b3(F:Fun K x q st f fd)(p J Z:Str)(h:∀a b c,BA1 x q st [p,J,Z] [a,b,c]:=by exact λ_ _ _ _ _ _ _ _ _=>rfl):Binds K fd [p,J,Z] []:=F.bn [p,J,Z] h
theorem _root_.L2.Fun.b4(F:Fun K x q st f fd)(p G J Z:Str)(h:∀a b c d,BA1 x q st [p,G,J,Z] [a,b,c,d]:=by exact λ_ _ _ _ _ _ _ _ _ _=>rfl):Binds K fd [p,G,J,Z] []:=F.bn [p,G,J,Z] h
theorem _root_.L2.Fun.b5(F:Fun K x q st f fd)(p L G J Z:Str)(h:∀a b c d i,BA1 x q st [p,L,G,J,Z] [a,b,c,d,i]:=by exact λ_ _ _ _ _ _ _ _ _ _ _=>rfl):Binds K fd [p,L,G,J,Z] []:=F.bn [p,L,G,J,Z] h
theorem _root_.L2.Fun.b6(F:Fun K x q st f fd)(p M L G J Z:Str)(h:∀a b c d i j,BA1 x q st [p,M,L,G,J,Z] [a,b,c,d,i,j]:=by exact λ_ _ _ _ _ _ _ _ _ _ _ _=>rfl):Binds K fd [p,M,L,G,J,Z] []:=F.bn [p,M,L,G,J,Z] h
end
theorem At.fn{K:W.Frag}{f:Addr}{x q:Str}{st:Stmt}(h:At K f x q st):∃Z,Fun K x q st f Z:=by
 obtain⟨_,_,_,_,_,_,_,_,_,l,d,k⟩:=h;exact⟨_,Lj (st:=st) l d k⟩
def GA(K:W.Frag)(x:Str)(f:Addr)(st:Stmt):Prop:=W.nsIn K mainGlobals x=some (some (.ref f))/\At K f x x st
def GR(K:W.Frag)(a:Addr)(y x:Str)(f:Addr)(st:Stmt):Prop:=W.nsIn K a y=some (some (.ref f))/\At K f x x st
def GM(K:W.Frag)(C:Addr)(x q:Str)(f:Addr)(st:Stmt):Prop:=(W.findIn K (.ref C) x=some (some (.ref f))/\W.isFn K (.ref f)=true)/\At K f x q st
def GN(K:W.Frag)(x:Str):Prop:=W.nsIn K mainGlobals x=some none
def GC(K:W.Frag)(x:Str)(f:Addr):Prop:=W.nsIn K mainGlobals x=some (some (.ref f))
def GV(K:W.Frag)(x:Str)(v:V)(u:Value):Prop:=W.nsIn K mainGlobals x=some (some u)/\RelV v u
def GF(K:W.Frag)(C:Addr)(x:Str):Prop:=W.findIn K (.ref C) x=some none
theorem GA.go{K:W.Frag}{h:Heap}{L:Str->Option Value}{x:Str}{f:Addr}{J:Stmt}(X:K.In h)(G:h.Ns mainGlobals L)(a:GA K x f J):∃Z,Fun K x x J f Z/\W.keepIn K (.ref f)=true/\L x=some (.ref f):=
 let⟨Z,F⟩:=a.2.fn
 ⟨Z,F,F.kp,W.mg_of X G a.1⟩
theorem GR.go{K:W.Frag}{c:Addr}{y x:Str}{f:Addr}{J:Stmt}(a:GR K c y x f J):∃Z,Fun K x x J f Z/\W.keepIn K (.ref f)=true/\W.nsIn K c y=some (some (.ref f)):=
 let⟨Z,F⟩:=a.2.fn
 ⟨Z,F,F.kp,a.1⟩
theorem GM.go{K:W.Frag}{c:Addr}{x q:Str}{f:Addr}{J:Stmt}(a:GM K c x q f J):∃Z,Fun K x q J f Z/\Vn K c x f:=
 let⟨Z,F⟩:=a.2.fn
 ⟨Z,F,a.1.1,a.1.2,F.kp⟩
theorem GV.go{K:W.Frag}{h:Heap}{Z:Str->Option Value}{x:Str}{v:V}{u:Value}(X:K.In h)(G:h.Ns mainGlobals Z)(a:GV K x v u):Z x=some u/\RelV v u:=⟨W.mg_of X G a.1,a.2⟩
structure CA(K:W.Frag)(C:Addr):Prop where
 pg:W.plainGet K C Str.empty=true
 hd:W.hasDictIn K C=true
 po:W.plainOver K C=true
 sa:W.findIn K (.ref C) "__setattr__"=some (some (.builtin "object.__setattr__"))
 ma:W.makesIn K C=true
 kc:W.keepIn K (.ref C)=true
theorem all_at{l:W.OpenLaw}{w:World}{K:W.Frag}{h:Heap}{mg:Str->Option Value}{fa CK C CW aR f1 f2 f3 f4 f5 f6 f7 f8 f9 f10 f11 f12 f13 f14 f15 f16 f17 f18 f19 f20 f21 f22 f23 f24 f25 f26 f27 f28 f29 f30 f31 f32 f33 f34 f35 f36 f37 f38 f39 f40 f41 f42 f43 f44 f45 f46 f47 f48 f49 f50 f51 f52 f53 f54 f55 f56 f57 f58 f59 f60 f61 f62 f63 f64 f65 f66 f67 f68 f69 f70 f71 f72 f73 f74 aW N a1' a2' a3' a4' a5' a6' a7' a8' a9' b1' b2':Addr}{es:Array DictEntry}{nR:Nat}{u1v u2v u3v u4v u5v u6v u7v u8v u9v u10v u11v u12v u13v:Value}(X:K.In h)(G:h.Ns mainGlobals mg)(hfa:mg "law"=some (.ref fa))(aC:GC K "Kinds" CK)(aB:GC K "Book" C)(aV:GC K "Rows" CW)(aU:GC K "RULES" aR)(e1:GC K "WantError" aW)(e2:GC K "NoRows" N)(e3:GC K "NoAsking" a1')(e4:GC K "NoBook" a2')(e5:GC K "NoCell" a3')(e6:GC K "NoKinds" a4')(e7:GC K "NoMore" a5')(e8:GC K "NoMost" a6')(e9:GC K "NoNote" a7')(e10:GC K "NoPart" a8')(e11:GC K "NoSheet" a9')(e12:GC K "NoWorth" b1')(e13:GC K "Torn" b2')(lR:K.lookup aR=some ⟨.type "dict",none,.dict es nR,#[]⟩)(kR:W.KeysLit w.params es.toList)(a1:GA K "parts" f1 Bk)(a2:GA K "kind_or_place" f2 sKP)(a3:GA K "kind_of_part" f3 Bp)(a4:GA K "is_name" f4 Mf)(a5:GA K "is_tag" f5 Bs)(a6:GA K "is_spelt" f6 Bg)(a7:GA K "are_parameters" f7 Bz)(a8:GA K "row_count" f8 Wp)(a9:GA K "rows_over" f9 Wo)(a10:GA K "places" f10 Gv)(a11:GA K "part_at" f11 Te)(a12:GA K "is_of_tags" f12 Mb)(a13:GA K "kind_within" f13 MW)(a14:GA K "kinds_of" f14 Tf)(a15:GA K "kind_around" f15 Mj)(a16:GA K "_law_fill" f16 LP)(a17:GA K "_law_next" f17 LL)(a18:GA K "_law_spelt" f18 DX)(a19:GA K "_law_small_words" f19 My)(a20:GA K "_law_kinds_drawn" f20 DZ)(a21:GA K "_law_flat_kinds" f21 LO)(a22:GA K "_law_tags_of" f22 Mx)(a23:GA K "_law_heads_drawn" f23 Da)(a24:GA K "_law_said" f24 ES)(a25:GA K "_law_defined_drawn" f25 LQ)(a26:GA K "_law_row_heads" f26 LK)(a27:GA K "_law_row_body" f27 ET)(a28:GA K "_law_rows_drawn" f28 LJ)(a29:GA K "_law_free" f29 LN)(a30:GA K "_law_small_word" f30 Mz)(a31:GA K "_law_tags_told" f31 Ww)(a32:GA K "_law_plain_given" f32 M0)(a33:GA K "_law_bad_going" f33 Dc)(a34:GA K "_law_bad_first" f34 Wx)(a35:GA K "_law_bad_choice" f35 X5)(a36:GA K "_law_bent_body" f36 EU)(a37:GA K "_law_kinds_of" f37 Tx)(a38:GA K "_law_refused" f38 Tw)(a39:GA K "law" f39 DY)(a40:GR K aR "tag" "kind_of_tag_body" f40 KP)(a41:GR K aR "name" "kind_of_name_body" f41 Br)(a42:GR K aR "pair" "kind_of_pair_body" f42 Bq)(a43:GR K aR "one" "kind_of_one_body" f43 KQ)(a44:GR K aR "other" "kind_of_other_body" f44 Md)(a45:GR K aR "choose" "kind_of_choose_body" f45 Th)(a46:GR K aR "ask" "kind_of_ask_body" f46 KU)(a47:GR K aR "let" "kind_of_let_body" f47 KS)(a48:GM K CK "__init__" "Kinds.__init__" f48 KW)(a49:GM K CK "take" "Kinds.take" f49 Bn)(a50:GM K CK "take_tags" "Kinds.take_tags" f50 KN)(a51:GM K CK "take_pair" "Kinds.take_pair" f51 Bl)(a52:GM K CK "names" "Kinds.names" f52 Bm)(a53:GM K CK "worths_of" "Kinds.worths_of" f53 Wn)(a54:GM K CK "shape_of" "Kinds.shape_of" f54 Tc)(a55:GM K CK "kind_of_tag" "Kinds.kind_of_tag" f55 Me)(a56:GM K CK "kind_of_pair" "Kinds.kind_of_pair" f56 Tg)(a57:GM K C "__init__" "Book.__init__" f57 Bx)(a58:GM K C "take_heads" "Book.take_heads" f58 Bu)(a59:GM K C "is_head" "Book.is_head" f59 By)(a60:GM K C "check_bodies" "Book.check_bodies" f60 Mi)(a61:GM K C "kinds" "Book.kinds" f61 Mh)(a62:GM K C "names" "Book.names" f62 Mg)(a63:GM K C "parameters" "Book.parameters" f63 Bv)(a64:GM K C "kind_of" "Book.kind_of" f64 Bw)(a65:GM K C "told_of" "Book.told_of" f65 Bt)(a66:GM K CW "__init__" "Rows.__init__" f66 MY)(a67:GM K CW "take_heads" "Rows.take_heads" f67 Bh)(a68:GM K CW "is_head" "Rows.is_head" f68 Bj)(a69:GM K CW "check_bodies" "Rows.check_bodies" f69 MZ)(a70:GM K CW "is_body" "Rows.is_body" f70 Ma)(a71:GM K CW "check_stands" "Rows.check_stands" f71 Td)(a72:GM K CW "names" "Rows.names" f72 MX)(a73:GM K CW "kind_of" "Rows.kind_of" f73 Bi)(a74:GM K N "__init__" "NoRows.__init__" f74 Mc)(z1:GN K "len")(z2:GN K "isinstance")(z3:GN K "bool")(z4:GN K "str")(z5:GN K "int")(z6:GN K "tuple")(z7:GN K "list")(z8:GN K "dict")(z9:GN K "all")(z10:GN K "zip")(z11:GN K "max")(z12:GN K "range")(z13:GN K "sorted")(z14:GN K "min")(z15:GN K "sum")(z16:GN K "enumerate")(z17:GN K "any")(z18:GN K "ValueError")(g1:GV K "SMALL" (.str (Str.ofString "abcdefghijklmnopqrstuvwxyz")) u1v)(g2:GV K "GREAT" (.str (Str.ofString "ABCDEFGHIJKLMNOPQRSTUVWXYZ")) u2v)(g3:GV K "LONGEST" (.int 8) u3v)(g4:GV K "MOST_KINDS" (.int 6) u4v)(g5:GV K "MOST_TAGS" (.int 4) u5v)(g6:GV K "MOST_WORTHS" (.int 30) u6v)(g7:GV K "MOST_PAIRS_DEEP" (.int 2) u7v)(g8:GV K "MOST_DEFINITIONS" (.int 8) u8v)(g9:GV K "MOST_PARAMETERS" (.int 3) u9v)(g10:GV K "MOST_ROWS_books" (.int 200) u10v)(g11:GV K "MOST_ROWS_IN_ALL" (.int 400) u11v)(g12:GV K "MOST_ROWS_rows" (.int 6) u12v)(g13:GV K "MOST_STANDS" (.int 24) u13v)(caCK:CA K CK)(caC:CA K C)(caCW:CA K CW)(n1:GF K CK "shapes")(n2:GF K CK "worths")(n3:GF K CK "heights")(n4:GF K CK "pairs_deep")(n5:GF K CK "tag_kinds")(n6:GF K CK "pair_kinds")(nb1:GF K C "sorts")(nb2:GF K C "told")(nb3:GF K C "rows")(nb4:GF K C "turns")(nr1:GF K CW "book")(nr2:GF K CW "told")(nr3:GF K CW "steps")(h2:W.typeIn K (.ref aW)=some (.type "type"))(h3:W.mroIn K aW (.type "BaseException")=some true)(x2:W.findIn K (.ref N) "__getattribute__"=some (some (.builtin "BaseException.__getattribute__")))(x3:W.findIn K (.ref N) "__getattr__"=some none)(x4:W.mroIn K N (.type "BaseException")=some true)(x5:W.mroIn K N (.type "object")=some true)(x6:W.findIn K (.ref N) "__class__"=some (some (.builtin "object.__class__")))(x7:W.specialIn K (.builtin "object.__class__") "__get__"=some (some (.builtin "getset_descriptor.__get__")))(x8:W.takesIn K (.builtin "object.__class__")=some true)(s1:W.subIn K (.ref N) (.ref aW)=some true)(u1:W.kitAny K (.ref N) [.ref a1',.ref a2',.ref a3',.ref a4',.ref a5',.ref a6',.ref a7',.ref a8',.ref a9']=some false)(u2:W.kitAny K (.ref N) [.ref b1',.ref b2']=some false)(u3:W.kitOne K (.ref N) (.ref N)=some true)(u4:W.kitOne K (.ref N) (.type "ValueError")=some true)(v1:W.hasDictIn K N=true)(v2:W.findIn K (.ref N) "number"=some none)(v4:W.findIn K (.ref N) "__setattr__"=some (some (.builtin "object.__setattr__")))(v5:W.keepIn K (.ref N)=true)(v6:W.xcIn K N f74=true):∃fd:FuncData,(∀(s:Shared)(v:Value),BindsTo s fd ⟨[v],[]⟩ [("script",v)])/\∀base:Heap,K.In base->base.Ns mainGlobals mg->Yk l.prog w K mg base CX0 31 fa fd ["script"] (D8 K):=by
 have e:=hfa.symm.trans (W.mg_of X G a39.1);cases e;obtain⟨d1,F1,k1,m1⟩:=a1.go X G;obtain⟨d2,F2,k2,m2⟩:=a2.go X G;obtain⟨d3,F3,k3,m3⟩:=a3.go X G;obtain⟨d4,F4,k4,m4⟩:=a4.go X G;obtain⟨d5,F5,k5,m5⟩:=a5.go X G;obtain⟨d6,F6,k6,m6⟩:=a6.go X G;obtain⟨d7,F7,k7,m7⟩:=a7.go X G;obtain⟨d8,F8,k8,m8⟩:=a8.go X G;obtain⟨d9,F9,k9,m9⟩:=a9.go X G;obtain⟨d10,F10,k10,m10⟩:=a10.go X G;obtain⟨d11,F11,k11,m11⟩:=a11.go X G;obtain⟨d12,F12,k12,m12⟩:=a12.go X G;obtain⟨d13,F13,k13,m13⟩:=a13.go X G;obtain⟨d14,F14,k14,m14⟩:=a14.go X G;obtain⟨d15,F15,k15,m15⟩:=a15.go X G;obtain⟨d16,F16,k16,m16⟩:=a16.go X G;obtain⟨d17,F17,k17,m17⟩:=a17.go X G;obtain⟨d18,F18,k18,m18⟩:=a18.go X G;obtain⟨d19,F19,k19,m19⟩:=a19.go X G;obtain⟨d20,F20,k20,m20⟩:=a20.go X G;obtain⟨d21,F21,k21,m21⟩:=a21.go X G;obtain⟨d22,F22,k22,m22⟩:=a22.go X G;obtain⟨d23,F23,k23,m23⟩:=a23.go X G;obtain⟨d24,F24,k24,m24⟩:=a24.go X G;obtain⟨d25,F25,k25,m25⟩:=a25.go X G;obtain⟨d26,F26,k26,m26⟩:=a26.go X G;obtain⟨d27,F27,k27,m27⟩:=a27.go X G;obtain⟨d28,F28,k28,m28⟩:=a28.go X G;obtain⟨d29,F29,k29,m29⟩:=a29.go X G;obtain⟨d30,F30,k30,m30⟩:=a30.go X G;obtain⟨d31,F31,k31,m31⟩:=a31.go X G;obtain⟨d32,F32,k32,m32⟩:=a32.go X G;obtain⟨d33,F33,k33,m33⟩:=a33.go X G;obtain⟨d34,F34,k34,m34⟩:=a34.go X G;obtain⟨d35,F35,k35,m35⟩:=a35.go X G;obtain⟨d36,F36,k36,m36⟩:=a36.go X G;obtain⟨d37,F37,k37,m37⟩:=a37.go X G;obtain⟨d38,F38,k38,m38⟩:=a38.go X G;obtain⟨_,_,kV,dc,pm,an,cd,ct,_,l',d',k39⟩:=a39.2;have F39:=Lj (st:=DY) l' d' k39;obtain⟨d40,F40,k40,a40⟩:=a40.go;obtain⟨d41,F41,k41,a41⟩:=a41.go;obtain⟨d42,F42,k42,a42⟩:=a42.go;obtain⟨d43,F43,k43,a43⟩:=a43.go;obtain⟨d44,F44,k44,a44⟩:=a44.go;obtain⟨d45,F45,k45,a45⟩:=a45.go;obtain⟨d46,F46,k46,a46⟩:=a46.go;obtain⟨d47,F47,k47,a47⟩:=a47.go;obtain⟨d48,F48,w48⟩:=a48.go;obtain⟨d49,F49,w49⟩:=a49.go;obtain⟨d50,F50,w50⟩:=a50.go;obtain⟨d51,F51,w51⟩:=a51.go;obtain⟨d52,F52,w52⟩:=a52.go;obtain⟨d53,F53,w53⟩:=a53.go;obtain⟨d54,F54,w54⟩:=a54.go;obtain⟨d55,F55,w55⟩:=a55.go;obtain⟨d56,F56,w56⟩:=a56.go;obtain⟨d57,F57,w57⟩:=a57.go;obtain⟨d58,F58,w58⟩:=a58.go;obtain⟨d59,F59,w59⟩:=a59.go;obtain⟨d60,F60,w60⟩:=a60.go;obtain⟨d61,F61,w61⟩:=a61.go;obtain⟨d62,F62,w62⟩:=a62.go;obtain⟨d63,F63,w63⟩:=a63.go;obtain⟨d64,F64,w64⟩:=a64.go;obtain⟨d65,F65,w65⟩:=a65.go;obtain⟨d66,F66,w66⟩:=a66.go;obtain⟨d67,F67,w67⟩:=a67.go;obtain⟨d68,F68,w68⟩:=a68.go;obtain⟨d69,F69,w69⟩:=a69.go;obtain⟨d70,F70,w70⟩:=a70.go;obtain⟨d71,F71,w71⟩:=a71.go;obtain⟨d72,F72,w72⟩:=a72.go;obtain⟨d73,F73,w73⟩:=a73.go;obtain⟨d74,F74,w74⟩:=a74.go;have mC:=W.mg_of X G aC;have mB:=W.mg_of X G aB;have mV:=W.mg_of X G aV;have mU:=W.mg_of X G aU;have B:Blt mg:=⟨zu X G z1,zu X G z2,zu X G z3,zu X G z4,zu X G z5,zu X G z6,zu X G z7,zu X G z8,zu X G z9,zu X G z10,zu X G z11,zu X G z12,zu X G z13⟩;have nmin:=zu X G z14;have nsum:=zu X G z15;have nenumerate:=zu X G z16;have nany:=zu X G z17;have nValueError:=zu X G z18;obtain⟨q1,r1⟩:=g1.go X G;obtain⟨q2,r2⟩:=g2.go X G;obtain⟨q3,r3⟩:=g3.go X G;obtain⟨q4,r4⟩:=g4.go X G;obtain⟨q5,r5⟩:=g5.go X G;obtain⟨q6,r6⟩:=g6.go X G;obtain⟨q7,r7⟩:=g7.go X G;obtain⟨q8,r8⟩:=g8.go X G;obtain⟨q9,r9⟩:=g9.go X G;obtain⟨q10,r10⟩:=g10.go X G;obtain⟨q11,r11⟩:=g11.go X G;obtain⟨q12,r12⟩:=g12.go X G;obtain⟨q13,r13⟩:=g13.go X G;have T:KCl K CK:=⟨⟨caCK.pg,caCK.hd,caCK.po,caCK.sa⟩,n1,n2,n3,n4,n5,n6⟩;have TB:BCl K C:=⟨⟨caC.pg,caC.hd,caC.po,caC.sa⟩,nb1,nb2,nb3,nb4⟩;have TW:RCl K CW:=⟨⟨caCW.pg,caCW.hd,caCW.po,caCW.sa⟩,nr1,nr2,nr3⟩;have XX:XR K mg aW N a1' a2' a3' a4' a5' a6' a7' a8' a9' b1' b2':=⟨W.mg_of X G e1,W.mg_of X G e2,W.mg_of X G e3,W.mg_of X G e4,W.mg_of X G e5,W.mg_of X G e6,W.mg_of X G e7,W.mg_of X G e8,W.mg_of X G e9,W.mg_of X G e10,W.mg_of X G e11,W.mg_of X G e12,W.mg_of X G e13,nValueError,⟨N9 h3,h2,h3⟩,⟨N9 x4,x2,x3,x4,x5,x6,x7,x8⟩,s1,u1,u2,u3,u4,v1,v2⟩;have xc:XCl K N f74:=⟨v6,x5,v4⟩;refine⟨W.fnOf "law" "law" (Ud DY) (JW DY) (Yc DY) .none kV dc pm an cd ct,λs v=>.of_eq rfl,λbase hIn _=>?_⟩;have pA:Yk l.prog w K mg base CX0 1 f1 _ _ U3:=ok_parts (n:=0) B F1;have sp:Yk l.prog w K mg base CX0 1 f6 _ _ Gm:=Ku (n:=0) B F6 q3 r3;have na:Yk l.prog w K mg base CX0 2 f4 _ _ (Uh 97):=FX (n:=1) F4 sp (F6.b2 _ _) k6 m6 q1 r1;have ta:Yk l.prog w K mg base CX0 2 f5 _ _ (Uh 65):=K3 (n:=1) F5 sp (F6.b2 _ _) k6 m6 q2 r2;have tt:Yk l.prog w K mg base CX0 3 f50 _ _ (BP CK):=O2 (n:=2) B T F50 q5 r5 ta (F5.b1 _) k5 m5;have tp:Yk l.prog w K mg base CX0 3 f51 _ _ (MN CK):=Kw (n:=2) B T F51 q7 r7 q6 r6;have kt:Yk l.prog w K mg base CX0 4 f49 _ _ (MP CK):=Ky (n:=3) B T F49 (na.mono (by decide)) (F4.b1 _) k4 m4 tt (F50.b3 _ _ _) w50 tp (F51.b4 _ _ _ _) w51;have ini:Yk l.prog w K mg base CX0 5 f48 _ _ (BU CK):=PF (n:=4) B T F48 q4 r4 kt (F49.b3 _ _ _) w49;have knm:Yk l.prog w K mg base CX0 1 f52 _ _ (U4 CK):=Kx (n:=0) B T F52;have kwo:Yk l.prog w K mg base CX0 1 f53 _ _ (UK CK):=Nd (n:=0) B T F53;have ksh:Yk l.prog w K mg base CX0 1 f54 _ _ (Jy CK):=B9 (n:=0) T F54;have kto:Yk l.prog w K mg base CX0 1 f55 _ _ (TV CK):=FW (n:=0) T F55;have kpo:Yk l.prog w K mg base CX0 1 f56 _ _ (Wg CK):=DJ (n:=0) T F56;have bki:Yk l.prog w K mg base CX0 1 f61 _ _ (JE C CK):=Fa (n:=0) TB F61;have bnm:Yk l.prog w K mg base CX0 1 f62 _ _ (WI C CK):=FZ (n:=0) B TB F62;have to:Yk l.prog w K mg base CX0 1 f65 _ _ (MJ C CK):=O1 (n:=0) B TB F65;have cP:Yk l.prog w K mg base CX0 2 f63 _ _ (BR C CK):=O6 (n:=1) TB F63 w65 to (F65.b2 _ _);have cK:Yk l.prog w K mg base CX0 2 f64 _ _ (MO C CK):=K2 (n:=1) TB F64 w65 to (F65.b2 _ _);have kpt:Yk l.prog w K mg base CX0 2 f3 _ _ (Gn C CK):=Kz (n:=1) TB T F3 w61 bki (F61.b1 _) w54 ksh (F54.b2 _ _);have R1:RA l.prog w K mg base C CK (λk=>findBy Jw es k) "tag" _:=⟨f40,_,Xa lR a40,O8 (n:=2) TB T F40 w61 (bki.mono (by decide)) (F61.b1 _) w55 (kto.mono (by decide)) (F55.b2 _ _),k40,F40.b4 _ _ _ _⟩;have R2:RA l.prog w K mg base C CK (λk=>findBy Jw es k) "name" _:=⟨f41,_,Xa lR a41,K1 (n:=2) F41,k41,F41.b4 _ _ _ _⟩;have R3:RA l.prog w K mg base C CK (λk=>findBy Jw es k) "pair" _:=⟨f42,_,Xa lR a42,K0 (n:=2) TB T F42 w61 (bki.mono (by decide)) (F61.b1 _) w56 (kpo.mono (by decide)) (F56.b3 _ _ _),k42,F42.b4 _ _ _ _⟩;have R4:RA l.prog w K mg base C CK (λk=>findBy Jw es k) "one" _:=⟨f43,_,Xa lR a43,O9 (n:=2) F43 ⟨f3,_,m3,k3,F3.b3 _ _ _,kpt⟩,k43,F43.b4 _ _ _ _⟩;have R5:RA l.prog w K mg base C CK (λk=>findBy Jw es k) "other" _:=⟨f44,_,Xa lR a44,FU (n:=2) F44 ⟨f3,_,m3,k3,F3.b3 _ _ _,kpt⟩,k44,F44.b4 _ _ _ _⟩;have R6:RA l.prog w K mg base C CK (λk=>findBy Jw es k) "choose" _:=⟨f45,_,Xa lR a45,DI (n:=0) B nany TB T F45 w61 (bki.mono (by decide)) (F61.b1 _) w54 (ksh.mono (by decide)) (F54.b2 _ _),k45,F45.b4 _ _ _ _⟩;have R7:RA l.prog w K mg base C CK (λk=>findBy Jw es k) "ask" _:=⟨f46,_,Xa lR a46,PD (n:=0) TB F46 w62 (bnm.mono (by decide)) (F62.b1 _) w63 cP (F63.b2 _ _) w64 cK (F64.b2 _ _),k46,F46.b4 _ _ _ _⟩;have R8:RA l.prog w K mg base C CK (λk=>findBy Jw es k) "let" _:=⟨f47,_,Xa lR a47,PB (n:=2) F47,k47,F47.b4 _ _ _ _⟩;have kp:Yk l.prog w K mg base CX0 16 f2 _ _ (TU C CK 13):=QU B nenumerate TB T F2 (F2.b3 _ _ _) m2 w61 (bki.mono (by decide)) (F61.b1 _) w52 (knm.mono (by decide)) (F52.b1 _) ⟨f1,_,m1,k1,F1.b1 _,pA.mono (by decide)⟩ mU (Pa hIn lR kR) (λL=>KZ L R1 R2 R3 R4 R5 R6 R7 R8) 13;have ap:Yk l.prog w K mg base CX0 3 f7 _ _ (Gp CK):=K7 (n:=2) B T F7 q9 r9 ⟨f4,_,m4,k4,F4.b1 _,na⟩ w52 (knm.mono (by decide)) (F52.b1 _);have rc:Yk l.prog w K mg base CX0 2 f8 _ _ (U2 CK):=Ng (n:=1) B T F8 w53 kwo (F53.b2 _ _);have ro:Yk l.prog w K mg base CX0 2 f9 _ _ (Xx CK):=Nf (n:=1) B T F9 w53 kwo (F53.b2 _ _);have ih:Yk l.prog w K mg base CX0 4 f59 _ _ (MR C CK):=K6 (n:=3) TB T F59 ⟨f4,_,m4,k4,F4.b1 _,na.mono (by decide)⟩ ⟨f7,_,m7,k7,F7.b2 _ _,ap⟩ w52 (knm.mono (by decide)) (F52.b1 _);have th:Yk l.prog w K mg base CX0 5 f58 _ _ (Im C CK):=K5 (n:=4) B nenumerate TB F58 q8 r8 q10 r10 q11 r11 w59 ih (F59.b4 _ _ _ _) ⟨f8,_,m8,k8,F8.b2 _ _,rc.mono (by decide)⟩ ⟨f9,_,m9,k9,F9.b2 _ _,ro.mono (by decide)⟩;have cb:Yk l.prog w K mg base CX0 17 f60 _ _ (Qz C CK):=SV (n:=16) B nenumerate TB F60 w62 (bnm.mono (by decide)) (F62.b1 _) ⟨f2,_,m2,k2,F2.b3 _ _ _,kp⟩;have bi:Yk l.prog w K mg base CX0 18 f57 _ _ (Qy C CK):=SU (n:=17) (m:=5) (by decide) TB F57 ⟨caCK.ma,w48.1,w48.2,caCK.kc⟩ mC ini (F48.b2 _ _) w58 (th.mono (by decide)) (F58.b2 _ _) w60 cb (F60.b1 _);have pl:Yk l.prog w K mg base CX0 6 f10 _ _ (E9 5):=QI nenumerate F10 (F10.b1 _) m10 ⟨f1,_,m1,k1,F1.b1 _,pA⟩ 5;have pt:Yk l.prog w K mg base CX0 2 f11 _ _ Wf:=DE (n:=1) F11 ⟨f1,_,m1,k1,F1.b1 _,pA⟩;have kw:Yk l.prog w K mg base CX0 17 f13 _ _ (BS C CK):=Am (n:=16) F13 ⟨f2,_,m2,k2,F2.b3 _ _ _,kp⟩;have ka:Yk l.prog w K mg base CX0 18 f15 _ _ (BS C CK):=Aq (n:=17) B F15 ⟨f13,_,m13,k13,F13.b3 _ _ _,kw⟩ ⟨f10,_,m10,k10,F10.b1 _,pl.mono (by decide)⟩ ⟨f11,_,m11,k11,F11.b2 _ _,pt.mono (by decide)⟩ ⟨f4,_,m4,k4,F4.b1 _,na.mono (by decide)⟩;have ko:Yk l.prog w K mg base CX0 1 f14 _ _ Il:=Ao (n:=0) F14;have ot:Yk l.prog w K mg base CX0 2 f12 _ _ (Qw CK):=Al (n:=1) T F12 w52 knm (F52.b1 _) w54 ksh (F54.b2 _ _);have rn:Yk l.prog w K mg base CX0 1 f72 _ _ (Ih CW):=Ae (n:=0) B TW F72;have rk:Yk l.prog w K mg base CX0 1 f73 _ _ (OM CW):=Af (n:=0) TW F73;have rh:Yk l.prog w K mg base CX0 4 f68 _ _ (Ij CW C CK):=SR (n:=3) B TW TB F68 w61 (bki.mono (by decide)) (F61.b1 _) ⟨f4,_,m4,k4,F4.b1 _,na.mono (by decide)⟩ ⟨f7,_,m7,k7,F7.b2 _ _,ap⟩ ⟨f14,_,m14,k14,F14.b1 _,ko.mono (by decide)⟩ ⟨f12,_,m12,k12,F12.b2 _ _,ot.mono (by decide)⟩;have rb:Yk l.prog w K mg base CX0 21 f70 _ _ (Ik CW C CK 3):=QH (L:=18) B TW TB T F70 (by decide) w70 (F70.b4 _ _ _ _) w61 (bki.mono (by decide)) (F61.b1 _) w54 (ksh.mono (by decide)) (F54.b2 _ _) w73 (rk.mono (by decide)) (F73.b2 _ _) ⟨f15,_,m15,k15,F15.b3 _ _ _,ka⟩ ⟨f14,_,m14,k14,F14.b1 _,ko.mono (by decide)⟩ 3;have rt:Yk l.prog w K mg base CX0 5 f67 _ _ (Qt CW C CK):=Ac (n:=4) B nenumerate TW F67 q12 r12 w68 rh (F68.b4 _ _ _ _);have ni:Yk l.prog w K mg base CX0 1 f74 _ _ (E8 N "number"):=FT (n:=0) F74 xc v2;have rC:Yk l.prog w K mg base (CX1 l.prog w) 22 f69 _ _ (Qv CW C CK N):=Ai (n:=20) B nenumerate TW F69 XX.mN xc v5 w74.2 (ni.mono (by decide)) (F74.b2 _ _) w72 (rn.mono (by decide)) (F72.b1 _) w70 rb (F70.b4 _ _ _ _);have rS:Yk l.prog w K mg base CX0 3 f71 _ _ (Qu CW C CK):=Ad (n:=2) B nenumerate TW TB F71 q13 r13 w72 (rn.mono (by decide)) (F72.b1 _) w61 (bki.mono (by decide)) (F61.b1 _) ⟨f8,_,m8,k8,F8.b2 _ _,rc⟩;have rI:Yk l.prog w K mg base (CX1 l.prog w) 23 f66 _ _ (Ii CW C CK N):=Ag (n:=22) TW F66 w67 (rt.mono (by decide)) (F67.b2 _ _) w69 rC (F69.b1 _) w71 (rS.mono (by decide)) (F71.b1 _);have fi:Yk l.prog w K mg base CX0 1 f16 _ _ BV:=PK (n:=0) F16;have nx:Yk l.prog w K mg base CX0 2 f17 _ _ (JY K):=O7 (n:=1) B F17 ⟨f16,_,m16,k16,F16.b2 _ _,fi⟩;have ls:Yk l.prog w K mg base CX0 3 f18 _ _ (NS K):=SS (n:=2) B F18 ⟨f17,_,m17,k17,F17.b2 _ _,nx⟩;have sw:Yk l.prog w K mg base CX0 4 f19 _ _ (XS K):=FP (n:=3) F19 ⟨f18,_,m18,k18,F18.b3 _ _ _,ls⟩;have fl:Yk l.prog w K mg base CX0 1 f21 _ _ Xy:=PJ (n:=0) F21;have tO:Yk l.prog w K mg base CX0 1 f22 _ _ J7:=FO (n:=0) F22;have kD:Yk l.prog w K mg base CX0 5 f20 _ _ (TR K):=FV (n:=4) B nsum F20 ⟨f17,_,m17,k17,F17.b2 _ _,nx.mono (by decide)⟩ ⟨f19,_,m19,k19,F19.b2 _ _,sw⟩ ⟨f18,_,m18,k18,F18.b3 _ _ _,ls.mono (by decide)⟩;have hD:Yk l.prog w K mg base CX0 5 f23 _ _ (TX K):=FY (n:=4) B F23 ⟨f17,_,m17,k17,F17.b2 _ _,nx.mono (by decide)⟩ ⟨f19,_,m19,k19,F19.b2 _ _,sw⟩;have rH:Yk l.prog w K mg base CX0 5 f26 _ _ (BQ K):=O4 (n:=4) B F26 ⟨f17,_,m17,k17,F17.b2 _ _,nx.mono (by decide)⟩ ⟨f19,_,m19,k19,F19.b2 _ _,sw⟩;have sd:Yk l.prog w K mg base CX0 10 f24 _ _ (XU K 5):=EF B F24 ⟨f17,_,m17,k17,F17.b2 _ _,nx.mono (by decide)⟩ ⟨f22,_,m22,k22,F22.b2 _ _,tO.mono (by decide)⟩ (F24.b5 _ _ _ _ _) m24 5;have dD:Yk l.prog w K mg base CX0 11 f25 _ _ (BW K):=PL (n:=10) B F25 ⟨f24,_,m24,k24,F24.b5 _ _ _ _ _,sd⟩;have rB:Yk l.prog w K mg base CX0 13 f27 _ _ (We K 3):=EH (L:=10) B F27 ⟨f17,_,m17,k17,F17.b2 _ _,nx.mono (by decide)⟩ ⟨f24,_,m24,k24,F24.b5 _ _ _ _ _,sd⟩ (F27.b6 _ _ _ _ _ _) m27 3;have rD:Yk l.prog w K mg base CX0 14 f28 _ _ (ML K):=Kv (n:=13) B F28 ⟨f26,_,m26,k26,F26.b2 _ _,rH.mono (by decide)⟩ ⟨f27,_,m27,k27,F27.b6 _ _ _ _ _ _,rB⟩;have fr:Yk l.prog w K mg base CX0 4 f29 _ _ (MQ K):=PH (n:=3) F29 ⟨f18,_,m18,k18,F18.b3 _ _ _,ls⟩;have s1':Yk l.prog w K mg base CX0 5 f30 _ _ (XT K):=FR (n:=4) F30 ⟨f29,_,m29,k29,F29.b3 _ _ _,fr⟩;have tT:Yk l.prog w K mg base CX0 2 f31 _ _ MK:=Kt (n:=1) F31 ⟨f21,_,m21,k21,F21.b1 _,fl⟩;have pG:Yk l.prog w K mg base CX0 2 f32 _ _ WH:=FS (n:=1) B F32 ⟨f22,_,m22,k22,F22.b2 _ _,tO⟩;have bf:Yk l.prog w K mg base CX0 6 f34 _ _ (Io K):=As (n:=5) B F34 ⟨f17,_,m17,k17,F17.b2 _ _,nx.mono (by decide)⟩ ⟨f29,_,m29,k29,F29.b3 _ _ _,fr.mono (by decide)⟩ ⟨f31,_,m31,k31,F31.b1 _,tT.mono (by decide)⟩ ⟨f21,_,m21,k21,F21.b1 _,fl.mono (by decide)⟩;have bc:Yk l.prog w K mg base CX0 7 f35 _ _ (OO K):=Au (n:=6) B F35 ⟨f17,_,m17,k17,F17.b2 _ _,nx.mono (by decide)⟩ ⟨f21,_,m21,k21,F21.b1 _,fl.mono (by decide)⟩ ⟨f34,_,m34,k34,F34.b4 _ _ _ _,bf⟩;have bg:Yk l.prog w K mg base CX0 6 f33 _ _ (ON K):=Ar (n:=5) B F33 (by decide) ⟨f17,_,m17,k17,F17.b2 _ _,nx.mono (by decide)⟩ ⟨f32,_,m32,k32,F32.b2 _ _,pG.mono (by decide)⟩ ⟨f22,_,m22,k22,F22.b2 _ _,tO.mono (by decide)⟩ ⟨f30,_,m30,k30,F30.b2 _ _,s1'⟩ ⟨f21,_,m21,k21,F21.b1 _,fl.mono (by decide)⟩;have bB:Yk l.prog w K mg base CX0 10 f36 _ _ (FA K 3):=QY (L:=7) B F36 ⟨f17,_,m17,k17,F17.b2 _ _,nx.mono (by decide)⟩ ⟨f30,_,m30,k30,F30.b2 _ _,s1'.mono (by decide)⟩ ⟨f22,_,m22,k22,F22.b2 _ _,tO.mono (by decide)⟩ ⟨f35,_,m35,k35,F35.b4 _ _ _ _,bc⟩ ⟨f33,_,m33,k33,F33.b5 _ _ _ _ _,bg.mono (by decide)⟩ ⟨f34,_,m34,k34,F34.b4 _ _ _ _,bf.mono (by decide)⟩ (F36.b6 _ _ _ _ _ _) m36 3;have ke:Yk l.prog w K mg base CX0 1 f37 _ _ (Qx N):=Ap (n:=0) B XX F37;have rf:Yk l.prog w K mg base CX0 30 f38 _ _ (Qs C CK):=Ah (n:=29) (m:=23) (by decide) (by decide) B XX F38 ⟨caCW.ma,w66.1,w66.2,caCW.kc⟩ mV rI (F66.b3 _ _ _) ⟨f37,_,m37,k37,F37.b1 _,ke.mono (by decide)⟩;exact ST (n:=30) (mB:=18) (mW:=23) (by decide) (by decide) (by decide) B nmin TW F39 ⟨f17,_,m17,k17,F17.b2 _ _,nx.mono (by decide)⟩ ⟨f20,_,m20,k20,F20.b1 _,kD.mono (by decide)⟩ ⟨f21,_,m21,k21,F21.b1 _,fl.mono (by decide)⟩ ⟨f23,_,m23,k23,F23.b2 _ _,hD.mono (by decide)⟩ ⟨f25,_,m25,k25,F25.b2 _ _,dD.mono (by decide)⟩ ⟨f28,_,m28,k28,F28.b2 _ _,rD.mono (by decide)⟩ ⟨f32,_,m32,k32,F32.b2 _ _,pG.mono (by decide)⟩ ⟨f36,_,m36,k36,F36.b6 _ _ _ _ _ _,bB.mono (by decide)⟩ ⟨f38,_,m38,k38,F38.b2 _ _,rf⟩ ⟨caC.ma,w57.1,w57.2,caC.kc⟩ mB bi (F57.b3 _ _ _) ⟨caCW.ma,w66.1,w66.2,caCW.kc⟩ mV rI (F66.b3 _ _ _) w72 (rn.mono (by decide)) (F72.b1 _)
theorem goes{l:W.OpenLaw}{q:Program}{loose:kq}{XP:(Str->Option Value)->Heap->Prop}{YP:World->Heap->Prop}{d:DefRec}{K:Params->W.Frag}(hn:l.most=some 63)(hdf:d.params.defaults=[])(hY:∀(w:World)(h:Heap),YP w h->(K w.params).In h)(F:∀(w:World)(mg:Str->Option Value)(fa:Addr)(h:Heap),(K w.params).In h->h.Ns mainGlobals mg->mg d.name=some (.ref fa)->
   ∃fd:FuncData,(∀(s:Shared)(u:Value),BindsTo s fd ⟨[u],[]⟩ [("script",u)])/\∀base:Heap,(K w.params).In base->base.Ns mainGlobals mg->Yk l.prog w (K w.params) mg base CX0 31 fa fd ["script"] (D8 (K w.params))):
  W.WalkO q loose XP YP l.row.toRowW d [] (λf vs=>PySem.call f vs):=
 L2.walk_of (n:=63) (k:=31) (x:="script") (CX:=λ_=>CX0) (sp:=λw=>D8 (K w.params)) hn (by decide) hdf ⟨rfl,by decide,by decide⟩ hY F (λ_ _ a ns hl _ hS=>⟨a,ns,hS,λ_=>rfl⟩) λ_ _ _ _ _ z=>z
end K4
namespace PySem.W.Fast
def tw1102707765840363450:=()
def tw1293734809057828518:=()
def tw10688365009579108087:=()
def tw12859554605381640879:=()
def tw2131751864514512958:=()
def tw8562955100167277355:=()
def tw12163041130743415166:=()
def tw4346913253167716402:=()
def tw5089688195465265488:=()
def tw14710520779531014353:=()
def tw4989388967894144398:=()
def tw6479202738950621327:=()
def tw17199572117405011483:=()
def tw12013982616558329907:=()
def tw6466755720172121085:=()
def tw1941706294975063247:=()
def tw16615773459721557556:=()
def tw7569476975388476339:=()
def tw14365822642688662621:=()
def tw1209133671301371228:=()
def tw5069120906845619551:=()
def tw13580142210210884991:=()
def tw18059851582393083548:=()
def tw10215200665793102267:=()
def tw1386893072213603707:=()
def tw3860059015520471699:=()
def tw6748785372649216599:=()
def tw4059968324875411890:=()
def tw2270729114598116071:=()
def tw10469313278920551884:=()
def tw7196668607673036974:=()
def tw9984532474167835943:=()
def tw11492548093277570547:=()
def tw14596058883778020572:=()
def tw1427192967471207829:=()
def tw17784030778748714084:=()
def tw15487491008359571480:=()
def tw12187902529268665507:=()
def tw14327944001830706314:=()
def tw15738722416173540115:=()
def tw17346377748815755398:=()
def tw6457656808362267812:=()
def tw12062847379695195781:=()
def tw6925433545827437077:=()
def tw17905451650381461066:=()
def tw9131714422620694439:=()
def tw15720584422519790255:=()
def tw6283778808043325996:=()
def tw6167053722907294210:=()
def tw8130055028888465568:=()
def tw13862658392340687785:=()
def tw665583889055385595:=()
def tw5146097196749655828:=()
def tw11290493857963829196:=()
def tw18208175243087523564:=()
def tw16551099941645142736:=()
def tw16665958124574137394:=()
def tw9951769127998054421:=()
def tw9232440190656291897:=()
def tw3798420307975776091:=()
def tw9784130457995855510:=()
def tw13954365969218900534:=()
def tw459965153257484415:=()
def tw18085833223074828997:=()
def tw14822090681473254355:=()
def tw6691152798576117265:=()
def tw1959754516186080542:=()
def tw7958566569142900638:=()
def tw15612736278164087145:=()
def tw3629252966748967128:=()
def tw4920581446127307164:=()
def tw12547485188469780758:=()
def tw16503214693767866863:=()
def tw1839610769639140364:=()
def tw18158876878612774492:=()
def tw17674578295367969524:=()
def tw17471395467704017452:=()
def tw92318705823760079:=()
def tw1050296247518930784:=()
def tw14760191983045453:=()
def tw16358671505765578557:=()
def tw2808530235320213609:=()
def tw9813928541481589469:=()
def tw2198688321023785035:=()
def tw2006232098953089569:=()
def tw14184171712919522659:=()
def tw13152220235563774691:=()
def tw16035860334575794100:=()
def tw116384644379745091:=()
def tw6541507203106786629:=()
def tw4738616909553745231:=()
def tw2359212307716724712:=()
def tw7730792388532883789:=()
def tw4029263816040911692:=()
def tw15264182516529832469:=()
def tw7264887038194617381:=()
def tw2903880398892459505:=()
def tw13151570841514301669:=()
def tw12098261457332258851:=()
def tw10596933883095012681:=()
def tw7112079965675548370:=()
def tw7759109208513387334:=()
def tw2003374999156915661:=()
def tw9272810984935150864:=()
def tw236060626438581734:=()
def tw17411473417634483195:=()
def tw8218414476598372518:=()
def tw6514920523321717571:=()
def tw18171706954601560098:=()
def tw7410172350994147022:=()
def tw14621210464808218705:=()
def tw2829936582218471092:=()
def tw11193616751781193298:=()
def tw4301511526020073143:=()
def tw16399686154424471446:=()
def tw13602278943009049341:=()
def tw11643423615084951248:=()
def tw13352285589510652182:=()
def tw7148543249213654912:=()
def tw14721979324659363073:=()
def tw8830140884122266838:=()
def tw5443693984959556274:=()
def tw13953006914676049759:=()
def tw11026915336825896376:=()
def tw5287330109280553840:=()
def tw14264014787254297407:=()
def tw18318578931429084198:=()
def tw13507063980094710719:=()
def tw10424014552071720271:=()
def tw5443275614875832013:=()
def tw10715680816704444120:=()
def tw13188227829187796226:=()
def tw5068094877785608962:=()
def tw15203204565607848903:=()
def tw15965817275231527615:=()
def tw16242819812621951940:=()
def tw9562347500790343270:=()
def tw6899822649712147622:=()
def tw7066984264970443147:=()
def tw18362900449438936297:=()
def tw10475651130424237161:=()
def tw18141142390060013884:=()
def tw12223490498934889813:=()
def tw3545642207615430342:=()
def tw2512011120944769068:=()
def tw3544065482534574559:=()
def tw885542693224133287:=()
def tw12231361002712260691:=()
def tw14943932714603315976:=()
def tw15153306758964257680:=()
def tw1971400083958799530:=()
def tw553970919239751069:=()
def tw3486625082220436807:=()
def tw2089004426910004486:=()
def tw12859054094476250045:=()
def tw18084944628526674737:=()
def tw10960292727481829809:=()
def tw218022044436353243:=()
def tw9673963896987368319:=()
def tw17649456478596207737:=()
def tw2992783721947222986:=()
def tw8587830306906469976:=()
def tw12641138411283569340:=()
def tw5754031190436341894:=()
def tw11390597288431208571:=()
def tw11262655746548189635:=()
def tw3391795843129112761:=()
def tw14905954938689043710:=()
def tw5663720494437510681:=()
def tw17044791996619397811:=()
def tw13268133924611331813:=()
def tw6597421019258402375:=()
def tw16376551769875448884:=()
def tw17935043678806068581:=()
def tw15790097645462067213:=()
def tw14297311211407333892:=()
def tw1912214880453153749:=()
def tw10989659127750643916:=()
def tw6770584767037147958:=()
def tw17653505683223248146:=()
def tw16084837157375417873:=()
def tw10177890226227048048:=()
def tw9289981279085529033:=()
def tw17438920924998136602:=()
def tw15655896768948860970:=()
def tw1915501186402934338:=()
def tw16767760422203045339:=()
def tw16555389570221996754:=()
def tw10208386414732838643:=()
def tw7718289101658455318:=()
def tw569677827190835312:=()
def tw2718270397948108814:=()
def tw4846780034874268612:=()
def tw9373164839797552494:=()
def tw14994889066059890167:=()
def tw13289604978810146354:=()
def tw2393617780165325416:=()
def tw9584684670142821215:=()
def tw5616557139195724044:=()
def tw828574396519395124:=()
def tw3185842012545428313:=()
def tw13679618318702732936:=()
def tw16888814791306856267:=()
def tw13506906474848045627:=()
def tw2935925257912962941:=()
def tw9083332805689822868:=()
def tw7746924783732943582:=()
def tw1607697510007099514:=()
def tw17480017085781979766:=()
def tw17937888310114392214:=()
def tw1836892489241553839:=()
def tw17103076344360272369:=()
def tw3386097040044741039:=()
def tw16072976415735382693:=()
def tw17537917509550034824:=()
def tw14384123797936089826:=()
def tw3170315229117518733:=()
def tw10454412443058409944:=()
def tw136543073919981507:=()
def tw1681613457734785270:=()
def tw5939869255410534890:=()
def tw13065772910494905530:=()
def tw1583438611110245974:=()
def tw7079249658995339768:=()
def tw5997681781734173735:=()
def tw2653756772101484261:=()
def tw17167346857012388801:=()
def tw17617223961911862607:=()
def tw10540038364083359571:=()
def tw4572880975211869831:=()
def tw13022686627781956871:=()
def tw18020726552038581689:=()
def tw9275733991283201576:=()
def tw2601366950419909671:=()
def tw15390169685263839950:=()
def tw3068110525014074438:=()
def tw1184145999613189390:=()
def tw11966048258648026380:=()
def tw13260697727927958452:=()
def tw17005876067328691591:=()
def tw11035524366846261406:=()
def tw14985765837832023941:=()
def tw7310850365169073063:=()
def tw5777017256095937696:=()
def tw17323125119480453250:=()
def tw2295754749549004025:=()
def tw11180035895221320191:=()
def tw11162582582985477410:=()
def tw9924444212147401650:=()
def tw1789989731446839323:=()
def tw9821704311699925662:=()
def tw12606319491715947028:=()
def tw861597441073949912:=()
def tw10168708305194208897:=()
def tw13419625437988053790:=()
def tw17064982171029246806:=()
def tw7502658541350229742:=()
def tw8240525505731425260:=()
def tw5657306885354933803:=()
def tw10279625134127362409:=()
def tw6910907615041743549:=()
def tw15022260208677594381:=()
def tw15895750261040571753:=()
def tw5935378300499909453:=()
def tw10621256236816586774:=()
def tw7513616682793086266:=()
def tw3633628446448398440:=()
def tw16147276695555678372:=()
def tw5891149483495068868:=()
def tw5335046465563769927:=()
def tw10635934367035577754:=()
def tw6730190891260301883:=()
def tw13790054363265078354:=()
def tw17419864654750872364:=()
def tw2916307673770588864:=()
def tw8359572046851438366:=()
def tw10853185692411932954:=()
def tw14155782799733752616:=()
def tw2352169928016159724:=()
def tw11653075147505167335:=()
def tw12279209324000422464:=()
def tw8956628378542048104:=()
def tw2633889801794208117:=()
def tw10175558899710186359:=()
def tw1891044624933281814:=()
def tw7958426057249687420:=()
def tw16191526602844545834:=()
def tw822119872622549219:=()
def tw5531573826847080950:=()
def tw9210547424173991545:=()
def tw2791369480389518205:=()
def tw8747304464199607046:=()
def tw15402175253124065355:=()
def tw85398594632910755:=()
def tw7157927505412329322:=()
def tw3561536830333900861:=()
def tw4837213173797656912:=()
def tw14066408254307507004:=()
def tw14341063273487709530:=()
def tw8031466611316715334:=()
def tw10999136868727648443:=()
def tw15044336639827939972:=()
def tw15132799748019376188:=()
def tw4776238877522510411:=()
def tw4695134874856855252:=()
def tw3484520292633838931:=()
def tw6126469540981969418:=()
def tw10336885472872429659:=()
def tw10641528824005162666:=()
def tw623692281765655048:=()
def tw14164628126142342242:=()
def tw17470333239379981465:=()
def tw4262892970574257469:=()
def tw7959489627390459820:=()
def tw4104636719363793677:=()
def tw15032549509067161466:=()
def tw6440875276259577284:=()
def tw5762950175084638771:=()
def tw8497820939132951834:=()
def tw4442057514340471792:=()
def tw7610975336235764162:=()
def tw2032629808741897784:=()
def tw1921983266073080827:=()
def tw1436904371645812425:=()
def tw4348219158667074113:=()
def tw4808309515573385502:=()
def tw14434123416633977878:=()
def tw15768727572486727951:=()
def tw8429861609705602797:=()
def tw11114399610040710258:=()
def tw82217638783547408:=()
def tw17293772432008766959:=()
def tw15882055812791727117:=()
def tw5211036146817909053:=()
def tw15556399688039952612:=()
def tw2271730306283639613:=()
def tw2098750536554846732:=()
def tw9995959049429260333:=()
def tw10459108173275497408:=()
def tw7968407935601633275:=()
def tw7201523288780300332:=()
def tw12579300923420952704:=()
def tw3744882267013831187:=()
def tw16292356471965689435:=()
def tw10590343146713176531:=()
def tw6881151455923384549:=()
def tw4822209007203364867:=()
def tw1498265951502846773:=()
def tw13842772162061319371:=()
def tw796042761567733029:=()
def tw6593626790725519658:=()
def tw7266507283227727201:=()
def tw4500977553518996283:=()
def tw4278037312069348332:=()
def tw974760034621542598:=()
def tw18151340882106908681:=()
def tw6955739409654051178:=()
def tw10631938332341663251:=()
def tw5404097977360006459:=()
def tw477963618729906153:=()
def tw2801631674095229763:=()
def tw13697040655416249030:=()
def tw4536195802056695716:=()
def tw7643076167015011571:=()
def tw13454517645923964116:=()
def tw5805026497053844349:=()
def tw4536360907382742737:=()
def tw858057346493567387:=()
def tw16848655625554435037:=()
def tw10652819190109341848:=()
def tw11791862126917037783:=()
def tw12025997011045259581:=()
def tw4972949523731846436:=()
def tw16034408638164427482:=()
def tw4254620278944861065:=()
def tw8661518306480952781:=()
def tw3891410350856813690:=()
def tw1197187560636145604:=()
def tw14513897802501547159:=()
def tw13764905315381477652:=()
def tw4205533291745439332:=()
def tw16253623792780348029:=()
def tw5493504561405867845:=()
def tw14433724754971197602:=()
def tw212737090680617752:=()
def tw7113811825237252095:=()
def tw8491881161249206382:=()
def tw3390667071555481287:=()
def tw12125132341961992665:=()
def tw5137047108148711819:=()
def tw17029082513347635814:=()
def tw12422511083071636942:=()
def tw3257217091773420117:=()
def tw278452624822300989:=()
def tw12052768418488417753:=()
def tw97546846394288910:=()
def tw4704173332262731620:=()
def tw18124657282767362210:=()
def tw2228244968397273209:=()
def tw308053567678797542:=()
def tw815453950183389199:=()
def tw5328379131405614524:=()
def tw1378162165990296609:=()
def tw1182912802476969863:=()
def tw12194590782201739508:=()
def tw2530498550671706651:=()
def tw9485135168176148782:=()
def tw7803370478047159029:=()
def tw8517006220888073650:=()
def tw13539271290572715631:=()
def tw8801008252854071162:=()
def tw2540456723957748798:=()
def tw5278741055556762465:=()
def tw17986228136999089607:=()
def tw17832829587181827891:=()
def tw13116423956191448205:=()
def tw13722268436853220164:=()
def tw2578759766439609450:=()
def tw12017972707422538174:=()
def tw6022482221566922709:=()
def tw17713429475896268594:=()
def tw5676618535961211321:=()
def tw9374564999109518014:=()
def tw9057648427701632941:=()
def tw9574258428290195898:=()
def tw12163598629934678923:=()
def tw13556738948701810206:=()
def tw7193631953719050666:=()
def tw6870974550226179131:=()
def tw4137098180418546726:=()
def tw354276703066227017:=()
def tw13784831962404927005:=()
def tw11252604314276253027:=()
def tw11423212607384369033:=()
def tw12157708905437205080:=()
def tw10107017087501198064:=()
def tw10705334900656945806:=()
def tw12736978254151618357:=()
def tw5837424697637665649:=()
def tw12297993428238688271:=()
def tw3968184188315518772:=()
def tw11542237022697892020:=()
def tw343040120820956715:=()
def tw13400083246713665743:=()
def tw13836885682889804371:=()
def tw15120717006642980648:=()
def tw319666248726346179:=()
def tw1004779597789775419:=()
def tw11185994428909705482:=()
def tw18222156309262383462:=()
def tw14460452623571588279:=()
def tw11720124764049195046:=()
def tw8488562931110903653:=()
def tw16790736071438076425:=()
def tw16014155548388512489:=()
def tw14329696657600133079:=()
def tw11541786764191234041:=()
def tw8321939442246301585:=()
def tw18257610412422414604:=()
def tw18232193200426291855:=()
def tw9301264546579640859:=()
def tw7918221107509559312:=()
def tw7741973606204657568:=()
def tw3262082697281853529:=()
def tw7128797405822040438:=()
def tw4558328209665714806:=()
def tw18344909443256220234:=()
def tw6710779781082472134:=()
def tw4574260062799243539:=()
def tw11645249788298992734:=()
def tw7594359398485184537:=()
def tw15879144874035910514:=()
def tw17730231143940242156:=()
def tw5602776722975665503:=()
def tw5102534469077488898:=()
def tw9216707244910605755:=()
def tw3345372846111553682:=()
def tw12543372433172204308:=()
def tw9038468228096288662:=()
def tw9231608271127348713:=()
def tw17423037599791213244:=()
def tw14360403219080939573:=()
def tw12845841128063092970:=()
def tw11323510780816756175:=()
def tw2317883091450442991:=()
def tw8787453923049815632:=()
def tw14546346031453621904:=()
def tw13271727773728571161:=()
def tw11818806359023725980:=()
def tw5267798212613073062:=()
def tw7479967489550570716:=()
def tw17898229175473508675:=()
def tw13155718381087259697:=()
def tw6165522871965415335:=()
def tw11196166828108360307:=()
def tw7358540850317514680:=()
def tw6580100029433206845:=()
def tw16656201069507301684:=()
def tw18315212949106593214:=()
def tw3254804970655187847:=()
def tw10222168354251761447:=()
def tw12595949800842722514:=()
def tw5081443321555015200:=()
def tw17480391429417151787:=()
def tw7743329058750089557:=()
def tw422654736077033768:=()
def tw12656334849101259195:=()
def tw1134914135752141880:=()
def tw138677119385090677:=()
def tw9689007311012415308:=()
def tw10226679009539147429:=()
def tw16830165776945510463:=()
def tw12973909452592139653:=()
def tw15545185728926447308:=()
def tw4264852437193494315:=()
def tw6563597326409096214:=()
def tw10697729128209502696:=()
def tw4737444614709560728:=()
def tw11732974145982558284:=()
def tw1782885730767740888:=()
def tw17816659110483589914:=()
def tw10487152568426014699:=()
def tw5996574075515973477:=()
def tw15252927882745253763:=()
def tw14972679803880088781:=()
def tw8123571858685358236:=()
def tw15899969507174471426:=()
def tw16524940092949702129:=()
def tw9184980056297309264:=()
def tw5977225752509496435:=()
def tw3158418001379167956:=()
def tw17415781819800502587:=()
def tw16651905885092169197:=()
def tw241581123251824714:=()
def tw6038020746864509473:=()
def tw4132183135074600857:=()
def tw11341729355267113053:=()
def tw8161045364408087539:=()
def tw6606257890832752150:=()
def tw8368494260042037657:=()
def tw8587969555456285874:=()
def tw18133499756603857384:=()
def tw5356667723090535073:=()
def tw1530765150682110099:=()
def tw6217903729535314384:=()
def tw7243927733872128006:=()
def tw18111953261254861384:=()
def tw14167285254710054199:=()
def tw15032796074386089896:=()
def tw9246351220087795918:=()
def tw7720196728517196322:=()
def tw4142964802350988676:=()
def tw18155672408876170380:=()
def tw16765245081872803010:=()
def tw3059931706334892002:=()
def tw11117771052316432674:=()
def tw16841670513407171111:=()
def tw12566499736281227648:=()
def tw2193121939583065114:=()
def tw10923342568610139398:=()
def tw17784210534521960835:=()
def tw5068511974485113008:=()
def tw12938748302965182485:=()
def tw7508829108260438343:=()
def tw9791087941393558263:=()
def tw17851663594733872824:=()
def tw2059337073187955883:=()
def tw2975215212096622374:=()
def tw10952181211005696293:=()
def tw15486739370712281452:=()
def tw17019711597755826052:=()
def tw16134598013565653346:=()
def tw12536620154554481339:=()
def tw17320526203988415176:=()
def tw17203056326057813484:=()
def tw16979811030512806212:=()
def tw2697251323646085860:=()
def tw11725835775345951153:=()
def tw7339101453567149522:=()
def tw1215561900916215595:=()
def tw12147691300448648584:=()
def tw17694765316086000938:=()
def tw11678833849640286373:=()
def tw17238980900778314605:=()
def tw8750815385260442417:=()
def tw6073834662376142744:=()
def tw8107907170842183995:=()
def tw11696720786954685538:=()
def tw12870321847069550554:=()
def tw7916378080775614328:=()
def tw11965185744298872024:=()
def tw12155516302057325677:=()
def tw8111395834534038430:=()
def tw5417080302671209117:=()
def tw2865945499465062041:=()
def tw16212618249412410781:=()
def tw9987346486336560381:=()
def tw903518527377694904:=()
def tw160818479541494533:=()
def tw8792826969309467677:=()
def tw11761362430672045490:=()
def tw12075713721623754702:=()
def tw4375513264037189168:=()
def tw7161802946978124831:=()
def tw5042541132129414386:=()
def tw3945354136327970440:=()
def tw1530353810433401663:=()
def tw5552180090020571444:=()
def tw12465994633788886946:=()
def tw9758732751777925606:=()
def tw17053742607497025355:=()
def tw12205669071663504848:=()
def tw9993313291914530472:=()
def tw14282218402454253506:=()
def tw16038968429599506708:=()
def tw11079596414193827687:=()
def tw12553781598090877898:=()
def tw15859376435279098465:=()
def tw377276891167661001:=()
def tw467517131569857999:=()
def tw9307452059307999212:=()
def tw10455719553972871701:=()
def tw1436555462233044207:=()
def tw7629916512139895901:=()
def tw3328719663788822337:=()
def tw5258137892032355940:=()
def tw14272091642333235100:=()
def tw8291920801342024569:=()
def tw12068968160578048924:=()
def tw6907236763134592883:=()
def tw9802439434895713476:=()
def tw4168481056327444619:=()
def tw3388181970677929890:=()
def tw13245355103602837471:=()
def tw12356572148546545203:=()
def tw14360412347951679710:=()
def tw7653856774952723750:=()
def tw7604909321349170535:=()
def tw12281619922603551688:=()
def tw969333015952930756:=()
def tw11266183902574318186:=()
def tw5557435489668562546:=()
def tw17965208022796285306:=()
def tw1357700722541912905:=()
def tw3115696299254745012:=()
def tw1577973434578068251:=()
def tw7043707716302695638:=()
def tw12329707249793196771:=()
def tw8418635115211480372:=()
def tw11314172607600272601:=()
def tw13755265749919954223:=()
def tw1175389725108607289:=()
def tw10850521072996233435:=()
def tw981757876140675584:=()
def tw13206707018695997191:=()
def tw4046715304775975881:=()
def tw3146739863518258990:=()
def tw6580074873350028877:=()
def tw9707287847540751701:=()
def tw5299053277320938779:=()
def tw3542205561389890758:=()
def tw5814890772255807317:=()
def tw5222908400567417015:=()
def tw6572481893930553323:=()
def tw11555863305733258278:=()
def tw3277919996673190604:=()
def tw9537263929667893645:=()
def tw47430946797242241:=()
def tw3309643905318440411:=()
def tw17858263573395192857:=()
def tw10914829631061557183:=()
def tw3584423778974904589:=()
def tw9272253915761575213:=()
def tw1795425738970937710:=()
def tw8769373389542793233:=()
def tw8442820139412946623:=()
def tw9853929274885184099:=()
def tw7167056332830512566:=()
def tw3234902289318140515:=()
def tw9386774948580987941:=()
def tw16626702835323044643:=()
def tw5564721195868988008:=()
def tw18088884159065186533:=()
def tw3281115913950730932:=()
def tw1757406925620767417:=()
def tw2871014947894808890:=()
def tw1808353309205105310:=()
def tw6724714636607156765:=()
def tw12986363809055682129:=()
def tw6322391695968656306:=()
def tw4779709754864712675:=()
def tw16454463360636898934:=()
def tw6645519470097692805:=()
def tw7439768655385207520:=()
def tw9158862007996248460:=()
def tw10877887642082179125:=()
def tw5892025761815165259:=()
def tw11616166024081851259:=()
def tw14193652295075474231:=()
def tw113944025177399653:=()
def tw979382978007479985:=()
def tw3929068958378612893:=()
def tw14938808542195359202:=()
def tw15666231529312485444:=()
def tw11026461403317815899:=()
def tw5190801294597827297:=()
def tw4288027167392361403:=()
def tw10527962656357134015:=()
def tw17067497092774300561:=()
def tw9366193752351974711:=()
def tw1088906179365251186:=()
def tw11833030500743857560:=()
def tw16550809529114699669:=()
def tw2679147507545025264:=()
def tw7117789975637202196:=()
def tw10073659488291898339:=()
def tw14358473658706589496:=()
def tw1099737036349871796:=()
def tw10386148667053179918:=()
def tw10770928506473437645:=()
def tw6385458491474173393:=()
def tw1414193170435618488:=()
def tw4351144831701737094:=()
def tw7006727506700429778:=()
def tw6871290057494000487:=()
def tw2214473301214391169:=()
def tw6780266998355960402:=()
def tw16443412143897140403:=()
def tw1485042627767395865:=()
def tw421947221474223926:=()
def tw15315646594678807819:=()
def tw5376119935602887808:=()
def tw8835088564879302171:=()
def tw7364646703610451610:=()
def tw3352494966136033926:=()
def tw11419504696473603409:=()
def tw12143006603093900214:=()
def tw14691394842607606310:=()
def tw15511784938678778813:=()
end PySem.W.Fast
set_option tactic.hygienic true
open PySem PySem.W PyProof.Rows
set_option maxRecDepth 100000 in
set_option maxHeartbeats 0 in
theorem PySem.Challenge.cw_wantway_k75_no_row_bodies_holds : PySem.Challenge.rw_wantway_k75_no_row_bodies.Holds := by
  w_on; o_law; k_head; (case hw => w_witness2)
  k_fill
  refine K4.goes (l := PySem.Challenge.rw_wantway_k75_no_row_bodies) rfl rfl (fun w h Y => PySem.W.kIn_of Y) ?F
  case F =>
    intro w mg fa h KX G hmg
    refine' K4.all_at KX G hmg ?_ ?_ ?_ ?_ ?_ ?_ ?_ ?_ ?_ ?_ ?_ ?_ ?_ ?_ ?_ ?_ ?_ ?_ ?_ ?_ ?_ ?_ ?_ ?_ ?_ ?_ ?_ ?_ ?_ ?_ ?_ ?_ ?_ ?_ ?_ ?_ ?_ ?_ ?_ ?_ ?_ ?_ ?_ ?_ ?_ ?_ ?_ ?_ ?_ ?_ ?_ ?_ ?_ ?_ ?_ ?_ ?_ ?_ ?_ ?_ ?_ ?_ ?_ ?_ ?_ ?_ ?_ ?_ ?_ ?_ ?_ ?_ ?_ ?_ ?_ ?_ ?_ ?_ ?_ ?_ ?_ ?_ ?_ ?_ ?_ ?_ ?_ ?_ ?_ ?_ ?_ ?_ ?_ ?_ ?_ ?_ ?_ ?_ ?_ ?_ ?_ ?_ ?_ ?_ ?_ ?_ ?_ ?_ ?_ ?_ ?_ ?_ ?_ ?_ ?_ ?_ ?_ ?_ ?_ ?_ ?_ ?_ ?_ ?_ ?_ ?_ ?_ ?_ ?_ ?_ ?_ ?_ ?_ ?_ ?_ ?_ ?_ ?_ ?_ ?_ ?_ ?_ ?_ ?_ ?_ ?_ ?_ ?_ ?_ ?_ ?_ ?_ ?_ ?_ ?_ ?_ ?_ ?_ ?_
    any_goals first | k_is | (refine' And.intro ?zz0 (K4.At.of ?zz1 ?zz2 ?zz3); (case zz0 => first | k_is | (constructor <;> k_is)); (case zz1 => k_is); (case zz2 => k_is); (case zz3 => k_is)) | (unfold K4.GN; k_is) | (unfold K4.GC; k_is) | (unfold K4.GF; k_is) | (refine' And.intro ?zz0 ?zz1; (case zz0 => k_is); (case zz1 => exact ⟨_, rfl⟩)) | kit_is | k_exc | (refine K4.CA.mk ?_ ?_ ?_ ?_ ?_ ?_ <;> k_is) | (refine And.intro ⟨_, _, rfl, rfl⟩ ?_; k_keys) | kernel_rfl
