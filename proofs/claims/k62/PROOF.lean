import PyProof.Rows.All
import Wide.All
import OpenK.AllK
import Wide.FinOn
import KE.KDictList
import KE.KDictOf
import KE.KItemsList
import KE.KRevIter
import KE.KRevSl
import KE.KSortTup
import KE.LcSums
import Lean
import PyProof.AttrMissSeq
import PyProof.AutoSeq1
import PyProof.DictRoadsH
import PyProof.DictWalks
import PyProof.EnumStmt
import PyProof.EqAt
import PyProof.EqKinds
import PyProof.ExcInit
import PyProof.FactsAll.range
import PyProof.FactsAll.tuple
import PyProof.FactsAll.zip_1
import PyProof.ListMulRoad
import PyProof.ListOps
import PyProof.ListRange
import PyProof.NeKinds
import PyProof.Rows.SumGenD
import PyProof.SeqRoads2
import PyProof.StrWalks
import PyProof.SumWalk
import PyProof.TupleCall
import PyProof.TupleOfGen
import PyProof.WalksMore
import PyProof.ZipIter
import PySem.Challenge.RW_wantway_k62_shared_once
set_option Elab.async false
set_option linter.all false
set_option maxRecDepth 100000
set_option maxHeartbeats 8000000
set_option tactic.hygienic false
section
local macro_rules|`(tactic|exists $es,*)=>`(tactic|refine ⟨$es,*, ?_⟩)
theorem Y{α:Sort u}{a:α}:a=a:=rfl
abbrev vb:=@List.getElem?_append_right
abbrev vc:=@List.length_singleton
abbrev vd:=@List.getElem?_append_left
abbrev ve:=@List.map_map
abbrev vf:=@Nat.lt_succ_self
abbrev vg:=@List.mem_iff_getElem?
abbrev vi:=@List.lookup_cons
abbrev vj:=@List.eq_nil_of_length_eq_zero
abbrev vk:=@PySem.wpAny_setField_rec
abbrev vm:=@List.mem_of_find?_eq_some
abbrev vo:=@PyProof.Rows.callWith_type1
abbrev vp:=@PySem.W.mg_none_of
abbrev vq:=@PySem.wpAny_call_entry
abbrev vt:=@Nat.sub_self
abbrev vv:=@PySem.wpAny_truthy_bool
abbrev vw:=@List.dropLast_concat_getLast
abbrev vx:=@Nat.lt_irrefl
abbrev vy:=@List.find?_cons
abbrev vz:=@PySem.wpAny_seqItems
abbrev vR:=@Nat.min_eq_left
abbrev vS:=@PySem.wpAny_newObj_type
abbrev vT:=@List.mem_append_left
abbrev vU:=@Nat.le_add_right
abbrev vV:=@Int.toNat_natCast
abbrev vW:=@List.pairwise_iff_getElem
abbrev vX:=@PySem.Heap.size_push
abbrev vY:=@List.mem_iff_getElem
abbrev vZ:=@List.append_assoc
abbrev ja:=@List.append_nil
abbrev jb:=@Nat.le_max_right
abbrev jc:=@Bool.false_eq_true
abbrev jd:=@List.getD_eq_getElem?_getD
abbrev je:=@List.getElem?_eq_none_iff
abbrev jf:=@Nat.le_max_left
abbrev jg:=@Nat.ne_of_gt
abbrev jh:=@List.nodup_append
abbrev ji:=@PySem.mem_of_lookup
abbrev jj:=@PySem.F.slot_zip_next
abbrev jk:=@List.length_drop
abbrev jm:=@List.nodup_nil
abbrev jn:=@PySem.wpAny_standAt
abbrev jo:=@List.map_nil
abbrev jp:=@Int.emod_lt_of_pos
abbrev jq:=@Nat.succ_mul
abbrev jr:=@Bool.eq_iff_iff
abbrev js:=@List.range_succ
abbrev jt:=@List.length_replicate
abbrev ju:=@List.take_sublist
abbrev jw:=@PySem.wpAny_of_eq
abbrev jx:=@PySem.wpAny_passesOwn
abbrev jy:=@PySem.wpAny_specialOf
abbrev jz:=@List.replicate_succ'
abbrev jA:=@Nat.mul_le_mul_right
abbrev jB:=@Nat.lt_or_ge
abbrev jC:=@List.getElem_map
abbrev jD:=@PySem.wpAny_rule
abbrev jE:=@List.nodup_cons
abbrev jF:=@List.foldl_cons
abbrev jG:=@List.forIn_cons
abbrev jH:=@Int.emod_nonneg
abbrev jI:=@PySem.W.kia_one
abbrev jJ:=@List.zip_cons_cons
abbrev jK:=@List.getElem?_replicate
abbrev jL:=@Int.eq_ofNat_of_zero_le
abbrev jM:=@Option.isSome_map
abbrev jN:=@List.take_zero
abbrev jO:=@Bool.not_eq_true'
abbrev jP:=@PySem.wpAny_Call_Name_kw
abbrev jQ:=@PySem.tupleKind_room_in1
abbrev jR:=@Nat.le_of_not_lt
abbrev jS:=@List.not_mem_nil
abbrev jT:=@List.any_eq_true
abbrev jU:=@List.any_cons
abbrev jV:=@List.length_dropLast
abbrev jW:=@List.mem_of_mem_drop
abbrev jX:=@PySem.F.slot_enumerate_next
abbrev jY:=@PySem.wpAny_isInstance
abbrev jZ:=@PySem.wpAny_attempt
abbrev j0:=@List.mem_range
abbrev j3:=@Nat.lt_of_le_of_lt
abbrev j5:=@List.find?_eq_none
abbrev j6:=@Array.forIn_toList
abbrev j7:=@PySem.codeAny_builtin
abbrev j8:=@List.foldl_append
abbrev j9:=@Option.isSome_iff_exists
abbrev qa:=@PySem.F.args_tuple_add_2
abbrev qb:=@List.map_take
abbrev qc:=@Bool.not_true
abbrev qd:=@PySem.F.entry_tuple_add
abbrev qe:=@PySem.call_meets
abbrev qf:=@List.all_eq_true
abbrev qg:=@Nat.le_of_eq
abbrev qh:=@PySem.F.slot_tuple_add
abbrev qi:=@Nat.mod_lt
abbrev qj:=@List.range_succ_eq_map
abbrev qk:=@PySem.wpAny_pyIter_list
abbrev ql:=@PySem.sizeLine_eq
abbrev qm:=@Option.map_some
abbrev qr:=@List.length_nil
abbrev qu:=@PySem.F.args_zip_next_1
abbrev qv:=@PySem.F.slot_dict_get
abbrev qw:=@PySem.plainId_quiet
abbrev qx:=@List.take_append_drop
abbrev qy:=@List.getElem?_set_ne
abbrev qz:=@Nat.le_succ
abbrev qA:=@PySem.F.entry_zip_next
abbrev qB:=@List.forIn_nil
abbrev qC:=@List.filterMap_cons
abbrev qD:=@Array.length_toList
abbrev qF:=@PySem.wpAny_pyIter_rangeiter
abbrev qG:=@PySem.codeAny_mono
abbrev qH:=@PySem.W.callWith_K
abbrev qI:=@PySem.wpAny_typeOf
abbrev qJ:=@List.replicate_succ
abbrev qK:=@List.getElem?_range
abbrev qL:=@List.mem_map_of_mem
abbrev qM:=@List.map_congr_left
abbrev qN:=@PySem.wpAny_execs_nil
abbrev qO:=@List.all_cons
abbrev qP:=@Nat.add_assoc
abbrev qQ:=@List.getElem?_take
abbrev qR:=@List.any_eq_false
abbrev qS:=@Nat.lt_trans
abbrev qT:=@Nat.le_succ_of_le
abbrev qU:=@PySem.wpAny_updateSeq_pair
abbrev qV:=@List.pairwise_map
abbrev qW:=@Nat.sub_zero
abbrev qX:=@List.flatMap_cons
abbrev qY:=@Bool.eq_false_iff
abbrev qZ:=@Nat.lt_trichotomy
abbrev q0:=@PyProof.Rows.slot_tuple_getitem
abbrev ka:=@List.take_length
abbrev kh:=@List.mem_nil_iff
abbrev kq:=@Nat.succ_le_succ
abbrev ZA:=@List.length_map
abbrev ZD:=@List.getElem?_eq_getElem
abbrev ZE:=@PySem.Heap.get?_push_of_some
abbrev ZF:=@List.getElem?_eq_some_iff
abbrev ZG:=@Nat.le_refl
abbrev ZH:=@List.getElem?_map
abbrev ZJ:=@List.mem_of_getElem?
abbrev ZK:=@List.map_append
abbrev ZL:=@List.length_append
abbrev ZM:=@List.mem_cons_of_mem
abbrev ZN:=@List.length_take
abbrev ZO:=@List.size_toArray
abbrev ZP:=@PySem.Heap.lt_size
abbrev ZQ:=@List.mem_singleton
abbrev ZT:=@Option.some.inj
abbrev ZU:=@List.mem_append_right
abbrev ZV:=@List.map_cons
abbrev ZW:=@List.mem_map
abbrev ZX:=@List.mem_append
abbrev ZY:=@PySem.Heap.get?_push_size
abbrev ZZ:=@Bool.and_eq_true
abbrev Za:=@List.mem_cons_self
abbrev Zb:=@Nat.le_trans
abbrev Zc:=@Nat.zero_le
abbrev Zd:=@List.mem_cons
abbrev Ze:=@Nat.ne_of_lt
abbrev Zf:=@List.length_cons
abbrev Zg:=@List.take_of_length_le
abbrev Zh:=@Nat.le_of_lt
abbrev Zi:=@Bool.false_ne_true
abbrev Zj:=@Option.map_eq_some_iff
abbrev Zk:=@List.mem_of_mem_take
abbrev Zl:=@PySem.wpAny_bind
abbrev Zm:=@PySem.wpAny_pure
abbrev Zn:=@PySem.wpAny_mono
abbrev Zo:=@PySem.wpAny_field
abbrev Zp:=@if_pos
abbrev Zq:=@if_neg
abbrev Zr:=@absurd
abbrev Zs:=@Ne.symm
abbrev Zt:=@of_decide_eq_true
abbrev Zu:=@PySem.boot_len
abbrev Zv:=@PySem.PassesOwn.never
abbrev Zw:=@Nat.not_lt_zero
abbrev Zx:=@Nat.lt_of_lt_of_le
abbrev Zy:=@decide_eq_false
abbrev Zz:=@PySem.F.plainAttrs_list
abbrev Z0:=@PySem.F.slot_list_append
abbrev Z1:=@PySem.F.type_list_append
local macro_rules|`(tactic|omega)=>`(tactic|lia)
namespace L2
open PySem PySem.Spec PyProof.Rows
def sl(n:Nat)(h:n<=sizeLine:=by decide):n<=sizeLine:=h
abbrev Key:=Sum Int Str
abbrev kW:=List Expr
abbrev kU:=List (List Int)
abbrev kT:=Str->Nat
abbrev kI:=Array Value
abbrev kH:=Option Addr
abbrev kF:=List Addr
abbrev kE:=List Int
abbrev kD:=Option Int
abbrev kC:=List Str
abbrev kB:=List Value
abbrev kz:=Value->Shared->Prop
abbrev ky:=List (Addr×Obj)
def V0:Key->Value->Bool
 |.inl k,v=>Value.isInt k v
 |.inr x,v=>Value.isStrOf x v
def zN(w:World):Key->Int
 |.inl k=>hashInt k
 |.inr x=>hashStr w x
theorem VN:∀{k:Key}{v:Value},V0 k v=true->(∃i t,k=Sum.inl i/\v=Value.int i t)\/(∃x t,k=Sum.inr x/\v=Value.str x t)
 |.inl i,v,h=>by
  obtain⟨t,e⟩:=Value.isInt_shape (k:=i) (v:=v) h;exact .inl ⟨i,t,Y,e⟩
 |.inr x,v,h=>by
  obtain⟨t,e⟩:=Value.isStrOf_shape (x:=x) (v:=v) h;exact .inr ⟨x,t,Y,e⟩
def RC(i:Int)(t:Tok):V0 (.inl i) (.int i t)=true:=by simp[V0,Value.isInt]
def Wl(x:Str)(t:Tok):V0 (.inr x) (.str x t)=true:=by simp[V0,Value.isStrOf]
def Ab(a b:Int):decide ((Sum.inl a:Key)=Sum.inl b)=(a==b):=by
 by_cases e:a=b
 .subst e;simp
 .have h:¬(Sum.inl a:Key)=Sum.inl b:=λq=>e<|Sum.inl.inj q
  rw[Zy h];exact(beq_eq_false_iff_ne.mpr e).symm
def AY(a b:Str):decide ((Sum.inr a:Key)=Sum.inr b)=decide (a=b):=by
 by_cases e:a=b
 .subst e;simp
 .have h:¬(Sum.inr a:Key)=Sum.inr b:=λq=>e<|Sum.inr.inj q
  rw[Zy h,Zy e]
def Aa(a:Int)(b:Str):decide ((Sum.inl a:Key)=Sum.inr b)=false:=Zy λq=>nomatch q
def AZ(a:Str)(b:Int):decide ((Sum.inr a:Key)=Sum.inl b)=false:=Zy λq=>nomatch q
def Y9(prog:Program)(w:World):PySem.KeyKind prog w Key where
 is:=V0
 hash:=zN w
 inj:=λv a b M G=>by
  rcases VN M with⟨i,t,rfl,rfl⟩|⟨x,t,rfl,rfl⟩
  .rcases VN G with⟨j,u,rfl,e⟩|⟨y,u,rfl,e⟩
   .injection e with Z _;rw[Z]
   .exact nomatch e
  .rcases VN G with⟨j,u,rfl,e⟩|⟨y,u,rfl,e⟩
   .exact nomatch e
   .injection e with Z _;rw[Z]
 byValue:=λk v h=>by
  rcases VN h with⟨i,t,rfl,rfl⟩|⟨x,t,rfl,rfl⟩ <;> rfl
 pyHash:=λJ h=>by
  rcases VN J with⟨i,t,rfl,rfl⟩|⟨x,t,rfl,rfl⟩
  .exact wpAny_pyHash_int h
  .exact wpAny_pyHash_str h
 eqBool:=λL J h=>by
  rcases VN L with⟨i,t,rfl,rfl⟩|⟨x,t,rfl,rfl⟩
  .rcases VN J with⟨j,u,rfl,rfl⟩|⟨y,u,rfl,rfl⟩
   .rw [Ab]at h;exact wpAny_eqBool_int h
   .rw [Aa]at h;exact SeqAt.EqAt.int_str i t y u _ _ _ _ h
  .rcases VN J with⟨j,u,rfl,rfl⟩|⟨y,u,rfl,rfl⟩
   .rw [AZ]at h;exact SeqAt.EqAt.str_int x t j u _ _ _ _ h
   .rw [AY]at h;exact wpAny_eqBool_str h
 «strs»:=λk x t v h=>by
  rcases VN h with⟨i,u,rfl,e⟩|⟨y,u,rfl,e⟩
  .exact nomatch e
  .injection e with Z _
   subst Z;cases v <;> rfl
def NO(Z:Program)(w:World)(i:Int)(t:Tok):(Y9 Z w).is (.inl i) (.int i t)=true:=RC i t
def NN(Z:Program)(w:World)(x:Str)(t:Tok):(Y9 Z w).is (.inr x) (.str x t)=true:=Wl x t
inductive V where
 |non|bl (b:Bool)|int (i:Int)|str (x:Str)|byt (b:Array UInt8)|flt (b:UInt64)|ref (a:Addr)|ty (n:String)
 deriving DecidableEq
abbrev kP:=Option V
abbrev kL:=List V
abbrev kJ:=List (Key×V)
def RelV:V->Value->Prop
 |.non,u=>u=Value.none
 |.bl b,u=>u=Value.bool b
 |.int i,u=>∃t,u=Value.int i t
 |.str x,u=>∃t,u=Value.str x t
 |.byt b,u=>∃t,u=Value.bytes b t
 |.flt b,u=>∃t,u=Value.float b t
 |.ref a,u=>u=Value.ref a
 |.ty n,u=>u=Value.type n
abbrev Vals:List V->List Value->Prop:=Paired RelV
def Vals.length(r:Vals Z J):Z.length=J.length:=Paired.length r
theorem Vals.get:∀{Z:kL}{J:kB}{i:Nat}{x:V},Vals Z J->Z[i]?=some x->∃u,J[i]?=some u/\RelV x u
 |_,_,_,_,.nil,e=>by simp at e
 |_,_,0,_,.cons r _,e=>by simp at e;subst e;exact⟨_,Y,r⟩
 |_,_,i+1,x,.cons _ t,e=>by
  obtain⟨u,L,G⟩:=Vals.get (i:=i) (x:=x) t (by simpa using e);exact⟨u,by simpa using L,G⟩
theorem Vals.set(r:RelV x u):∀{Z:kL}{J:kB}(i:Nat),Vals Z J->Vals (Z.set i x) (J.set i u)
 |_,_,_,.nil=>.nil
 |_,_,0,.cons _ t=>.cons r t
 |_,_,i+1,.cons q t=>.cons q<|Vals.set r i t
theorem Vals.append:∀{J Z:kL}{L G:kB},Vals J L->Vals Z G->Vals (J++ Z) (L++ G)
 |_,_,_,_,.nil,s=>s
 |_,_,_,_,.cons r t,s=>.cons r<|Vals.append t s
theorem Vals.take:∀{Z:kL}{J:kB}(n:Nat),Vals Z J->Vals (Z.take n) (J.take n)
 |_,_,0,_=>.nil
 |_,_,_+1,.nil=>.nil
 |_,_,n+1,.cons r t=>.cons r<|Vals.take n t
theorem Vals.drop:∀{Z:kL}{J:kB}(n:Nat),Vals Z J->Vals (Z.drop n) (J.drop n)
 |_,_,0,r=>r
 |_,_,_+1,.nil=>.nil
 |_,_,n+1,.cons _ t=>Vals.drop n t
def UX:Option V->Option Value->Prop
 |some v,some u=>RelV v u
 |none,none=>True
 |_,_=>False
def KV{κ:Type}:List (κ×V)->List (κ×Value)->Prop:=Paired λ(p:κ×V)(q:κ×Value)=>p.1=q.1/\RelV p.2 q.2
def kV:Key->V
 |.inl i=>.int i
 |.inr x=>.str x
inductive HO where
 /-- a list -/
 |lst (xs:List V)
 /-- a tuple (never changes) -/
 |tup (xs:List V)
 /-- a dict whose keys are ints and texts;one whose keys are tuples of ints and texts (the empty one is both) -/
 |dK (kvs:List (Key×V))|dT (kvs:List (List Key×V))
 /-- a set of ints:its members,its size -/
 |set (S:Int->Bool) (n:Nat)
 /-- an instance of the class at C,its dict at dx,its attributes -/
 |ins (C dx:Addr) (fs:List (Str×V))
 /-- the dict of the instance at x -/
 |own (x:Addr)
 /-- the dict of an exception -/
 |xd (fs:List (Str×V))
 /-- a bound method,f of x -/
 |met (f x:Addr)
 /-- a range object lo,lo+1,.. below hi -/
 |rng (lo hi:Int)
 /-- a thing that is known to the object (the script;a dict while a loop walks it):read,never written while it is so -/
 |frz (o:Obj) (u:HO)
 /-- a code object's table -/
 |tbl (ps:Array Value)
 /-- any other thing,by what is true of its one object (a def of one's own:SetO a S n:=HO.ext λh=>..) -/
 |ext (φ:Heap->Prop)
abbrev Hp:=Addr->Option HO
def upd(H:Hp)(a:Addr)(o:HO):Hp:=λb=>if b=a then some o else H b
def Yf:upd H a o a=some o:=by unfold upd;rw[Zp rfl]
def Yg(h:b≠a):upd H a o b=H b:=by unfold upd;rw[Zq h]
def JQ{H:Hp}(h:H a=some o)(Z:H b=some u)(d:o≠u):a≠b:=by
 intro e;subst e;rw[h]at Z;exact d<|ZT Z
def Yb{H:Hp}(h:H a=some o)(Z:H b=none):a≠b:=by
 intro e;subst e;rw[h]at Z;cases Z
def Wu(h:Heap)(a:Addr)(items:kI):Prop:=∃o,h.get? a=some o/\o.dict=none/\o.cls=.type "tuple" /\∃n,o.data=.seq items n
def Wu.is(x:Wu h a items):IsTup h a items:=let⟨o,G,_,J,Z⟩:=x;⟨o,G,J,Z⟩
def Wu.keeps(x:Wu h a items)(J:∀b o,h.get? b=some o->G.get? b=some o):Wu G a items:=let⟨o,Z,r⟩:=x;⟨o,J a o Z,r⟩
def Wu.new(h:Heap)(items:kI):Wu (h.push {cls:=.type "tuple",data:=.seq items}) h.objs.size items:=⟨_,ZY _ rfl,rfl,rfl,_,rfl⟩
section
variable(P:Program)(w:World)
def VO(H:Hp)(h:Heap)(a:Addr):HO->Prop
 |.lst xs=>xs.length<=sizeLine/\∃(its:kB)(n:Nat),Vals xs its/\h.get? a=some {cls:=.type "list",data:=.seq its.toArray n}
 |.tup xs=>xs.length<=sizeLine/\∃its:kB,Vals xs its/\Wu h a its.toArray
 |.dK kvs=>kvs.length<=sizeLine/\(a==sysModules)=false/\∃vs,KV kvs vs/\h.DictOf (Y9 P w) a vs
 |.dT kvs=>kvs.length<=sizeLine/\(a==sysModules)=false/\∃xs:List (List Key×Addr×Value),
   Paired (λ(p:List Key×V)(q:List Key×Addr×Value)=>p.1=q.1/\H q.2.1=some (.tup<|p.1.map kV)/\RelV p.2 q.2.2) kvs xs/\
   ∃o es ep,h.get? a=some o/\o.ExactDict/\o.data=.dict es ep/\es.toList=xs.map (entryOfKey<|tupleKind<|Y9 P w)/\(xs.map (·.1)).Nodup
 |.set S n=>h.SetOf (intKind P w) a S n
 |.ins C dx fs=>H dx=some (.own a)/\fs.length<=1000/\dx≠a/\h.get? a=some (W.instObj C dx)/\
   ∃mA,h.Ns1 dx mA/\(∀f,UX (fs.lookup f)<|mA f)/\PySem.Within mA (fs.map (·.1))
 |.own _=>∃o,h.get? a=some o
 |.xd fs=>∃mA,h.Ns1 a mA/\∀f,UX (fs.lookup f)<|mA f
 |.rng lo hi=>∃t u v,h.get? a=some {cls:=.type "range",data:=.fields #[.int lo t,.int hi u,.int 1 v]}
 |.frz o u=>h.get? a=some o/\VO H h a u
 |.tbl ps=>h.get? a=some {cls:=.none,data:=.fields ps}
 |.met f x=>h.get? a=some (W.methodObj (.ref f)<|.ref x)
 |.ext φ=>φ h/\(∃o,h.get? a=some o)/\∀h1 h2:Heap,φ h1->(∀o,h1.get? a=some o->h2.get? a=some o)->φ h2
def HOk(H:Hp)(h:Heap):Prop:=∀a o,H a=some o->VO P w H h a o
end
section
def VO.lt(x:VO P w H h a o):a<h.objs.size:=by
 cases o with
 |lst J=>obtain⟨_,_,_,_,e⟩:=x;exact ZP e
 |tup J=>obtain⟨_,_,_,p⟩:=x;exact p.is.lt
 |dK Z=>obtain⟨_,_,_,_,o,_,_,e,_⟩:=x;exact ZP e
 |dT Z=>obtain⟨_,_,_,_,o,_,_,e,_⟩:=x;exact ZP e
 |set S n=>obtain⟨o,_,_,_,e,_⟩:=x;exact ZP e
 |ins C R G=>obtain⟨_,_,_,e,_⟩:=x;exact ZP e
 |own y=>obtain⟨_,e⟩:=x;exact ZP e
 |xd G=>obtain⟨_,⟨_,_,_,e,_⟩,_⟩:=x;exact ZP e
 |rng N O=>obtain⟨_,_,_,e⟩:=x;exact ZP e
 |frz M u=>obtain⟨e,_⟩:=x;exact ZP e
 |tbl L=>exact ZP (show h.get? a=some _ from x)
 |met f y=>exact ZP (show h.get? a=some _ from x)
 |ext φ=>obtain⟨_,⟨_,e⟩,_⟩:=x;exact ZP e
theorem Paired.mapP:∀{J:List α}{Z:List β},Paired F J Z->(∀a b,F a b->G a b)->Paired G J Z
 |_,_,.nil,_=>.nil
 |_,_,.cons r t,f=>.cons (f _ _ r)<|Paired.mapP t f
def VO.stay(x:VO P w H h a o)(k:∀b u,(b=a\/H b=some (.own a))->h.get? b=some u->T.get? b=some u)(I:∀b,H b=some (.own a)->D b=some (.own a))(A:∀b M,H b=some (.tup M)->D b=some (.tup M)):VO P w D T a o:=by
 induction o with
 |lst M=>obtain⟨z,L,n,r,e⟩:=x;exact⟨z,L,n,r,k _ _ (.inl Y) e⟩
 |tup M=>obtain⟨z,L,r,Z,e,c⟩:=x;exact⟨z,L,r,Z,k _ _ (.inl Y) e,c⟩
 |dK R=>obtain⟨z,y,E,r,Z,J,G,e,c⟩:=x;exact⟨z,y,E,r,Z,J,G,k _ _ (.inl Y) e,c⟩
 |dT R=>
  obtain⟨z,y,M,r,Z,J,G,e,c⟩:=x;exact⟨z,y,M,Paired.mapP r λp q z=>⟨z.1,A _ _ z.2.1,z.2.2⟩,Z,J,G,k _ _ (.inl Y) e,c⟩
 |set S n=>obtain⟨Z,J,G,t,e,c⟩:=x;exact⟨Z,J,G,t,k _ _ (.inl Y) e,c⟩
 |ins C m U=>
  obtain⟨d,z,F,e,O,⟨N,J,G,X,c⟩,r⟩:=x;exact⟨I _ d,z,F,k _ _ (.inl Y) e,O,⟨N,J,G,k _ _ (.inr d) X,c⟩,r⟩
 |own y=>obtain⟨Z,e⟩:=x;exact⟨Z,k _ _ (.inl Y) e⟩
 |xd U=>obtain⟨O,⟨N,J,G,e,c⟩,r⟩:=x;exact⟨O,⟨N,J,G,k _ _ (.inl Y) e,c⟩,r⟩
 |rng Q j=>obtain⟨t,u,v,e⟩:=x;exact⟨t,u,v,k _ _ (.inl Y) e⟩
 |frz Z u ih=>obtain⟨e,q⟩:=x;exact⟨k _ _ (.inl Y) e,ih q⟩
 |tbl B=>
  have e:h.get? a=some {cls:=.none,data:=.fields B}:=x;show T.get? a=some {cls:=.none,data:=.fields B};exact k a _ (.inl Y) e
 |met f y=>
  have e:h.get? a=some (W.methodObj (.ref f)<|.ref y):=x;show T.get? a=some (W.methodObj (.ref f)<|.ref y);exact k a _ (.inl Y) e
 |ext φ=>obtain⟨p,⟨o,e⟩,st⟩:=x;exact⟨st _ _ p λo q=>k _ _ (.inl Y) q,⟨o,k _ _ (.inl Y) e⟩,st⟩
def HOk.lt(x:HOk P w H h)(e:H a=some o):a<h.objs.size:=(x a o e).lt
def HOk.fresh(x:HOk P w H h)(e:h.objs.size<=a):H a=none:=by
 cases q:H a with
 |none=>rfl
 |some u=>exact Zr (Zx (x.lt q) e)<|vx _
def HOk.kept(x:HOk P w H h)(k:∀b u,h.get? b=some u->Z.get? b=some u):HOk P w H Z:=λa o e=>
 (x a o e).stay (λb u _ q=>k b u q) (λ_ q=>q) λ_ _ q=>q
def HOk.laid(x:HOk P w H h)(k:∀b u,h.get? b=some u->h'.get? b=some u)(G:h.objs.size<=a)(Z:VO P w (upd H a o) h' a o):HOk P w (upd H a o) h':=λb u e=>by
 have J:=x.fresh G
 by_cases hb:b=a
 .subst hb;rw[Yf]at e;cases e;exact Z
 .rw [Yg hb]at e
  exact(x b u e).stay (λc v _ q=>k c v q) (λc q=>by rw[Yg (Yb q J)];exact q) λc L q=>by rw[Yg (Yb q J)];exact q
end
def Rd(H:Hp)(a:Addr)(u:HO):Prop:=H a=some u \/ ∃o,H a=some (.frz o u)
def Rd.ok(r:Rd H a u)(x:HOk P w H h):VO P w H h a u:=by
 rcases r with r|⟨o,r⟩
 .exact x a u r
 .obtain ⟨_,q⟩:=x a _ r
  exact q
def Mut:Option HO->Prop
 |some (.lst _)=>True
 |some (.dK _)=>True
 |some (.dT _)=>True
 |some (.set _ _)=>True
 |some (.ins _ _ _)=>True
 |some (.ext _)=>True
 |_=>False
section
def HOk.write(B:HOk P w H h)(L:Mut (H x))(T:e=x\/H e=some (.own x))(k:∀b u,b≠e->h.get? b=some u->R.get? b=some u)(O:∃u,R.get? e=some u)(N:VO P w (upd H x o') R x o'):HOk P w (upd H x o') R:=λb u q=>by
 have Z:∀c y,H c=some (.own y)->c≠x:=λc y r z=>by subst z;rw[r]at L;exact L
 have J:∀c G,H c=some (.tup G)->c≠x:=λc G r z=>by subst z;rw[r]at L;exact L
 by_cases hb:b=x
 .subst hb;rw[Yf]at q;cases q;exact N
 .rw [Yg hb]at q
  by_cases hbe:b=e
  .have q':H b=some (.own x):=by
    rcases T with z|z
    .exact Zr (hbe.trans z) hb
    .rw [hbe];exact z
   rw[q]at q';cases q';obtain⟨v,D⟩:=O;exact⟨v,by rw[hbe];exact D⟩
  .refine (B b u q).stay (λc v M r=>k c v ?_ r) (λc r=>by rw[Yg (Z c b r)];exact r) λc G r=>by rw[Yg (J c G r)];exact r
   rcases M with rfl|M
   .exact hbe
   .rintro rfl
    rcases T with z|z
    .exact Z c b M z
    .rw [M]at z;cases z;exact hb Y
end
structure Un(fs ex:List Addr)(H H':Hp)(h h':Heap):Prop where
 keep:∀b o,h.get? b=some o->H b=none->b∉fs->b∉ex->h'.get? b=some o
 slot:∀b o,h.get? b=some o->H b=none->b∈fs->b∉ex->∃sl,h'.get? b=some {o with slots:=sl}
 free:∀b o,h.get? b=some o->H b=none->b∉ex->H' b=none
 there:∀b o,h.get? b=some o->b∉ex->∃o',h'.get? b=some o'
 tups:∀b xs,H b=some (.tup xs)->H' b=some (.tup xs)
 frzs:∀b o u,H b=some (.frz o u)->H' b=some (.frz o u)
 tbls:∀b ps,H b=some (.tbl ps)->∃more,H' b=some (.tbl (ps++ more))
section
variable{fs fs' ex ex':kF}{H H1 H2:Hp}{h h1 h2 h':Heap}{a x e:Addr}{o:HO}
def Un.any(u:Un fs ex H H1 h h1)(q:h.get? b=some ob)(n:H b=none)(J:b∉ex):∃sl,h1.get? b=some {ob with slots:=sl}:=by
 by_cases hb:b∈fs
 .exact u.slot b ob q n hb J
 .exact ⟨ob.slots,u.keep b ob q n hb J⟩
def Un.kept(k:∀b u,h.get? b=some u->h'.get? b=some u):Un fs ex H H h h':=
 ⟨λb Z q _ _ _=>k b Z q,λb Z q _ _ _=>⟨Z.slots,k b Z q⟩,λ_ _ _ n _=>n,λb Z q _=>⟨Z,k b Z q⟩,λ_ _ q=>q,λ_ _ _ q=>q,λ_ J q=>⟨#[],by rw[q];simp⟩⟩
def Un.refl:Un fs ex H H h h:=Un.kept λ_ _ q=>q
def Un.laid(k:∀b u,h.get? b=some u->h'.get? b=some u)(G:h.objs.size<=a)(Z:H a=none):Un fs ex H (upd H a o) h h' where
 keep:=λb u q _ _ _=>k b u q
 slot:=λb u q _ _ _=>⟨u.slots,k b u q⟩
 free:=λb u q n _=>by rw[Yg (Ze<|Zx (ZP q) G)];exact n
 there:=λb u q _=>⟨u,k b u q⟩
 tups:=λb J q=>by rw[Yg (Yb q Z)];exact q
 frzs:=λb u J q=>by rw[Yg (Yb q Z)];exact q
 tbls:=λb L q=>⟨#[],by rw[Yg (Yb q Z),q];simp⟩
def Un.write(Z:Mut (H x))(R:e=x\/H e=some (.own x))(k:∀b u,b≠e->h.get? b=some u->h'.get? b=some u)(G:∃u,h'.get? e=some u):Un fs ex H (upd H x o) h h':=by
 have L:∀b,H b=none->b≠x:=λb n z=>by subst z;rw[n]at Z;exact Z
 have M:∀b,H b=none->b≠e:=λb n z=>by
  subst z;rcases R with r|r
  .exact L b n r
  .rw [n]at r;cases r
 have J:∀b u,H b=some u->¬Mut (some u)->b≠x:=λb u q O z=>by subst z;rw[q]at Z;exact O Z
 refine⟨λb u q n _ _=>k b u (M b n) q,λb u q n _ _=>⟨u.slots,k b u (M b n) q⟩,λb u q n _=>by rw[Yg (L b n)];exact n,λb u q _=>?_,
  λb N q=>by rw[Yg (J b _ q λz=>z)];exact q,λb u N q=>by rw[Yg (J b _ q λz=>z)];exact q,λb T q=>⟨#[],by rw[Yg (J b _ q λz=>z),q];simp⟩⟩
 by_cases hbe:b=e
 .subst hbe;exact G
 .exact ⟨u,k b u hbe q⟩
end
def trk(h:Heap)(H:Hp):kF:=(List.range h.objs.size).filter λa=>(H a).isSome
def Mf(h:Heap)(H:Hp):Heap:=W.hideAll h<|trk h H
def FE(h:Heap)(H:Hp):(Mf h H).objs.size=h.objs.size:=W.hideAll_size _ _
def LN(e:h.get? b=some o)(n:H b=none):(Mf h H).get? b=some o:=
 W.hideAll_get _ e λZ=>by
  have q:(H b).isSome=true:=(List.mem_filter.mp Z).2;rw[n]at q;simp at q
def Ph(e:(Mf h H).get? b=some o):h.get? b=some o/\H b=none:=by
 have Z:h.get? b=some o:=W.of_hideAll (trk h H) e;exists Z
 cases q:H b with
 |none=>rfl
 |some x=>
  have J:b∈trk h H:=List.mem_filter.mpr ⟨j0.mpr<|ZP Z,by simp[q]⟩;have z:(Mf h H).get? b=none:=W.hideAll_none (trk h H) J;rw[z]at e;cases e
structure Mod(K:W.Frag)(mg:Str->Option Value)(base:Heap):Prop where
 kin:K.In base
 glob:base.Ns mainGlobals mg
 blt:∃mb,base.Ns builtinsNs mb/\∀x:Str,x≠"__name__" ->mb x=bootBuiltins x
 nolimit:base.NoLimit
structure Cx where
 prog:Program
 w:World
 K:W.Frag
 mg:Str->Option Value
 base:Heap
 A:Around
 N:List Str
 s₀:Shared
 H₀:Hp
 env:Env
 outer:List Env
 stack:List Env
 ex:List Addr
 fn:Str->Bool
 calm:Bool
 pn:List (Addr×Obj)
 xe:Value->Shared->Prop
def frs(l:List Env):kF:=l.filterMap (·.frame)
abbrev Cx.fs(X:Cx):kF:=frs X.outer
def Vis(sc:Scope)(x:Str):Prop:=sc.names.lookup x=some .local\/sc.names.lookup x=some .cell\/sc.names.lookup x=some .free
def Loc(sc:Scope)(x:Str):Prop:=sc.names.lookup x=some .local\/sc.names.lookup x=some .cell
def Look(env:Env)(h:Heap)(m:Str->Option Value)(x:Str)(u:Value):Prop:=
 (env.kindOf x=some .local/\m x=some u)\/((env.kindOf x=some .cell\/env.kindOf x=some .free)/\∃c,env.cells.lookup x=some c/\h.IsCell c (some u))
structure Cx.Ok(X:Cx):Prop where
 mod:Mod X.K X.mg X.base
 kind:X.env.scope.kind=.function
 glob:X.env.globals=mainGlobals
 blt:X.env.builtins=builtinsNs
 above:X.s₀.heap.objs.size<=X.env.locals
 inj:∀x y c,X.env.cells.lookup x=some c->X.env.cells.lookup y=some c->x=y
 has:∀x,(X.env.kindOf x=some .cell\/X.env.kindOf x=some .free)->∃c,X.env.cells.lookup x=some c
 cab:∀x c,X.fn x=true->X.env.cells.lookup x=some c->X.s₀.heap.objs.size<=c
 hd:X.calm=true->X.A.handled=none
 frames:X.A.frames=some X.stack
 stk:X.stack=X.outer\/(X.stack=X.env::X.outer/\X.env.frame=some X.env.locals)
 exf:∀b∈X.ex,b≠X.env.locals/\∀x c,X.env.cells.lookup x=some c->c≠b
 bs:∀b o,X.base.get? b=some o->X.s₀.heap.get? b=some o/\X.H₀ b=none
 bsz:X.base.objs.size<=X.s₀.heap.objs.size
 noex:∀b o,X.base.get? b=some o->b∉X.ex
 exfs:∀b∈X.ex,b∉X.fs
 funs:X.s₀.heap.FunFrames X.base X.outer
 frf:∀b∈X.fs,X.H₀ b=none
structure Inv(X:Cx)(pins:List (Addr×Obj))(U:List (Option V))(H:Hp)(s:Shared):Prop where
 ok:X.Ok
 os:s.os=X.s₀.os
 bare:AllBare s.gens
 base:Un X.fs X.ex X.H₀ H X.s₀.heap s.heap
 loc:∃m,s.heap.Ns X.env.locals m/\∀(i:Nat)(x:Str)(v:V),X.N[i]?=some x->U[i]?=some (some v)->Vis X.env.scope x->∃u,RelV v u/\Look X.env s.heap m x u
 cell:∀x c,X.env.cells.lookup x=some c->∃v,s.heap.IsCell c v
 free:H X.env.locals=none
 freeC:∀x c,X.env.cells.lookup x=some c->H c=none
 pin:∀p∈X.pn++ pins,s.heap.get? p.1=some p.2/\H p.1=none/\p.1≠X.env.locals/\p.1∉X.fs/\∀v,p.2.data≠.cell v
 hok:HOk X.prog X.w H s.heap
 len:U.length=X.N.length
section
variable{X:Cx}
def Cx.Ok.nofr(Z:X.Ok)(e:X.base.get? b=some o):b∉X.fs:=λJ=>by
 have:=(Z.funs.mem J).1;rw[e]at this;cases this
def Inv.bs(I:Inv X Z U H s):∀b o,X.base.get? b=some o->s.heap.get? b=some o/\H b=none:=λb o e=>
 ⟨I.base.keep b o (I.ok.bs b o e).1 (I.ok.bs b o e).2 (I.ok.nofr e)<|I.ok.noex b o e,I.base.free b o (I.ok.bs b o e).1 (I.ok.bs b o e).2<|I.ok.noex b o e⟩
def Inv.bk(I:Inv X Z U H s):∀b o,X.base.get? b=some o->s.heap.get? b=some o:=λb o e=>(I.bs b o e).1
def Inv.mod(I:Inv X Z U H s):Mod X.K X.mg X.base:=I.ok.mod
def Inv.kIn(I:Inv X Z U H s):X.K.In s.heap:=I.ok.mod.kin.keeps I.bk
def Inv.lt(I:Inv X Z U H s):X.env.locals<s.heap.objs.size:=let⟨_,J,_⟩:=I.loc;J.lt
def Inv.sz(I:Inv X Z U H s):X.s₀.heap.objs.size<=s.heap.objs.size:=Zb I.ok.above<|Zh I.lt
def Inv.nofs(I:Inv X Z U H s)(h:s.heap.objs.size<=a):a∉X.fs:=λG=>by
 obtain⟨_,o,J,_⟩:=I.ok.funs.mem G;exact Zr (Zx (ZP J)<|Zb I.sz h)<|vx _
def Inv.cne(I:Inv X G U H s):∀x c,X.env.cells.lookup x=some c->c≠X.env.locals:=λx c e z=>by
 obtain⟨v,o,L,hd⟩:=I.cell x c e;obtain⟨m,⟨M,N,O,Z,J,_⟩,_⟩:=I.loc;rw[z,Z]at L;cases L;rw[J]at hd;cases hd
def Inv.funs(I:Inv X M U H s):s.heap.FunFrames X.base X.outer:=by
 have G:∀(l:List Env),(∀b∈frs l,b∈X.fs)->X.s₀.heap.FunFrames X.base l->s.heap.FunFrames X.base l:=by
  intro l
  induction l with
  |nil=>intro _ _;trivial
  |cons E r ih=>
   intro N B;obtain⟨D,⟨L,o,Z,T,R,hd⟩,O⟩:=B;have hL:L∈X.fs:=N L (by unfold frs;rw[qC,Z];exact Za);obtain⟨sl,e⟩:=I.base.slot L o R (I.ok.frf L hL) hL λz=>I.ok.exfs L z hL;exact⟨D,⟨L,_,Z,T,e,hd⟩,ih (λb J=>N b (by unfold frs;rw[qC,Z];exact ZM _ J)) O⟩
 exact G X.outer (λ_ J=>J) I.ok.funs
def Inv.stack(I:Inv X Z U H s):s.heap.FunFrames X.base X.stack:=by
 rcases I.ok.stk with e|⟨e,G⟩
 .rw [e];exact I.funs
 .rw [e]
  obtain⟨m,J,_⟩:=I.loc;refine .cons (by rw[I.ok.kind];decide) G J ?_ I.funs;exact Heap.get?_none_of_le<|Zb I.ok.bsz I.ok.above
def Inv.stkSub(I:Inv X J U H s):∀b∈frs X.stack,b∈X.env.locals::X.fs:=λb Z=>by
 rcases I.ok.stk with e|⟨e,G⟩
 .rw [e]at Z;exact ZM _ Z
 .rw [e]at Z
  unfold frs at Z;rw[qC,G]at Z;exact Z
def Inv.stkFree(I:Inv X J U H s):∀b∈frs X.stack,H b=none:=λb Z=>by
 rcases Zd.mp (I.stkSub b Z)with e|Z
 .rw [e];exact I.free
 .obtain ⟨_,o,ho,_⟩:=I.ok.funs.mem Z
  exact I.base.free b o ho (I.ok.frf b Z) λz=>I.ok.exfs b z Z
def Inv.step{ch:kF}(I:Inv X O U H s)(G:∀b∈ch,(b∈X.ex\/X.s₀.heap.objs.size<=b)/\b≠X.env.locals/\(∀x c,X.env.cells.lookup x=some c->c≠b)/\∀p∈X.pn++ O,p.1≠b)(keep:∀b o,b≠X.env.locals->b∉X.fs->b∉ch->s.heap.get? b=some o->H b=none->h'.get? b=some o)(slot:∀b o,b≠X.env.locals->b∈X.fs->b∉ch->s.heap.get? b=some o->H b=none->∃sl,h'.get? b=some {o with slots:=sl})(free:∀b o,b∉ch->s.heap.get? b=some o->H b=none->H' b=none)(there:∀b o,b∉ch->s.heap.get? b=some o->∃E,h'.get? b=some E)(B:∀b N,H b=some (.tup N)->H' b=some (.tup N))(A:∀b o u,H b=some (.frz o u)->H' b=some (.frz o u))(D:∀b C,H b=some (.tbl C)->∃more,H' b=some (.tbl<|C++ more))(t:∀m,s.heap.Ns X.env.locals m->h'.Ns X.env.locals m)(j:HOk X.prog X.w H' h')(f:AllBare g'):
  Inv X O U H' {s with heap:=h',gens:=g',drawn:=d',toks:=t'}:=by
 have F:∀b o,X.s₀.heap.get? b=some o->b≠X.env.locals:=λb o e=>Ze<|Zx (ZP e) I.ok.above
 have L:∀b o,X.s₀.heap.get? b=some o->b∉X.ex->b∉ch:=λb o e Z R=>by
  rcases(G b R).1 with z|z
  .exact Z z
  .exact Zr (Zx (ZP e) z) (vx _)
 have cellK:∀x c,X.env.cells.lookup x=some c->∀v,s.heap.IsCell c v->h'.IsCell c v:=λx c e v ⟨o,T,hd⟩=>by
  have J:c∉ch:=λz=>(G c z).2.2.1 x c e rfl
  by_cases hc:c∈X.fs
  .obtain ⟨sl,q⟩:=slot c o (I.cne x c e) hc J T<|I.freeC x c e
   exact⟨_,q,hd⟩
  .exact ⟨o,keep c o (I.cne x c e) hc J T<|I.freeC x c e,hd⟩
 refine⟨I.ok,I.os,f,⟨λb o e n R Z=>?_,λb o e n R Z=>?_,λb o e n Z=>?_,λb o e Z=>?_,λb N e=>B b N<|I.base.tups b N e,λb o N e=>A b o N<|I.base.frzs b o N e,λb C e=>?_⟩,?_,λx c e=>?_,?_,λx c e=>?_,λp y=>?_,j,I.len⟩
 .exact keep b o (F b o e) R (L b o e Z) (I.base.keep b o e n R Z) (I.base.free b o e n Z)
 .obtain ⟨sl,M⟩:=I.base.slot b o e n R Z
  obtain⟨Q,S⟩:=slot b _ (F b o e) R (L b o e Z) M<|I.base.free b o e n Z;exact⟨Q,S⟩
 .obtain ⟨E,M⟩:=I.base.there b o e Z
  exact free b E (L b o e Z) M<|I.base.free b o e n Z
 .obtain ⟨E,M⟩:=I.base.there b o e Z
  exact there b E (L b o e Z) M
 .obtain ⟨m1,M⟩:=I.base.tbls b C e
  obtain⟨g,S⟩:=D b _ M;exact⟨m1++ g,by rw[S,Array.append_assoc]⟩
 .obtain ⟨m,hn,hl⟩:=I.loc
  refine⟨m,t m hn,λi x v M S w=>?_⟩;obtain⟨u,r,l⟩:=hl i x v M S w;exists u,r;rcases l with l|⟨k,c,e,z⟩
  .exact .inl l
  .exact .inr ⟨k,c,e,cellK x c e _ z⟩
 .obtain ⟨v,z⟩:=I.cell x c e
  exact⟨v,cellK x c e v z⟩
 .obtain ⟨m,⟨o,_,_,T,_⟩,_⟩:=I.loc
  exact free _ o (λz=>(G _ z).2.1 Y) T I.free
 .obtain ⟨v,o,T,hd⟩:=I.cell x c e
  exact free c o (λz=>(G c z).2.2.1 x c e Y) T<|I.freeC x c e
 .obtain ⟨e,n,ne,nf,d⟩:=I.pin p y
  have J:p.1∉ch:=λz=>(G p.1 z).2.2.2 p y rfl;exact⟨keep p.1 p.2 ne nf J e n,free p.1 p.2 J e n,ne,nf,d⟩
def Inv.un(I:Inv X Z U H s)(u:Un X.fs [] H H' s.heap h')(G:HOk X.prog X.w H' h'):Inv X Z U H' {s with heap:=h',toks:=t'}:=by
 obtain⟨m,⟨o,E,F,O,r⟩,_⟩:=id I.loc;obtain⟨sl,hL⟩:=u.any O I.free<|by simp
 exact I.step (g':=s.gens) (d':=s.drawn) (ch:=[]) (λ_ z=>nomatch z) (λb o _ L _ e n=>u.keep b o e n L<|by simp) (λb o _ L _ e n=>u.slot b o e n L<|by simp) (λb o _ e n=>u.free b o e n<|by simp) (λb o _ e=>u.there b o e<|by simp) u.tups u.frzs u.tbls (λD T=>by
  obtain⟨B,M,N,J,R⟩:=T;rw[O]at J;cases J;exact⟨_,M,N,hL,R⟩) G I.bare
def Inv.call(I:Inv X Z U H s)(u:Un (frs X.stack) ch H T s.heap h')(M:HOk X.prog X.w T h')(E:AllBare g')(L:∀b∈ch,(b∈X.ex\/X.s₀.heap.objs.size<=b)/\b≠X.env.locals/\(∀x c,X.env.cells.lookup x=some c->c≠b)/\∀p∈X.pn++ Z,p.1≠b):
  Inv X Z U T {s with heap:=h',gens:=g',drawn:=d',toks:=t'}:=by
 obtain⟨m,⟨o,C,P,R,r⟩,_⟩:=id I.loc;obtain⟨sl,hL⟩:=u.any R I.free λz=>(L _ z).2.1 rfl
 exact I.step (ch:=ch) L (λb o hL F J e n=>u.keep b o e n (λz=>(Zd.mp<|I.stkSub b z).elim hL F) J) (λb o _ _ J e n=>u.any e n J) (λb o J e n=>u.free b o e n J) (λb o J e=>u.there b o e J) u.tups u.frzs u.tbls (λS D=>by
  obtain⟨A,N,O,G,B⟩:=D;rw[R]at G;cases G;exact⟨_,N,O,hL,B⟩) M E
def Inv.turned(I:Inv X Z U H s)(k:∀b o,b≠it->s.heap.get? b=some o->B.get? b=some o)(L:H it=none)(hL:it≠X.env.locals)(T:it∈X.ex\/X.s₀.heap.objs.size<=it)(R:∀x c,X.env.cells.lookup x=some c->c≠it)(O:∀p∈X.pn++ Z,p.1≠it):Inv X Z U H {s with heap:=B,toks:=t'}:=by
 have G:∀b u,H b=some u->b≠it:=λb u e z=>by rw[z,L]at e;cases e
 refine I.step (g':=s.gens) (d':=s.drawn) (ch:=[it]) (λb N=>?_) (λb o _ _ J e _=>k b o (λz=>J<|by simp[z]) e) (λb o _ _ J e _=>⟨o.slots,k b o (λz=>J<|by simp[z]) e⟩) (λ_ _ _ _ n=>n)
  (λb o J e=>⟨o,k b o (λz=>J<|by simp[z]) e⟩) (λ_ _ e=>e) (λ_ _ _ e=>e) (λb D e=>⟨#[],by rw[e];simp⟩) (λm M=>?_) (λb u e=>?_) I.bare
 .have e:b=it:=by simpa using N
  subst e;exact⟨T,hL,R,O⟩
 .obtain ⟨o,es,ep,ho,r⟩:=M
  exact⟨o,es,ep,k _ o (Zs hL) ho,r⟩
 .refine (I.hok b u e).stay (λc v J q=>k c v ?_ q) (λ_ q=>q) λ_ _ q=>q
  rcases J with z|z
  .rw [z];exact G b u e
  .exact G c _ z
def Inv.tok(I:Inv X Z U H s)(t:Nat):Inv X Z U H {s with toks:=t}:=I.un (h':=s.heap) (t':=t) Un.refl I.hok
def Inv.kept(I:Inv X Z U H s)(k:∀b u,s.heap.get? b=some u->J.get? b=some u):Inv X Z U H {s with heap:=J,toks:=t'}:=I.un (Un.kept k)<|I.hok.kept k
def Inv.laid(I:Inv X Z U H s)(k:∀b u,s.heap.get? b=some u->h'.get? b=some u)(G:s.heap.objs.size<=a)(J:VO X.prog X.w (upd H a o) h' a o):
  Inv X Z U (upd H a o) {s with heap:=h',toks:=t'}:=I.un (Un.laid k G<|I.hok.fresh G)<|I.hok.laid k G J
def Inv.write(I:Inv X Z U H s)(M:Mut (H x))(N:e=x\/H e=some (.own x))(k:∀b u,b≠e->s.heap.get? b=some u->L.get? b=some u)(J:∃u,L.get? e=some u)(G:VO X.prog X.w (upd H x o) L x o):Inv X Z U (upd H x o) {s with heap:=L,toks:=O}:=I.un (Un.write M N k J)<|I.hok.write M N k J G
def Inv.weak(I:Inv X Z U H s)(L:U'.length=U.length)(w:∀(i:Nat) v,U'[i]?=some (some v)->U[i]?=some (some v)):Inv X Z U' H s:=
 ⟨I.ok,I.os,I.bare,I.base,let⟨m,G,J⟩:=I.loc;⟨m,G,λi x v O N M=>J i x v O (w i v N) M⟩,I.cell,I.free,I.freeC,I.pin,I.hok,L.trans I.len⟩
def Inv.pins_of(I:Inv X Z U H s)(h:∀p∈pins',s.heap.get? p.1=some p.2/\H p.1=none/\p.1≠X.env.locals/\p.1∉X.fs/\∀v,p.2.data≠.cell v):Inv X pins' U H s:=
 ⟨I.ok,I.os,I.bare,I.base,I.loc,I.cell,I.free,I.freeC,λp J=>(ZX.mp J).elim (λz=>I.pin p<|vT _ z)<|h p,I.hok,I.len⟩
def NL{N:kC}(Z:N.Nodup){i j:Nat}(a:N[i]?=some x)(b:N[j]?=some x):i=j:=by
 obtain⟨M,G⟩:=ZF.mp a;obtain⟨L,J⟩:=ZF.mp b;exact(List.getElem_inj Z).mp<|G.trans J.symm
def Tw(I:Inv X S U H s)(hN:X.N.Nodup)(t:X.N[i]?=some x)(L:Loc X.env.scope x)(r:RelV v u)(h:∀s',Inv X S (U.set i<|some v) H s'->(∃a,Heap.SameBut a s.heap s'.heap/\(a=X.env.locals\/X.env.cells.lookup x=some a))->Q () s')(hf:X.fn x=true\/X.env.scope.names.lookup x=some .local:=by first|exact .inl Y|exact .inr Y|assumption):wpAny M A (storeName X.env x u) Q E s:=by
 obtain⟨m,hn,hl⟩:=id I.loc;have g:(X.env.scope.kind==.class || (X.env.scope.kind==.module && X.env.locals !=X.env.globals))=false:=by rw[I.ok.kind];rfl
 have T:i<U.length:=by rw[I.len];exact(ZF.mp t).1
 have D:=I.cne
 have tracked:∀{a:Addr}{F:Heap},(∃o,s.heap.get? a=some o/\H a=none)->Heap.SameBut a s.heap F->HOk X.prog X.w H F:=λ{a F} ha Z b ob e=>by
  obtain⟨_,_,N⟩:=ha;refine(I.hok b ob e).stay (λc w G q=>(Z.2 c ?_).trans q) (λ_ q=>q) λ_ _ q=>q;rintro rfl;rcases G with rfl|G
  .rw [N]at e;cases e
  .rw [N]at G;cases G
 rcases L with R|R
 .refine wpAny_storeName_local R hn (λF G1 Z=>?_) g
  obtain⟨oL,_,_,J2,_⟩:=id hn;refine h _ ⟨I.ok,I.os,I.bare,⟨λb o e n B L=>?_,λb o e n B L=>?_,I.base.free,λb o e L=>?_,I.base.tups,I.base.frzs,I.base.tbls⟩,⟨_,G1,λj y v' J O e3=>?_⟩,λy c e=>?_,I.free,I.freeC,λp hp=>?_,tracked ⟨oL,J2,I.free⟩ Z,by simpa using I.len⟩ ⟨_,Z,.inl Y⟩
  .exact (Z.2 b<|Ze<|Zx (ZP e) I.ok.above).trans (I.base.keep b o e n B L)
  .obtain ⟨sl,J⟩:=I.base.slot b o e n B L
   exact⟨sl,(Z.2 b<|Ze<|Zx (ZP e) I.ok.above).trans J⟩
  .obtain ⟨o',J⟩:=I.base.there b o e L
   exact⟨o',(Z.2 b<|Ze<|Zx (ZP e) I.ok.above).trans J⟩
  .by_cases hj:j=i
   .subst hj
    rw[t]at J;cases J;rw[List.getElem?_set_self T]at O;cases O;exact⟨u,r,.inl ⟨R,by simp⟩⟩
   .rw [qy (Zs hj)]at O
    obtain⟨u',r',q⟩:=hl j y v' J O e3;exists u',r';rcases q with⟨k,e⟩|⟨k,c,e,z⟩
    .refine .inl ⟨k,?_⟩
     have:y≠x:=λe=>hj<|NL hN J<|e ▸ t;simp[this,e]
    .exact .inr ⟨k,c,e,z.sameBut Z<|D y c e⟩
  .obtain ⟨w,z⟩:=I.cell y c e
   exact⟨w,z.sameBut Z<|D y c e⟩
  .obtain ⟨e,n,ne,nf,d⟩:=I.pin p hp
   exact⟨(Z.2 p.1 ne).trans e,n,ne,nf,d⟩
 .have hfn:X.fn x=true:=by
   rcases hf with z|z
   .exact z
   .rw [z]at R;cases R
  obtain⟨c,G⟩:=I.ok.has x<|.inl R;obtain⟨w,z⟩:=I.cell x c G;refine wpAny_storeName_cell I.ok.kind R G z λF f Z=>?_;obtain⟨oc,P,C⟩:=id z;refine h {s with heap:=F} ⟨I.ok,I.os,I.bare,⟨λb o e n B L=>?_,λb o e n B L=>?_,I.base.free,λb o e L=>?_,I.base.tups,I.base.frzs,I.base.tbls⟩,⟨m,hn.sameBut Z<|Zs<|D x c G,λj y v' J O e3=>?_⟩,λy l e=>?_,I.free,I.freeC,λp hp=>?_,tracked ⟨oc,P,I.freeC x c G⟩ Z,by simpa using I.len⟩ ⟨c,Z,.inr G⟩
  .exact (Z.2 b<|Ze<|Zx (ZP e)<|I.ok.cab x c hfn G).trans (I.base.keep b o e n B L)
  .obtain ⟨sl,J⟩:=I.base.slot b o e n B L
   exact⟨sl,(Z.2 b<|Ze<|Zx (ZP e)<|I.ok.cab x c hfn G).trans J⟩
  .obtain ⟨o',J⟩:=I.base.there b o e L
   exact⟨o',(Z.2 b<|Ze<|Zx (ZP e)<|I.ok.cab x c hfn G).trans J⟩
  .by_cases hj:j=i
   .subst hj
    rw[t]at J;cases J;rw[List.getElem?_set_self T]at O;cases O;exact⟨u,r,.inr ⟨.inl R,c,G,f⟩⟩
   .rw [qy (Zs hj)]at O
    obtain⟨u',r',q⟩:=hl j y v' J O e3;exists u',r';rcases q with q|⟨k,l,e,z'⟩
    .exact .inl q
    .refine .inr ⟨k,l,e,z'.sameBut Z ?_⟩
     rintro rfl;exact hj<|NL hN J<|I.ok.inj _ _ _ e G ▸ t
  .by_cases hcc:l=c
   .subst hcc;exact⟨_,f⟩
   .obtain ⟨w2,z2⟩:=I.cell y l e
    exact⟨w2,z2.sameBut Z hcc⟩
  .obtain ⟨e,n,ne,nf,d⟩:=I.pin p hp
   refine⟨(Z.2 p.1 ?_).trans e,n,ne,nf,d⟩;intro q;rw[q,P]at e;have q':oc=p.2:=ZT e;exact d w (by rw[<-q'];exact C)
def Gd(I:Inv X Z U H s)(O:X.N.Nodup)(L:X.N[i]?=some x)(G:Loc X.env.scope x)(r:RelV v u)(h:∀J,Inv X Z (U.set i<|some v) H J->Q () J)(N:X.fn x=true\/X.env.scope.names.lookup x=some .local:=by first|exact .inl Y|exact .inr Y|assumption):wpAny M A (storeName X.env x u) Q E s:=
 Tw I O L G r (λJ R _=>h J R) N
def Inv.call'(I:Inv X Z U H s)(O:J.os=s.os)(u:Un (frs X.stack) ch H M s.heap J.heap)(G:HOk X.prog X.w M J.heap)(R:AllBare J.gens)(L:∀b∈ch,(b∈X.ex\/X.s₀.heap.objs.size<=b)/\b≠X.env.locals/\(∀x c,X.env.cells.lookup x=some c->c≠b)/\∀p∈X.pn++ Z,p.1≠b):Inv X Z U M J:=by
 obtain⟨T,g',d',t',N⟩:=J;have e:N=s.os:=O;subst e;exact I.call (g':=g') (t':=t') (d':=d') u G R L
end
abbrev XK:=Value->Option Addr->Hp->Prop
abbrev St:=List (kP)
abbrev kO:=St->Hp->Prop
abbrev kM:=Nat->St->Hp->Prop
abbrev VK:=V->Hp->Prop
abbrev TE:=St->Hp->VK->Prop
abbrev TT:=St->Hp->(Bool->Hp->Prop)->Prop
abbrev TA:=St->Hp->(List V->Hp->Prop)->Prop
structure Ends where
 nx:St->Hp->Prop
 rt:VK
 bk:St->Hp->Prop:=λ_ _=>False
 ct:St->Hp->Prop:=λ_ _=>False
abbrev TS:=Ends->St->Hp->Prop
def EP(X:Cx)(pins:ky)(U:St)(Q:VK)(u:Value)(s':Shared):Prop:=∃v Z,Inv X pins U Z s'/\RelV v u/\Q v Z
def TP(X:Cx)(pins:ky)(U:St)(Q:Bool->Hp->Prop)(b:Bool)(s':Shared):Prop:=∃Z,Inv X pins U Z s'/\Q b Z
def AP(X:Cx)(pins:ky)(U:St)(Q:List V->Hp->Prop)(us:kB)(s':Shared):Prop:=∃Z J,Inv X pins U J s'/\Vals Z us/\Q Z J
def SP(X:Cx)(pins:ky)(D:Ends)(f:Flow)(s':Shared):Prop:=
 match f with
 |.next=>∃U' H',Inv X pins U' H' s'/\D.nx U' H'
 |.brk=>∃U' H',Inv X pins U' H' s'/\D.bk U' H'
 |.cont=>∃U' H',Inv X pins U' H' s'/\D.ct U' H'
 |.ret u=>∃v U' H',Inv X pins U' H' s'/\RelV v u/\D.rt v H'
def PE(X:Cx)(e:Expr)(t:TE):Prop:=
 ∀(Z:ky)(s:Shared)(U:St)(H:Hp)(Q:VK),Inv X Z U H s->t U H Q->wpAny (model X.prog X.w) X.A (eval e X.env) (EP X Z U Q) X.xe s
def PT(X:Cx)(e:Expr)(t:TT):Prop:=
 ∀(Z:ky)(s:Shared)(U:St)(H:Hp)(Q:Bool->Hp->Prop),Inv X Z U H s->t U H Q->wpAny (model X.prog X.w) X.A (isTrue e X.env<|eval e X.env) (TP X Z U Q) X.xe s
def PW(X:Cx)(e:Expr)(t:TT):Prop:=
 ∀(whole:Sem Value)(Z:ky)(s:Shared)(U:St)(H:Hp)(Q:Bool->Hp->Prop),Inv X Z U H s->t U H Q->wpAny (model X.prog X.w) X.A (isTrue e X.env whole) (TP X Z U Q) X.xe s
def PW.pt(h:PW X e t):PT X e t:=h _
def PA(X:Cx)(es:kW)(t:TA):Prop:=
 ∀(J:Pos)(Z:ky)(s:Shared)(U:St)(H:Hp)(Q:List V->Hp->Prop),Inv X Z U H s->t U H Q->wpAny (model X.prog X.w) X.A (spliced<|backTo J<|starEach es X.env) (AP X Z U Q) X.xe s
def PS(X:Cx)(st:Stmt)(t:TS):Prop:=
 ∀(Z:ky)(s:Shared)(U:St)(H:Hp)(D:Ends),Inv X Z U H s->t D U H->wpAny (model X.prog X.w) X.A (exec st X.env) (SP X Z D) X.xe s
def PSs(X:Cx)(st:List Stmt)(t:TS):Prop:=
 ∀(Z:ky)(s:Shared)(U:St)(H:Hp)(D:Ends),Inv X Z U H s->t D U H->wpAny (model X.prog X.w) X.A (execs st X.env) (SP X Z D) X.xe s
def thn(h:wpAny M A t Q E s)(Z:∀a s,Q a s->Q' a s):wpAny M A t Q' E s:=Zn h Z λ_ _ x=>x
end L2
namespace L2
open PySem PySem.Spec PyProof.Rows
section
variable{X:Cx}
def Fn(o:Option (kP))(P:V->Prop):Prop:=match o with
 |some (some v)=>P v
 |_=>False
def Fn.old(h:Fn o P):∃v,o=some (some v)/\P v:=by
 match o,h with
 |some (some v),h=>exact⟨v,Y,h⟩
def UT(x:V)(P:Int->Prop):Prop:=match x with
 |.int c=>P c
 |_=>False
def UT.old(h:UT x P):∃c,x=.int c/\P c:=by
 cases x <;> first|exact⟨_,Y,h⟩|exact h.elim
def V7(x:V)(P:Addr->Prop):Prop:=match x with
 |.ref c=>P c
 |_=>False
def V7.old(h:V7 x P):∃c,x=.ref c/\P c:=by
 cases x <;> first|exact⟨_,Y,h⟩|exact h.elim
def N0(i:Nat):TE:=λU H Q=>Fn U[i]? λv=>Q v H
def tC(v:V):TE:=λ_ H Q=>Q v H
def AA(D:X.N[i]?=some x)(O:Vis X.env.scope x)(hd:(x==("__debug__":Str))=false:=by decide)(M:(x==("__classdict__":Str))=false:=by decide):PE X (.Name x pos) (N0 i):=by
 intro L s U H Q I h;replace h:=Fn.old h;obtain⟨v,e,h⟩:=h;obtain⟨m,R,B⟩:=I.loc;obtain⟨u,r,l⟩:=B i x v D e O;have G:EP X L U Q u s:=⟨v,H,I,r,h⟩;rcases l with⟨J,T⟩|⟨J,c,N,Z⟩
 .exact wpAny_Name (wpAny_loadName_local I.ok.kind J R T G) hd
 .rcases J with J|J
  .exact wpAny_Name (wpAny_loadName_cell I.ok.kind J N Z G) hd
  .exact wpAny_Name (wpAny_loadName_free I.ok.kind J N Z G M) hd
def Ya:PE X (.Constant (.int i) j pos) (tC<|.int i):=λ_ _ _ H _ I h=>wpAny_Constant_int ⟨.int i,H,I.tok _,⟨_,rfl⟩,h⟩
def XN:PE X (.Constant (.bool b) j pos) (tC<|.bl b):=λ_ _ _ H _ I h=>Constant_bool ⟨.bl b,H,I,rfl,h⟩
def Vi:PE X (.Constant .none j pos) (tC .non):=λ_ _ _ H _ I h=>Constant_none ⟨.non,H,I,rfl,h⟩
def Yw:PE X (.Constant (.str x) j pos) (tC<|.str x):=λ_ _ _ H _ I h=>Calls.Constant_str ⟨.str x,H,I.tok _,⟨_,rfl⟩,h⟩
def Gl(X:Cx)(x:Str):Prop:=X.env.kindOf x=some .globalImplicit
def GJ(I:Inv X Z U H s)(G:Gl X x)(J:X.mg x=some u)(h:Q u s)(hd:(x==("__debug__":Str))=false:=by decide):wpAny (model X.prog X.w) X.A (eval (.Name x pos) X.env) Q E s:=
 Calls.Name_function_global I.ok.kind G (Calls.loadGlobal_global (by rw[I.ok.glob];exact I.mod.glob.keeps I.bk) J h) hd
def UN(I:Inv X Z U H s)(M:Gl X x)(L:X.mg x=none)(J:bootBuiltins x=some u)(h:Q u s)(G:x≠"__name__":=by decide)(hd:(x==("__debug__":Str))=false:=by decide):wpAny (model X.prog X.w) X.A (eval (.Name x pos) X.env) Q E s:=by
 obtain⟨R,O,N⟩:=I.mod.blt;exact Calls.Name_function_global I.ok.kind M (Calls.loadGlobal_builtin (by rw[I.ok.glob];exact I.mod.glob.keeps I.bk) L (by rw[I.ok.blt];exact O.keeps I.bk) ((N x G).trans J) h) hd
def V5(J:Gl X x)(Z:X.mg x=some u)(r:RelV v u)(hd:(x==("__debug__":Str))=false:=by decide):PE X (.Name x pos) (tC v):=
 λ_ _ _ H _ I h=>GJ I J Z ⟨v,H,I,r,h⟩ hd
def PK(L:Gl X x)(G:X.mg x=none)(Z:bootBuiltins x=some u)(r:RelV v u)(J:x≠"__name__":=by decide)(hd:(x==("__debug__":Str))=false:=by decide):PE X (.Name x pos) (tC v):=
 λ_ _ _ H _ I h=>UN I L G Z ⟨v,H,I,r,h⟩ J hd
variable{a b:Expr}{ta tb:TE}{pos:Pos}
def PC(X:Cx)(op:CmpOp)(a b:Expr)(t:TE):Prop:=
 ∀(Z:ky)(s:Shared)(U:St)(H:Hp)(Q:VK),Inv X Z U H s->t U H Q->
  wpAny (model X.prog X.w) X.A (eval a X.env) (λv G=>wpAny (model X.prog X.w) X.A (eval b X.env) (λu J=>wpAny (model X.prog X.w) X.A (compareOp op v u) (EP X Z U Q) X.xe J) X.xe G) X.xe s
def tB(t:TE):TT:=λU H Q=>t U H λx Z=>∃c,x=.bl c/\Q c Z
def Jp(h:PC X op a b t)(J:behindInMarks op b=false:=by first|exact nobehind _ (by decide) (by decide)|rfl):PT X (.Compare a [op] [b] pos) (tB t):=by
 intro Z s U H Q I M;refine wpAny_isTrue_Compare1 (thn (h Z s U H _ I M) λv s1 J=>thn J λu B N=>thn N λc T ⟨x,R,O,G,L⟩=>?_) J;obtain⟨d,rfl,q⟩:=L;cases G;exact vv ⟨R,O,q⟩
def Vv(h:PE X e t)(M:∀whole,isTrue e X.env whole=(do let v <-whole;standAt e.pos;holding [v] (truthy v)):=by intro _;rfl):PT X e (tB t):=by
 intro Z s U H Q I L;refine isTrue_plain (thn (h Z s U H _ I L) λv s1 ⟨x,O,N,J,G⟩=>?_)<|M _;obtain⟨d,rfl,q⟩:=G;cases J;exact vv ⟨O,N,q⟩
variable{rest:kW}
def yP(t u:TT):TT:=λU H Q=>t U H λc Z=>if c=true then u U Z Q else Q false Z
def tOr(t u:TT):TT:=λU H Q=>t U H λc Z=>if c=true then Q true Z else u U Z Q
def yK(t:TT):TT:=λU H Q=>t U H λc Z=>Q (!c) Z
def GD(J:PT X a tA):PW X (.BoolOp .And [a] pos) tA:=by
 intro G Z s U H Q I h;refine isTrue_and<|thn (J Z s U H Q I h) λc s1 e=>?_
 cases c with
 |true=>exact isTrue_and_nil e
 |false=>exact e
def J4(J:PT X a tA):PW X (.BoolOp .Or [a] pos) tA:=by
 intro G Z s U H Q I h;refine isTrue_or<|thn (J Z s U H Q I h) λc s1 e=>?_
 cases c with
 |false=>exact isTrue_or_nil e
 |true=>exact e
def MT(O:PT X a tA)(N:PW X (.BoolOp .And (b::rest) pos) tB'):PW X (.BoolOp .And (a::b::rest) pos) (yP tA tB'):=by
 intro M Z s U H Q I h;refine isTrue_and<|thn (O Z s U H _ I h) λc s1 ⟨L,G,J⟩=>?_
 cases c with
 |true=>exact N M Z s1 U L Q G J
 |false=>exact⟨L,G,J⟩
def Um(O:PT X a tA)(N:PW X (.BoolOp .Or (b::rest) pos) tB'):PW X (.BoolOp .Or (a::b::rest) pos) (tOr tA tB'):=by
 intro M Z s U H Q I h;refine isTrue_or<|thn (O Z s U H _ I h) λc s1 ⟨L,G,J⟩=>?_
 cases c with
 |true=>exact⟨L,G,J⟩
 |false=>exact N M Z s1 U L Q G J
def JN(J:PT X a tA):PT X (.UnaryOp .Not a pos) (yK tA):=by
 intro Z s U H Q I h;exact isTrue_not<|J Z s U H (λc G=>Q (!c) G) I h
def CL(ta tb:TE):TE:=λU H Q=>ta U H λx Z=>∃c,x=.bl c/\if c=true then tb U Z Q else Q (.bl false) Z
def yJ(ta tb:TE):TE:=λU H Q=>ta U H λx Z=>∃c,x=.bl c/\if c=true then Q (.bl true) Z else tb U Z Q
def Xb(h:PE X a t):PE X (.BoolOp op [a] pos) t:=λZ s U H Q I J=>BoolOp_one<|h Z s U H Q I J
def WX(O:PE X a ta)(N:PE X (.BoolOp .And (b::rest) pos) tb):PE X (.BoolOp .And (a::b::rest) pos) (CL ta tb):=by
 intro Z s U H Q I h;refine BoolOp_and<|thn (O Z s U H _ I h) λv s1 ⟨x,L,G,M,J⟩=>?_;obtain⟨c,rfl,J⟩:=J;cases M;refine vv ?_
 cases c with
 |true=>exact N Z s1 U L Q G J
 |false=>exact⟨.bl false,L,G,Y,J⟩
def Cj(O:PE X a ta)(N:PE X (.BoolOp .Or (b::rest) pos) tb):PE X (.BoolOp .Or (a::b::rest) pos) (yJ ta tb):=by
 intro Z s U H Q I h;refine BoolOp_or<|thn (O Z s U H _ I h) λv s1 ⟨x,L,G,M,J⟩=>?_;obtain⟨c,rfl,J⟩:=J;cases M;refine vv ?_
 cases c with
 |false=>exact N Z s1 U L Q G J
 |true=>exact⟨.bl true,L,G,Y,J⟩
end
end L2
namespace L2
open PySem PySem.Spec PyProof.Rows
def SqL(K:W.Frag)(H:Hp)(a:Addr)(xs:kL):Prop:=
 Rd H a (.lst xs) \/
  ∃(o:Obj)(Z:kI)(n:Nat),K.lookup a=some o/\o.cls=.type "list" /\o.dict=none/\o.data=.seq Z n/\Z.size<=sizeLine/\Vals xs Z.toList
def SqT(K:W.Frag)(H:Hp)(a:Addr)(xs:kL):Prop:=
 Rd H a (.tup xs) \/
  ∃(o:Obj)(Z:kI)(n:Nat),K.lookup a=some o/\o.cls=.type "tuple" /\o.data=.seq Z n/\Z.size<=sizeLine/\Vals xs Z.toList
def vN:Value->Option V
 |.none=>some .non
 |.bool b=>some<|.bl b
 |.int i _=>some<|.int i
 |.str x _=>some<|.str x
 |.bytes b _=>some<|.byt b
 |.float b _=>some<|.flt b
 |.ref a=>some<|.ref a
 |.type n=>some<|.ty n
 |_=>none
def RelV.abs(r:RelV x u):vN u=some x:=by
 cases x with
 |non=>cases r;rfl
 |bl _=>cases r;rfl
 |int _=>obtain⟨t,rfl⟩:=r;rfl
 |str _=>obtain⟨t,rfl⟩:=r;rfl
 |byt _=>obtain⟨t,rfl⟩:=r;rfl
 |flt _=>obtain⟨t,rfl⟩:=r;rfl
 |ref _=>cases r;rfl
 |ty _=>cases r;rfl
def RelV.inj(r:RelV x u)(q:RelV y u):x=y:=ZT<|r.abs.symm.trans q.abs
theorem Vals.inj:∀{J Z:kL}{G:kB},Vals J G->Vals Z G->J=Z
 |_,_,_,.nil,.nil=>rfl
 |_,_,_,.cons r t,.cons r' t'=>by rw[r.inj r',Vals.inj t t']
section
def SqL.of{K:W.Frag}(h:H a=some (.lst Z)):SqL K H a Z:=.inl<|.inl h
abbrev Z3:=@SqL.of
def SqT.of{K:W.Frag}(h:H a=some (.tup Z)):SqT K H a Z:=.inl<|.inl h
abbrev Z2:=@SqT.of
def Inv.list(I:Inv X G U H s)(h:SqL X.K H a J):∃Z:kB,Vals J Z/\PlainL s.heap a Z.toArray/\J.length<=sizeLine:=by
 rcases h with h|⟨o,Z,n,M,N,hd,L,O,r⟩
 .obtain ⟨z,Z,n,r,e⟩:=h.ok I.hok
  exact⟨Z,r,⟨_,n,e,Y,Y,Y⟩,z⟩
 .refine ⟨Z.toList,r,⟨o,n,I.kIn a o M,N,hd,by simpa using L⟩,?_⟩
  have e:=r.length;simp only[qD]at e;omega
def Inv.tuple(I:Inv X G U H s)(h:SqT X.K H a J):∃Z:kB,Vals J Z/\IsTup s.heap a Z.toArray/\J.length<=sizeLine:=by
 rcases h with h|⟨o,Z,n,M,N,L,O,r⟩
 .obtain ⟨z,Z,r,p⟩:=h.ok I.hok
  exact⟨Z,r,p.is,z⟩
 .refine ⟨Z.toList,r,⟨o,I.kIn a o M,N,n,by simpa using L⟩,?_⟩
  have e:=r.length;simp only[qD]at e;omega
def Inv.list_inj(I:Inv X G U H s)(h:SqL X.K H a O)(T:SqL X.K H a N):O=N:=by
 obtain⟨J,r,⟨o,n,e,_,_,d⟩,_⟩:=I.list h;obtain⟨Z,R,⟨D,E,L,_,_,M⟩,_⟩:=I.list T;rw[e]at L;cases L;rw[d]at M;injection M with B _;have:J=Z:=by simpa using congrArg Array.toList B
 subst this;exact r.inj R
def Inv.tuple_inj(I:Inv X G U H s)(h:SqT X.K H a O)(T:SqT X.K H a N):O=N:=by
 obtain⟨J,r,⟨o,e,_,n,d⟩,_⟩:=I.tuple h;obtain⟨Z,R,⟨D,L,_,E,M⟩,_⟩:=I.tuple T;rw[e]at L;cases L;rw[d]at M;injection M with B _;have:J=Z:=by simpa using congrArg Array.toList B
 subst this;exact r.inj R
end
abbrev Cx.wish(X:Cx)(E:kz):Cx:={X with xe:=E}
abbrev Cx.nox(X:Cx):Cx:=X.wish λ_ _=>False
def Cx.Ok.wish{X:Cx}(Z:X.Ok)(E:kz):(X.wish E).Ok:=
 ⟨Z.mod,Z.kind,Z.glob,Z.blt,Z.above,Z.inj,Z.has,Z.cab,Z.hd,Z.frames,Z.stk,Z.exf,Z.bs,Z.bsz,Z.noex,Z.exfs,Z.funs,Z.frf⟩
def Cx.Ok.unwish{X:Cx}(Z:(X.wish E).Ok):X.Ok:=
 ⟨Z.mod,Z.kind,Z.glob,Z.blt,Z.above,Z.inj,Z.has,Z.cab,Z.hd,Z.frames,Z.stk,Z.exf,Z.bs,Z.bsz,Z.noex,Z.exfs,Z.funs,Z.frf⟩
section
def Inv.wish(I:Inv X Z U H s)(E:kz):Inv (X.wish E) Z U H s:=⟨I.ok.wish E,I.os,I.bare,I.base,I.loc,I.cell,I.free,I.freeC,I.pin,I.hok,I.len⟩
def Inv.unwish(I:Inv (X.wish E) Z U H s):Inv X Z U H s:=⟨I.ok.unwish,I.os,I.bare,I.base,I.loc,I.cell,I.free,I.freeC,I.pin,I.hok,I.len⟩
def SP.unwish(h:SP (X.wish E) G D f L):SP X G D f L:=by
 cases f with
 |next=>obtain⟨Z,J,I,q⟩:=h;exact⟨Z,J,I.unwish,q⟩
 |brk=>obtain⟨Z,J,I,q⟩:=h;exact⟨Z,J,I.unwish,q⟩
 |cont=>obtain⟨Z,J,I,q⟩:=h;exact⟨Z,J,I.unwish,q⟩
 |ret u=>obtain⟨v,Z,J,I,r,q⟩:=h;exact⟨v,Z,J,I.unwish,r,q⟩
def PSs.nox{st:List Stmt}(h:PSs X.nox st t):PSs X st t:=λZ s U H D I J=>
 Zn (h Z s U H D (I.wish _) J) (λ_ _ q=>q.unwish) λ_ _ z=>False.elim z
end
section
variable{st:Stmt}{rest:List Stmt}{t u:TS}{te:TE}
def QV:TS:=λD U H=>D.nx U H
def Yk(t u:TS):TS:=λD U H=>t {D with nx:=u D} U H
def Yp:PSs X [] QV:=λ_ _ U H _ I h=>qN ⟨U,H,I,h⟩
def YY(G:PS X st t)(J:PSs X rest u):PSs X (st::rest) (Yk t u):=by
 intro Z s U H D I h;refine wpAny_execs_cons<|thn (G Z s U H {D with nx:=u D} I h) λf s1 q=>?_
 cases f with
 |next=>
  obtain⟨L,N,M,q⟩:=q;exact J Z s1 L N D M q
 |ret v=>exact q
 |brk=>exact q
 |cont=>exact q
def YZ(J:PS X st t):PSs X [st] t:=by
 intro Z s U H D I h;refine wpAny_execs_cons<|thn (J Z s U H D I h) λf s1 q=>?_
 cases f with
 |next=>exact qN q
 |ret v=>exact q
 |brk=>exact q
 |cont=>exact q
def O4:PS X (.Pass pos) QV:=λ_ _ U H _ I h=>wpAny_Pass ⟨U,H,I,h⟩
def Inv.quiet(I:Inv X Z U H s):interactive X.env=false:=by simp[interactive,I.ok.kind]
def CI(te:TE):TS:=λD U H=>te U H λ_ Z=>D.nx U Z
def VS(L:PE X e te)(G:swapsWith e none pos.line X.env=pure false:=by rfl):PS X (.Expr e pos) (CI te):=by
 intro Z s U H D I h;exact wpAny_Expr_any (thn (L Z s U H _ I h) λv s1 ⟨x,N,M,O,J⟩=>⟨U,N,M,J⟩) I.quiet G
def yI(te:TE):TS:=λD U H=>te U H D.rt
def Yi(L:PE X e te):PS X (.Return (some e) pos) (yI te):=by
 intro Z s U H D I h;exact wpAny_Return_some<|thn (L Z s U H _ I h) λv s1 ⟨x,N,M,J,G⟩=>⟨x,U,N,M,J,G⟩
def A9:TS:=λD _ H=>D.rt .non H
def O3:PS X (.Return none pos) A9:=λ_ _ U H _ I h=>wpAny_Return_none ⟨.non,U,H,I,rfl,h⟩
def VE(c:TT)(t u:TS):TS:=λD U H=>c U H λb Z=>if b=true then t D U Z else u D U Z
def Y5(M:PT X c tc)(O:PSs X a t)(N:PSs X b u):PS X (.If c a b pos) (VE tc t u):=by
 intro Z s U H D I h;refine wpAny_If<|thn (M Z s U H _ I h) λd s1 ⟨L,G,J⟩=>?_
 cases d with
 |true=>exact O Z s1 U L D G J
 |false=>exact N Z s1 U L D G J
def SL:TS:=λ_ _ _=>False
def Jw:PSs X sts SL:=λ_ _ _ _ _ _ h=>h.elim
end
abbrev TG:=V->St->Hp->(kO)->Prop
abbrev TGs:=List V->St->Hp->(kO)->Prop
def PG(X:Cx)(target:Expr)(t:TG):Prop:=
 ∀(Z:ky)(s:Shared)(U:St)(H:Hp)(v:V)(u:Value)(Q:kO),Inv X Z U H s->RelV v u->t v U H Q->
  wpAny (model X.prog X.w) X.A (assign target X.env u) (λ_ L=>∃J G,Inv X Z J G L/\Q J G) X.xe s
def PGs(X:Cx)(ts:kW)(t:TGs):Prop:=
 ∀(Z:ky)(s:Shared)(U:St)(H:Hp)(J:kL)(G:kB)(Q:kO),Inv X Z U H s->Vals J G->t J U H Q->
  wpAny (model X.prog X.w) X.A (assignInOrder ((assignEach ts X.env).map (·.2)) G) (λ_ N=>∃L M,Inv X Z L M N/\Q L M) X.xe s
abbrev zh:=V->V->V->Hp->(Hp->Prop)->Prop
def yC(X:Cx)(t:zh):Prop:=
 ∀(Z:ky)(s:Shared)(U:St)(H:Hp)(o i v:V)(J G u:Value)(Q:Hp->Prop),Inv X Z U H s->RelV o J->RelV i G->RelV v u->t o i v H Q->
  wpAny (model X.prog X.w) X.A (setItem J G u) (λ_ M=>∃L,Inv X Z U L M/\Q L) X.xe s
abbrev TIp:=V->V->Hp->VK->Prop
def PIp(X:Cx)(op:Operator)(t:TIp):Prop:=
 ∀(Z:ky)(s:Shared)(U:St)(H:Hp)(x y:V)(v u:Value)(Q:VK),Inv X Z U H s->RelV x v->RelV y u->t x y H Q->
  wpAny (model X.prog X.w) X.A (inplaceOp op v u) (EP X Z U Q) X.xe s
section
variable{X:Cx}
def Vo(i:Nat):TG:=λv U H Q=>Q (U.set i<|some v) H
def Yl(i:Nat)(M:X.N.Nodup)(G:X.N[i]?=some x:=by exact Y)(J:Loc X.env.scope x:=by exact Or.inl Y)(L:X.fn x=true\/X.env.scope.names.lookup x=some .local:=by first|exact .inl Y|exact .inr Y|assumption):PG X (.Name x pos) (Vo i):=by
 intro Z s U H v u Q I r h;exact wpAny_assign_Name<|Gd I M G J r (λO N=>⟨_,H,N,h⟩) L
def TV:TGs:=λvs U H Q=>match vs with
 |[]=>Q U H
 |_=>False
def TV.old(h:TV Z U H Q):Z=[]/\Q U H:=by
 match Z,h with
 |[],h=>exact⟨Y,h⟩
def Jc(t:TG)(u:TGs):TGs:=λvs U H Q=>match vs with
 |v::r=>t v U H λU' H'=>u r U' H' Q
 |_=>False
def Jc.old(h:Jc t u Z U H Q):∃v r,Z=v::r/\t v U H λJ G=>u r J G Q:=by
 match Z,h with
 |v::r,h=>exact⟨v,r,Y,h⟩
def VJ:PGs X [] TV:=by
 intro Z s U H J G Q I r h;replace h:=TV.old h;obtain⟨e,h⟩:=h;subst e;cases r;exact assignInOrder_nil ⟨U,H,I,h⟩
def Yn(O:PG X e t)(N:PGs X J u)(M:(assignEach (e::J) X.env).map (·.2)=assign e X.env::(assignEach J X.env).map (·.2):=by rfl):PGs X (e::J) (Jc t u):=by
 intro Z s U H D F Q I r h;replace h:=Jc.old h;obtain⟨v,E,R,h⟩:=h;subst R
 cases r with
 |cons r G=>
  rw[M];refine assignInOrder_cons<|thn (O Z s U H _ _ _ I r h) λ_ s1 ⟨σ1,B,T,L⟩=>?_;exact N Z s1 σ1 B _ _ Q T G L
def NY(K:W.Frag)(n:Nat)(t:TGs):TG:=λv U H Q=>V7 v λa=>∃Z,SqT K H a Z/\Z.length=n/\t Z U H Q
def Vg(F:X.calm=true)(h:PGs X L t)(D:(assignEach L X.env).length=n:=by rfl)(G:(assignEach L X.env).findIdx? (·.1)=none:=by rfl):PG X (.Tuple L k pos) (NY X.K n t):=by
 intro Z s U H v u Q I r J;replace J:=V7.old J;obtain⟨a,S,N,B,E,J⟩:=J;subst S;cases r;obtain⟨O,M,T,P⟩:=I.tuple B;refine assign_Tuple_tuple (I.ok.hd F) T (by simp[D,<-E,M.length]) G λA R=>?_;have C:Inv X Z U H {s with heap:=A}:=I.kept (t':=s.toks) λb o e=>R b o (Ze<|ZP e) e;exact h Z _ U H N _ Q C (by simpa using M) J
def vF(to ti:TE)(t:zh):TG:=λv U H Q=>to U H λo G=>ti U G λi J=>t o i v J λZ=>Q U Z
def MV(D:PE X o to)(E:PE X i ti)(B:yC X t)(F:∀v,assign (.Subscript o i pos) X.env v=(do
   let J <-holding [v] (eval o X.env)
   let G <-holding [v,J] (eval i X.env)
   standAt pos
   holding [v,J,G] (setItem J G v)
   release [v,J,G] []):=by intro _;rfl):PG X (.Subscript o i pos) (vF to ti t):=by
 intro Z s U H v u Q I r h;rw[F];refine Zl<|wpAny_holding<|thn (D Z s U H _ I h) λJ s1 ⟨x,z,C,N,T⟩=>?_;refine Zl<|wpAny_holding<|thn (E Z s1 U z _ C T) λG L ⟨y,j,S,M,R⟩=>?_;refine Zl<|jn<|Zl<|wpAny_holding<|thn (B Z L U j x y v J G u _ S N M r R) λ_ q ⟨P,A,O⟩=>?_;exact wpAny_release ⟨U,P,A,O⟩
def Ep(te:TE)(g:TG):TS:=λD U H=>te U H λx Z=>g x U Z D.nx
def Jq(O:PE X e te)(N:PG X tg g)(M:swapsWithSole [tg] e pos.line X.env=pure false:=by rfl)(L:swappedStores [tg] e X.env=pure none:=by rfl)(R:(assignEach [tg] X.env).map (·.2)=[assign tg X.env]:=by rfl):PS X (.Assign [tg] e pos) (Ep te g):=by
 intro Z s U H D I h;refine wpAny_Assign_stores (thn (O Z s U H _ I h) λv s1 ⟨x,B,T,J,G⟩=>?_) M L;rw[R];exact thn (N Z s1 U B x v _ T J G) λ_ E q=>q
def Yx(i:Nat)(R:X.N.Nodup)(O:PE X e te)(M:X.N[i]?=some x:=by exact Y)(hx:Loc X.env.scope x:=by exact Or.inl Y)(L:swapsWith e (some<|.Name x pos') pos.line X.env=pure false:=by rfl)(N:X.fn x=true\/X.env.scope.names.lookup x=some .local:=by first|exact .inl Y|exact .inr Y|assumption):
  PS X (.Assign [.Name x pos'] e pos) (Ep te<|Vo i):=by
 intro Z s U H D I h;refine wpAny_Assign_Name (thn (O Z s U H _ I h) λv s1 ⟨y,E,B,J,G⟩=>?_) L;exact Gd B R M hx J (λF T=>⟨_,E,T,G⟩) N
def yO(i:Nat)(te:TE)(ti:TIp):TS:=λD U H=>∃x,U[i]?=some (some x)/\te U H λy J=>ti x y J λz Z=>D.nx (U.set i<|some z) Z
def I0(t:X.N.Nodup)(R:X.N[i]?=some x)(O:Loc X.env.scope x)(j:PE X e te)(A:PIp X op ti)(Q:X.fn x=true\/X.env.scope.names.lookup x=some .local:=by first|exact .inl Y|exact .inr Y|assumption):
  PS X (.AugAssign (.Name x pos') op e pos) (yO i te ti):=by
 intro Z s U H D I h;obtain⟨v,g,h⟩:=h;obtain⟨m,S,P⟩:=I.loc;have N:Vis X.env.scope x:=by rcases O with k|k;exact .inl k;exact .inr<|.inl k
 obtain⟨u,r,l⟩:=P i x v R g N;refine wpAny_AugAssign_Name ?_
 have go:wpAny (model X.prog X.w) X.A (eval e X.env) (λw M=>wpAny (model X.prog X.w) X.A (inplaceOp op u w) (λr L=>wpAny (model X.prog X.w) X.A (storeName X.env x r) (λ_=>SP X Z D .next) X.xe L) X.xe M) X.xe s:=by
  refine thn (j Z s U H _ I h) λw s1 ⟨y,o,f,B,F⟩=>?_;refine thn (A Z s1 U o v y u w _ f r B F) λz s2 ⟨n,b,d,T,E⟩=>?_;exact Gd d t R O T (λa p=>⟨_,b,p,E⟩) Q
 rcases l with⟨J,C⟩|⟨J,c,q,G⟩
 .exact wpAny_loadName_local I.ok.kind J S C go
 .rcases J with J|J
  .exact wpAny_loadName_cell I.ok.kind J q G go
  .rcases O with k|k
   .have:X.env.scope.names.lookup x=some .free:=J
    rw[k]at this;cases this
   .have:X.env.scope.names.lookup x=some .free:=J
    rw[k]at this;cases this
end
section
def Rm(c:TT)(tb:TS):TS:=λD U H=>∃W:kM,(∃m,W m U H)/\∀m U H,W m U H->
 c U H λb G=>if b=true then ∃N:kO,(∀J L,N J L->∃Z,Z<m/\W Z J L)/\tb {D with nx:=N,ct:=N,bk:=D.nx} U G else D.nx U G
def G0(E:PassesOwn (model X.prog X.w) X.A X.env X.xe)(m:PT X c tc)(g:PSs X body tb):PS X (.While c body [] pos) (Rm tc tb):=by
 intro Z s U H D I h;obtain⟨W,⟨t,y⟩,turn⟩:=h;refine wpAny_While<|codeAny_whileLoop (λn q=>∃A Q,Inv X Z A Q q/\W n A Q) ?_ t ⟨U,H,I,y⟩;rintro n s1 ⟨σ1,P,k,j⟩;refine jx E<|thn (m Z s1 σ1 P _ k<|turn n σ1 P j) λb z ⟨C,S,L⟩=>?_
 cases b with
 |true=>
  obtain⟨N,F,L⟩:=L;rw[Zp rfl];refine jx E<|thn (g Z z σ1 C _ S L) λf p G=>?_
  cases f with
  |next=>
   obtain⟨σ3,J,B,O⟩:=G;obtain⟨R,T,M⟩:=F σ3 J O;exact⟨R,T,σ3,J,B,M⟩
  |cont=>
   obtain⟨σ3,J,B,O⟩:=G;obtain⟨R,T,M⟩:=F σ3 J O;exact⟨R,T,σ3,J,B,M⟩
  |brk=>exact G
  |ret v=>exact G
 |false=>
  rw[Zq Zi];exact qN ⟨σ1,C,S,L⟩
end
structure It where
 go:Nat->Hp->Prop
 yld:Nat->Hp->V->Hp->Prop
 stop:Nat->Hp->Prop
def UA(X:Cx)(pins:ky)(H:Hp)(b:Addr):Prop:=
 H b=none/\b≠X.env.locals/\b∉X.fs/\(b∈X.ex\/X.s₀.heap.objs.size<=b)/\(∀x c,X.env.cells.lookup x=some c->c≠b)/\∀p∈X.pn++ pins,p.1≠b
def Inv.fpOk(I:Inv X Z U H s)(J:s.heap.objs.size<=b)(L:M b=none):UA X Z M b:=by
 refine⟨L,jg<|Zx I.lt J,I.nofs J,.inr<|Zb I.sz J,λx c e z=>?_,λp G z=>?_⟩
 .obtain ⟨v,q⟩:=I.cell x c e
  exact Zr (Zx q.lt (by rw[z];exact J))<|vx _
 .exact Zr (Zx (ZP (I.pin p G).1) (by rw[z];exact J)) (vx _)
structure Turn(P:Program)(w:World)(K:W.Frag)(tg:Expr)(J:It)(fp:List Addr)(it:Addr)(tn:Nat->Heap->Prop):Prop where
 mem:it∈fp
 obj:∀i h,tn i h->∀b∈fp,∃o,h.get? b=some o/\∀v,o.data≠.cell v
 keep:∀i h h',tn i h->(∀b∈fp,∀o,h.get? b=some o->h'.get? b=some o)->tn i h'
 item:∀(X:Cx),X.prog=P->X.w=w->X.K=K->X.calm=true->∀(i:Nat)(pins:List (Addr×Obj))(s:Shared)(U:St)(H:Hp)(E:Value->Shared->Prop),Inv X pins U H s->(∀b∈fp,UA X pins H b)->tn i s.heap->J.go i H->
  wpAny (model P w) X.A (pyNext (.ref it)) (λr s1=>∃u,r=some u/\
   wpAny (model P w) X.A (letOwnedTupleGo tg (.ref it) u) (λ_ s2=>∃x H',Inv X pins U H' s2/\RelV x u/\J.yld i H x H'/\tn (i+1) s2.heap/\∀b∈fp,H' b=none) E s1) E s
 done:∀(X:Cx),X.prog=P->X.w=w->X.K=K->X.calm=true->∀(i:Nat)(pins:List (Addr×Obj))(s:Shared)(U:St)(H:Hp)(E:Value->Shared->Prop),Inv X pins U H s->(∀b∈fp,UA X pins H b)->tn i s.heap->J.stop i H->
  wpAny (model P w) X.A (pyNext (.ref it)) (λr s1=>r=none/\Inv X pins U H s1) E s
 self:∀(A:Around)(i:Nat)(s:Shared)(Q:Value->Shared->Prop)(E:Value->Shared->Prop),tn i s.heap->Q (.ref it) s->wpAny (model P w) A (pyIter (.ref it)) Q E s
abbrev TI:=St->Hp->(It->Hp->Prop)->Prop
def PIE(X:Cx)(pins:ky)(U:St)(tg:Expr)(R:It->Hp->Prop)(itv:Value)(s2:Shared):Prop:=
 ∃(L:Addr)(M:kF)(G:Nat->Heap->Prop)(J:It)(Z:Hp),itv=.ref L/\Inv X pins U Z s2/\Turn X.prog X.w X.K tg J M L G/\G 0 s2.heap/\(∀b∈M,UA X pins Z b)/\R J Z
def PI(X:Cx)(tg iter:Expr)(wi:TI):Prop:=
 ∀(Z:ky)(s:Shared)(U:St)(H:Hp)(R:It->Hp->Prop),Inv X Z U H s->wi U H R->
  wpAny (model X.prog X.w) X.A (eval iter X.env) (λv s1=>wpAny (model X.prog X.w) X.A (pyIter v) (PIE X Z U tg R) X.xe s1) X.xe s
def EU(L:s.heap.get? G=some o)(O:o.cls=.type n)(hd:o.data=.fields J)(N:["enumerate","zip","dict_itemiterator","dict_reverseitemiterator","odict_iterator","itertools.zip_longest","itertools.pairwise"].contains n=false)(Z:Q () s):wpAny M A (letOwnedTupleGo tg (.ref G) u) Q E s:=by
  unfold letOwnedTupleGo;cases tg <;> first
    |exact Zm Z
    | (cases u <;> first
        |exact Zm Z
        | (refine Zl<|wpAny_load L ?_
           rw[O,hd];show wpAny M A (if(["enumerate","zip","dict_itemiterator","dict_reverseitemiterator","odict_iterator","itertools.zip_longest","itertools.pairwise"].contains n && J[0]?==some (rawInt _))=true then _ else _) Q E s;rw[Zq (by intro h;rw[N,Bool.false_and]at h;cases h)];exact Zm Z))
def Itl(K:W.Frag)(a:Addr):It:=
 ⟨λi H=>∃Z x,SqL K H a Z/\Z[i]?=some x,λi H x J=>J=H/\∀Z,SqL K H a Z->Z[i]?=some x,λi H=>∃Z,SqL K H a Z/\Z.length<=i⟩
def Itt(K:W.Frag)(a:Addr):It:=
 ⟨λi H=>∃Z x,SqT K H a Z/\Z[i]?=some x,λi H x J=>J=H/\∀Z,SqT K H a Z->Z[i]?=some x,λi H=>∃Z,SqT K H a Z/\Z.length<=i⟩
def Itr(lo:Int)(n:Nat):It:=⟨λi _=>i<n,λi H x Z=>Z=H/\x=.int (lo+i),λi _=>n<=i⟩
def En{P:Program}{w:World}{K:W.Frag}{g:Expr}(a J:Addr):Turn P w K g (Itl K a) [J] J (λi h=>h.IsListIter J a i) where
 mem:=by simp
 obj:=λi h st b G=>by
  have e:b=J:=by simpa using G
  subst e;obtain⟨o,e,c,d⟩:=st;exact⟨o,e,λv z=>by rw[d]at z;cases z⟩
 keep:=λi h O st k=>st.at λo e=>k J (by simp) o e
 item:=by
  intro X A D S t i Z s U H E I N st F;subst A D S;obtain⟨m,x,M,B⟩:=F;obtain⟨T,R,p,l⟩:=I.list M;obtain⟨u,hu,r⟩:=R.get B;obtain⟨q,y,f2,j,Q,C⟩:=N J (by simp);refine wpAny_pyNext_list_item st p.isList (x:=u) (by simpa using hu) λO L f=>?_;have I1:Inv X Z U H {s with heap:=O}:=I.turned (t':=s.toks) (λb o G e=>(f.2 b G).trans e) q y j Q C;obtain⟨o,e,c,d⟩:=id L;exact⟨u,Y,EU (s:={s with heap:=O}) e c d (by decide) ⟨x,H,I1,r,⟨Y,λys n=>by rw[I.list_inj n M];exact B⟩,L,λb G=>(N b G).1⟩⟩
 done:=by
  intro X A D S t i Z s U H E I N st F;subst A D S;obtain⟨m,M,B⟩:=F;obtain⟨T,R,p,l⟩:=I.list M;obtain⟨q,y,f2,j,Q,C⟩:=N J (by simp);have hl:=R.length;exact wpAny_pyNext_list_end (I.ok.hd t) st p.isList (by simp;omega) λO eb=>⟨Y,I.turned (t':=s.toks) (λb o G e=>eb b o G e) q y j Q C⟩
 self:=λ_ _ _ _ _ st h=>wpAny_pyIter_listiter st h
def Nw{P:Program}{w:World}{K:W.Frag}{g:Expr}(a G:Addr):Turn P w K g (Itt K a) [G] G (λi h=>h.IsTupleIter G a i) where
 mem:=by simp
 obj:=λi h st b L=>by
  have e:b=G:=by simpa using L
  subst e;obtain⟨o,e,c,d⟩:=st;exact⟨o,e,λv z=>by rw[d]at z;cases z⟩
 keep:=λi h R st k=>st.at λo e=>k G (by simp) o e
 item:=by
  intro X A D S t i Z s U H E I O st F;subst A D S;obtain⟨m,x,N,B⟩:=F;obtain⟨J,T,p,l⟩:=I.tuple N;obtain⟨u,hu,r⟩:=T.get B;obtain⟨q,y,f2,j,Q,C⟩:=O G (by simp);refine wpAny_pyNext_tuple_item st (show s.heap.IsTuple a J.toArray from p) (x:=u) (by simpa using hu) λR M f=>?_;have I1:Inv X Z U H {s with heap:=R}:=I.turned (t':=s.toks) (λb o L e=>(f.2 b L).trans e) q y j Q C;obtain⟨o,e,c,d⟩:=id M;exact⟨u,Y,EU (s:={s with heap:=R}) e c d (by decide) ⟨x,H,I1,r,⟨Y,λys n=>by rw[I.tuple_inj n N];exact B⟩,M,λb L=>(O b L).1⟩⟩
 done:=by
  intro X A D S t i Z s U H E I O st F;subst A D S;obtain⟨m,N,B⟩:=F;obtain⟨J,T,p,l⟩:=I.tuple N;obtain⟨q,y,f2,j,Q,C⟩:=O G (by simp);have hl:=T.length;exact wpAny_pyNext_tuple_end (I.ok.hd t) st (show s.heap.IsTuple a J.toArray from p) (by simp;omega) λR eb=>⟨Y,I.turned (t':=s.toks) (λb o L e=>eb b o L e) q y j Q C⟩
 self:=λ_ _ _ _ _ st h=>wpAny_pyIter_tupleiter st h
def Nx{P:Program}{w:World}{K:PySem.W.Frag}{m:Expr}(J:Addr)(M:Int)(n:Nat):Turn P w K m (Itr M n) [J] J (λi h=>IsRangeIter h J (M+(i:Nat)*1) ((n:Int)-(i:Nat)) 1) where
 mem:=by simp
 obj:=λi h st b G=>by
  have e:b=J:=by simpa using G
  subst e
  exact⟨_,st,λv z=>by
   have q:Data.fields _=Data.cell v:=z;cases q⟩
 keep:=λi h O st k=>k J (by simp) _ st
 item:=by
  intro X D R F B i Z s U H E I N st T;subst D R F;obtain⟨j,Q,c,C,S,A⟩:=N J (by simp);have W:=Walks.range (prog:=X.prog) (w:=X.w) (I.ok.hd B) J M 1 n;refine W.item i s _ _ T st λv O y p L g=>?_;obtain⟨t,rfl⟩:=p;have f:Inv X Z U H {s with heap:=O,toks:=y}:=I.turned (λb o G e=>g b o (by simpa using G) e) j Q C S A;refine⟨_,Y,EU (s:={s with heap:=O,toks:=y}) (n:="range_iterator") L Y Y (by decide) ⟨.int<|M+i,H,f,⟨t,?_⟩,⟨rfl,rfl⟩,L,λb G=>(N b G).1⟩⟩;rw[Int.mul_one]
 done:=by
  intro X D R F B i Z s U H E I N st T;subst D R F;obtain⟨j,Q,c,C,S,A⟩:=N J (by simp);exact wpAny_pyNext_range_end (I.ok.hd B) st (by have:n<=i:=T;omega) λO d=>⟨Y,I.turned (t':=s.toks) (λb o G e=>d b o G e) j Q C S A⟩
 self:=λ_ _ _ _ _ st h=>qF st h
end L2
namespace L2
open PySem PySem.Spec PyProof.Rows
section
def LL(K:W.Frag)(tl:TE):TI:=λU H R=>tl U H λx Z=>V7 x λa=>(∃J,SqL K Z a J)/\R (Itl K a) Z
def yx(K:W.Frag)(tl:TE):TI:=λU H R=>tl U H λx Z=>V7 x λa=>(∃J,SqT K Z a J)/\R (Itt K a) Z
def Ju(O:PE X l tl):PI X tg l (LL X.K tl):=by
 intro Z s U H R I h;refine thn (O Z s U H _ I h) λv s1 ⟨x,B,J,L,G⟩=>?_;replace G:=V7.old G;obtain⟨a,e,⟨D,N⟩,q⟩:=G;subst e;cases L;obtain⟨M,E,p,F⟩:=J.list N;refine qk p.isList ?_;refine⟨s1.heap.objs.size,[s1.heap.objs.size],_,_,B,Y,J.kept (t':=s1.toks) λb o e=>ZE _ e,En a _,⟨_,ZY _ Y,Y,Y⟩,λb T=>?_,q⟩;have e:b=s1.heap.objs.size:=by simpa using T
 subst e;exact J.fpOk (ZG _)<|J.hok.fresh<|ZG _
def J5(O:PE X l tl):PI X tg l (yx X.K tl):=by
 intro Z s U H R I h;refine thn (O Z s U H _ I h) λv s1 ⟨x,B,J,M,G⟩=>?_;replace G:=V7.old G;obtain⟨a,e,⟨D,N⟩,q⟩:=G;subst e;cases M;obtain⟨L,E,p,F⟩:=J.tuple N;refine wpAny_pyIter_tuple (show s1.heap.IsTuple a L.toArray from p) ?_;refine⟨s1.heap.objs.size,[s1.heap.objs.size],_,_,B,Y,J.kept (t':=s1.toks) λb o e=>ZE _ e,Nw a _,⟨_,ZY _ Y,Y,Y⟩,λb T=>?_,q⟩;have e:b=s1.heap.objs.size:=by simpa using T
 subst e;exact J.fpOk (ZG _)<|J.hok.fresh<|ZG _
def Im{Z J:Int}(I:Inv X G U H s)(B: -(2 ^ 62)<=Z)(T:Z<2 ^ 62)(O: -(2 ^ 62)<=J)(N:J<2 ^ 62)(q:R (Itr Z (J-Z).toNat) H):wpAny (model X.prog X.w) X.A (pyIter<|.ref s.heap.objs.size) (PIE X G U tg R) E {s with heap:=s.heap.push {cls:=.type "range",data:=.fields #[.int Z t,.int J u,.int 1 v]},toks:=tk}:=by
 refine wpAny_pyIter_range (IsRange.new ..) (small_one B T O N) ?_;have L:Inv X G U H {s with heap:=s.heap.push {cls:=.type "range",data:=.fields #[.int Z t,.int J u,.int 1 v]},toks:=tk}:=I.kept λb o e=>ZE _ e;refine⟨(s.heap.push {cls:=.type "range",data:=.fields #[.int Z t,.int J u,.int 1 v]}).objs.size,[(s.heap.push {cls:=.type "range",data:=.fields #[.int Z t,.int J u,.int 1 v]}).objs.size],_,_,H,Y,
  L.kept (t':=tk) λb o e=>ZE _ e,Nx _ Z (J-Z).toNat,?_,λb M=>?_,q⟩
 .have e1:Z+((0:Nat):Int)*1=Z:=by simp
  have D:(((J-Z).toNat:Nat):Int)-((0:Nat):Int)=Builtin.Range.rangeSize Z J 1:=by rw[rangeSize_one];split <;> omega
  show IsRangeIter _ _ (Z+((0:Nat):Int)*1) ((((J-Z).toNat:Nat):Int)-((0:Nat):Int)) 1;rw[e1,D];exact ZY _ Y
 .have e:b=(s.heap.push {cls:=.type "range",data:=.fields #[.int Z t,.int J u,.int 1 v]}).objs.size:=by simpa using M
  subst e;exact L.fpOk (ZG _)<|L.hok.fresh<|ZG _
def zQ(ta:TA):TI:=λU H R=>ta U H λZ J=>∃j:Int,Z=[.int j]/\ -(2 ^ 62)<=j/\j<2 ^ 62/\R (Itr 0 j.toNat) J
def JP(T:Gl X "range")(O:X.mg "range"=none)(B:PA X [a] ta)(N:starEach [a] X.env=[(false,eval a X.env)]:=by rfl):PI X tg (.Call (.Name "range" p) [a] [] pos) (zQ ta):=by
 intro Z s U H R I h;refine Call_<|UN I T O boot_range<|vo (thn (B pos Z s U H _ I h) λF s1 ⟨E,A,D,L,J⟩=>?_) N rfl;obtain⟨j,e,J,M,q⟩:=J;subst e
 cases L with
 |cons r G=>
  cases G;obtain⟨t,rfl⟩:=r;exact call_range_1<|Im D (by omega) (by omega) J M<|by simpa using q
def Uq(wi:TI)(g:TG)(tb:TS):TS:=λD U H=>wi U H λJ O=>∃W:Nat->Nat->St->Hp->Prop,(∃m,W 0 m U O)/\∀i m U H,W i m U H->
 (J.stop i H/\D.nx U H)\/(J.go i H/\∃N:kO,(∀L Z,N L Z->∃G,G<m/\W (i+1) G L Z)/\∀x Z,J.yld i H x Z->g x U Z fun σ2 M=>tb {D with nx:=N,ct:=N,bk:=D.nx} σ2 M)
def VU(fp:kF)(h:Heap):ky:=fp.filterMap λb=>(h.get? b).map λo=>(b,o)
def JO(Z:b∈fp)(e:h.get? b=some o):(b,o)∈VU fp h:=List.mem_filterMap.mpr ⟨b,Z,by rw[e];rfl⟩
def Wc(Z:p∈VU fp h):p.1∈fp/\h.get? p.1=some p.2:=by
 obtain⟨b,J,e⟩:=List.mem_filterMap.mp Z
 cases q:h.get? b with
 |none=>rw[q]at e;cases e
 |some o=>
  rw[q]at e;have G:(b,o)=p:=ZT e;subst G;exact⟨J,q⟩
def Inv.pinned(I:Inv X Z U H s)(N:∀b∈fp,UA X Z H b)(M:∀b∈fp,∃o,s.heap.get? b=some o/\∀v,o.data≠.cell v):Inv X (Z++ VU fp s.heap) U H s:=
 I.pins_of λp L=>(ZX.mp L).elim (λz=>I.pin p<|ZU _ z) λz=>by
  obtain⟨J,e⟩:=Wc z;obtain⟨T,R,O,_⟩:=N p.1 J;obtain⟨o,G,d⟩:=M p.1 J;rw[e]at G;cases G;exact⟨e,T,R,O,d⟩
def Inv.unpinned(I:Inv X (Z++ pl) U H s):Inv X Z U H s:=I.pins_of λp J=>I.pin p<|ZU _<|vT _ J
def V9(S:PassesOwn (model X.prog X.w) X.A X.env X.xe)(a:X.calm=true)(hi:PI X tg iter wi)(hg:PG X tg g)(L:PSs X body tb)(hs:∀x,foldedSetIterable iter X.env x=pure x:=by intro _;rfl):PS X (.For tg iter body [] pos) (Uq wi g tb):=by
 intro Z s U H D I h;refine wpAny_For (thn (hi Z s U H _ I h) λv s1 h1=>thn h1 λJ2 s2 h2=>?_) hs;obtain⟨it,P,p,J,H2,e,I2,T,y,f2,W,⟨m0,w0⟩,turn⟩:=h2;subst e;have G:∀{R:Hp},(∀b∈P,R b=none)->∀b∈P,UA X Z R b:=λhn b L=>⟨hn b L,(f2 b L).2⟩;refine codeAny_forLoop_any (λn l=>∃i Q R,Inv X Z Q R l/\p i l.heap/\(∀b∈P,R b=none)/\W i n Q R) ?_ m0 ⟨0,U,H2,I2,y,λb L=>(f2 b L).1,w0⟩;rintro n w ⟨i,σ3,j,I3,F,C,w3⟩;rcases turn i n σ3 j w3 with⟨stop,qn⟩|⟨go,N,hN,step⟩
 .refine jx S (thn (T.done X rfl rfl rfl a i Z w σ3 j X.xe I3 (G C) F stop) λr s4 ⟨q,I4⟩=>?_)
  subst q;exact qN ⟨σ3,j,I4,qn⟩
 .refine jx S (thn (T.item X rfl rfl rfl a i Z w σ3 j X.xe I3 (G C) F go) λr s4 ⟨u,q,h4⟩=>?_)
  subst q;refine jx S<|thn h4 λ_ c ⟨x,H5,I5,r5,y5,E,t⟩=>?_;have k:=I5.pinned (G t)<|T.obj _ _ E;refine jx S<|thn (hg _ c σ3 H5 x u _ k r5<|step x H5 y5) λ_ s6 ⟨σ6,H6,I6,q6⟩=>?_;refine jx S<|thn (L _ s6 σ6 H6 _ I6 q6) λf z B=>?_
  have again:∀{σ7:St}{O:Hp},Inv X (Z++ VU P c.heap) σ7 O z->N σ7 O->∃m,m<n/\∃i Q R,Inv X Z Q R z/\p i z.heap/\(∀b∈P,R b=none)/\W i m Q R:=λ{σ7 O} M A=>by
   obtain⟨m',hm,w7⟩:=hN σ7 O A;refine⟨m',hm,i+1,σ7,O,M.unpinned,T.keep _ _ _ E λb L o e=>(M.pin (b,o)<|ZU _<|ZU _<|JO L e).1,λb L=>?_,w7⟩;obtain⟨o,e,d⟩:=T.obj _ _ E b L;exact(M.pin (b,o)<|ZU _<|ZU _<|JO L e).2.1
  cases f with
  |next=>obtain⟨σ7,O,M,A⟩:=B;exact again M A
  |cont=>obtain⟨σ7,O,M,A⟩:=B;exact again M A
  |brk=>obtain⟨σ7,O,M,B⟩:=B;exact⟨σ7,O,M.unpinned,B⟩
  |ret v=>obtain⟨x7,σ7,O,M,r7,B⟩:=B;exact⟨x7,σ7,O,M.unpinned,r7,B⟩
end
def Li{K:PySem.W.Frag}{g:TG}{O:TS}{D:Ends}(J:kM)(I:J 0 U H)(F:∀i U H,i<=Z.length->J i U H->SqL K H a Z)(E:∀i x U H,Z[i]?=some x->J i U H->g x U H fun σ2 M=>O {D with nx:=J<|i+1,ct:=J<|i+1,bk:=D.nx} σ2 M)(hd:∀U H,J Z.length U H->D.nx U H):
  ∃W:Nat->Nat->St->Hp->Prop,(∃m,W 0 m U H)/\∀i m U H,W i m U H->
   ((Itl K a).stop i H/\D.nx U H)\/((Itl K a).go i H/\∃N:kO,(∀L G,N L G->∃R,R<m/\W (i+1) R L G)/\∀x G,(Itl K a).yld i H x G->g x U G fun σ2 M=>O {D with nx:=N,ct:=N,bk:=D.nx} σ2 M):=by
 refine⟨λi m U H=>m=Z.length-i/\i<=Z.length/\J i U H,⟨Z.length,by simp,Zc _,I⟩,?_⟩;rintro i m U H ⟨rfl,A,p⟩;have q:=F i U H A p
 by_cases hlt:i<Z.length
 .refine .inr ⟨⟨Z,Z[i],q,by simp[hlt]⟩,J<|i+1,λL G T=>⟨Z.length-(i+1),by omega,rfl,hlt,T⟩,λx G y=>?_⟩
  obtain⟨e,y⟩:=y;subst e;exact E i x U _ (y Z q) p
 .have e:i=Z.length:=by omega
  subst e;exact .inl ⟨⟨Z,q,ZG _⟩,hd U H p⟩
def EV{K:PySem.W.Frag}{g:TG}{M:TS}{D:Ends}(Z:kM)(A:Z 0 U H)(E:∀i U H,i<=xs.length->Z i U H->SqT K H a xs)(B:∀i x U H,xs[i]?=some x->Z i U H->g x U H fun σ2 L=>M {D with nx:=Z<|i+1,ct:=Z<|i+1,bk:=D.nx} σ2 L)(hd:∀U H,Z xs.length U H->D.nx U H):
  ∃W:Nat->Nat->St->Hp->Prop,(∃m,W 0 m U H)/\∀i m U H,W i m U H->
   ((Itt K a).stop i H/\D.nx U H)\/((Itt K a).go i H/\∃N:kO,(∀G J,N G J->∃O,O<m/\W (i+1) O G J)/\∀x J,(Itt K a).yld i H x J->g x U J fun σ2 L=>M {D with nx:=N,ct:=N,bk:=D.nx} σ2 L):=by
 refine⟨λi m U H=>m=xs.length-i/\i<=xs.length/\Z i U H,⟨xs.length,by simp,Zc _,A⟩,?_⟩;rintro i m U H ⟨rfl,F,p⟩;have q:=E i U H F p
 by_cases hlt:i<xs.length
 .refine .inr ⟨⟨xs,xs[i],q,by simp[hlt]⟩,Z<|i+1,λG J R=>⟨xs.length-(i+1),by omega,rfl,hlt,R⟩,λx J y=>?_⟩
  obtain⟨e,y⟩:=y;subst e;exact B i x U _ (y xs q) p
 .have e:i=xs.length:=by omega
  subst e;exact .inl ⟨⟨xs,q,ZG _⟩,hd U H p⟩
def FH{G:Int}{g:TG}{O:TS}{D:Ends}(Z:kM)(F:Z 0 U H)(E:∀i U H,i<n->Z i U H->g (.int<|G+i) U H fun σ2 M=>O {D with nx:=Z<|i+1,ct:=Z<|i+1,bk:=D.nx} σ2 M)(hd:∀U H,Z n U H->D.nx U H):
  ∃W:Nat->Nat->St->Hp->Prop,(∃m,W 0 m U H)/\∀i m U H,W i m U H->
   ((Itr G n).stop i H/\D.nx U H)\/((Itr G n).go i H/\∃N:kO,(∀L J,N L J->∃R,R<m/\W (i+1) R L J)/\∀x J,(Itr G n).yld i H x J->g x U J fun σ2 M=>O {D with nx:=N,ct:=N,bk:=D.nx} σ2 M):=by
 refine⟨λi m U H=>m=n-i/\i<=n/\Z i U H,⟨n,by simp,Zc _,F⟩,?_⟩;rintro i m U H ⟨rfl,A,p⟩
 by_cases hlt:i<n
 .refine .inr ⟨hlt,Z<|i+1,λL J T=>⟨n-(i+1),by omega,rfl,hlt,T⟩,λx J y=>?_⟩
  obtain⟨e,y⟩:=y;subst e y;exact E i U _ hlt p
 .have e:i=n:=by omega
  subst e;exact .inl ⟨ZG _,hd U H p⟩
abbrev R2:=V->V->Hp->VK->Prop
def OpR(X:Cx)(f:Value->Value->Sem Value)(r:R2):Prop:=
 ∀(Z:ky)(s:Shared)(U:St)(H:Hp)(x y:V)(v u:Value)(Q:VK),Inv X Z U H s->RelV x v->RelV y u->r x y H Q->
  wpAny (model X.prog X.w) X.A (f v u) (EP X Z U Q) X.xe s
def UnR(X:Cx)(f:Value->Sem Value)(r:V->Hp->VK->Prop):Prop:=
 ∀(Z:ky)(s:Shared)(U:St)(H:Hp)(x:V)(v:Value)(Q:VK),Inv X Z U H s->RelV x v->r x H Q->
  wpAny (model X.prog X.w) X.A (f v) (EP X Z U Q) X.xe s
def Js(X:Cx)(f:Value)(r:List V->Hp->VK->Prop):Prop:=
 ∀(Z:ky)(s:Shared)(U:St)(H:Hp)(J:kL)(G:kB)(Q:VK),Inv X Z U H s->Vals J G->r J H Q->
  wpAny (model X.prog X.w) X.A (call f G) (EP X Z U Q) X.xe s
def tOp(r:R2)(ta tb:TE):TE:=λU H Q=>ta U H λx J=>tb U J λy Z=>r x y Z Q
def tUn(r:V->Hp->VK->Prop)(ta:TE):TE:=λU H Q=>ta U H λx Z=>r x Z Q
def rI(C:Int->Int->Prop)(g:Int->Int->V):R2:=λx y H Q=>UT x λi=>UT y λj=>C i j/\Q (g i j) H
def rI.old(h:rI C g x y H Q):∃i j,x=.int i/\y=.int j/\C i j/\Q (g i j) H:=by
 replace h:=UT.old h;obtain⟨i,e,h⟩:=h;replace h:=UT.old h;obtain⟨j,Z,h⟩:=h;exact⟨i,j,e,Z,h⟩
def rI0(g:Int->Int->V):R2:=λx y H Q=>UT x λi=>UT y λj=>Q (g i j) H
def rI0.old(h:rI0 g x y H Q):∃i j,x=.int i/\y=.int j/\Q (g i j) H:=by
 replace h:=UT.old h;obtain⟨i,e,h⟩:=h;replace h:=UT.old h;obtain⟨j,Z,h⟩:=h;exact⟨i,j,e,Z,h⟩
def rU(g:Int->V):V->Hp->VK->Prop:=λx H Q=>∃i,x=.int i/\Q (g i) H
section
def Au(A:PE X a ta)(F:PE X b tb){R:V->V->Hp->Prop}(I:Inv X Z U H s)(h:ta U H λx N=>tb U N λy J=>R x y J){f:Value->Value->Sem Value}(E:∀v u M x y J,Inv X Z U J M->RelV x v->RelV y u->R x y J->wpAny (model X.prog X.w) X.A (f v u) Q X.xe M):
  wpAny (model X.prog X.w) X.A (eval a X.env) (λv L=>wpAny (model X.prog X.w) X.A (eval b X.env) (λu G=>wpAny (model X.prog X.w) X.A (f v u) Q X.xe G) X.xe L) X.xe s:=by
 refine thn (A Z s U H _ I h) λv s1 ⟨x,N,C,T,D⟩=>?_;refine thn (F Z s1 U N _ C D) λu M ⟨y,J,S,O,B⟩=>?_;exact E v u M x y J S T O B
def Y7(M:OpR X (binaryOp op) r)(O:PE X a ta)(N:PE X b tb):PE X (.BinOp a op b pos) (tOp r ta tb):=by
 intro Z s U H Q I h;exact wpAny_BinOp<|Au O N I h λv u J x y T R L G q=>M Z J U T x y v u Q R L G q
def NF(L:UnR X (unaryOp op) r)(M:PE X a ta):PE X (.UnaryOp op a pos) (tUn r ta):=by
 intro Z s U H Q I h;exact UnaryOp_<|thn (M Z s U H _ I h) λv s1 ⟨x,O,N,J,G⟩=>L Z s1 U O x v Q N J G
def opI{g:Int->Int->Int}(rule:∀(i j:Int)(t u:Tok)(s:Shared)(Q:kz)(E:kz),C i j->Q (.int (g i j) s.toks) {s with toks:=s.toks+1}->wpAny (model X.prog X.w) X.A (f (.int i t)<|.int j u) Q E s):
  OpR X f (rI C λi j=>.int<|g i j):=by
 intro Z s U H x y v u Q I L G h;replace h:=rI.old h;obtain⟨i,j,rfl,rfl,M,q⟩:=h;obtain⟨t,rfl⟩:=L;obtain⟨J,rfl⟩:=G;exact rule i j t J s _ _ M ⟨.int<|g i j,H,I.tok _,⟨_,rfl⟩,q⟩
def AC{g:Int->Int->Int}(rule:∀(i j:Int)(t u:Tok)(s:Shared)(Q:kz)(E:kz),Q (.int (g i j) s.toks) {s with toks:=s.toks+1}->wpAny (model X.prog X.w) X.A (f (.int i t)<|.int j u) Q E s):
  OpR X f (rI0 λi j=>.int<|g i j):=by
 intro Z s U H x y v u Q I L G h;replace h:=rI0.old h;obtain⟨i,j,rfl,rfl,q⟩:=h;obtain⟨t,rfl⟩:=L;obtain⟨J,rfl⟩:=G;exact rule i j t J s _ _ ⟨.int<|g i j,H,I.tok _,⟨_,rfl⟩,q⟩
def PQ{g:Int->Int->Bool}(rule:∀(i j:Int)(t u:Tok)(s:Shared)(Q:kz)(E:kz),Q (.bool<|g i j) s->wpAny (model X.prog X.w) X.A (f (.int i t)<|.int j u) Q E s):
  OpR X f (rI0 λi j=>.bl<|g i j):=by
 intro Z s U H x y v u Q I L G h;replace h:=rI0.old h;obtain⟨i,j,rfl,rfl,q⟩:=h;obtain⟨t,rfl⟩:=L;obtain⟨J,rfl⟩:=G;exact rule i j t J s _ _ ⟨.bl<|g i j,H,I,rfl,q⟩
def vQ(i j:Int):Prop:=0<j/\j<1073741824
def yF(i j:Int):Prop:=0<=j/\j<=1000000/\i.natAbs<2 ^ 64
def QO(i j:Int):Prop:=(-(2 ^ 64)<i/\i<2 ^ 64)\/(-(2 ^ 64)<j/\j<2 ^ 64)
def QO.ok(h:QO i j):IntMulOk i j:=by
 rcases h with⟨J,Z⟩|⟨J,Z⟩
 .exact .of_left (intBits_le_64 J Z)
 .exact .of_right (intBits_le_64 J Z)
def Vk:OpR X (binaryOp .Add) (rI0 λi j=>.int<|i+j):=AC λ_ _ _ _ _ _ _ q=>add_int q
def KS:OpR X (binaryOp .Sub) (rI0 λi j=>.int<|i-j):=AC λ_ _ _ _ _ _ _ q=>sub_int q
def Uy:OpR X (binaryOp .Mult) (rI QO λi j=>.int<|i*j):=opI λ_ _ _ _ _ _ _ Z q=>mul_int q Z.ok
def EC:OpR X (binaryOp .FloorDiv) (rI vQ λi j=>.int<|i / j):=opI λi j _ _ _ _ _ Z q=>by
 have G:(0:Int)<j:=Z.1;have J:j<1073741824:=Z.2;exact floordiv_int (by omega) (by rw[Int.fdiv_eq_ediv_of_nonneg i (by omega)];exact q)<|.inl<|PyProof.noPylong_small<|by omega
def Jf:OpR X (binaryOp .Mod) (rI (λ_ j=>0<j) λi j=>.int<|i % j):=opI λi j _ _ _ _ _ Z q=>by
 have J:(0:Int)<j:=Z;exact mod_int' (by omega) (by rw[Int.fmod_eq_emod_of_nonneg i (by omega)];exact q)
def KU:OpR X (binaryOp .Pow) (rI yF λi j=>.int<|i ^ j.toNat):=opI λ_ _ _ _ _ _ _ Z q=>pow_int_small Z.1 Z.2.1 Z.2.2 q
def Pu:OpR X (inplaceOp .Add) (rI0 λi j=>.int<|i+j):=AC λ_ _ _ _ _ _ _ q=>iadd_int q
def Ps:OpR X (inplaceOp .Mult) (rI QO λi j=>.int<|i*j):=opI λ_ _ _ _ _ _ _ Z q=>imul_int q Z.ok
def unI{g:Int->Int}(rule:∀(i:Int)(t:Tok)(s:Shared)(Q:kz)(E:kz),Q (.int (g i) s.toks) {s with toks:=s.toks+1}->wpAny (model X.prog X.w) X.A (f<|.int i t) Q E s):
  UnR X f (rU λi=>.int<|g i):=by
 intro Z s U H x v Q I J h;obtain⟨i,rfl,q⟩:=h;obtain⟨t,rfl⟩:=J;exact rule i t s _ _ ⟨.int<|g i,H,I.tok _,⟨_,rfl⟩,q⟩
def Gc:UnR X (unaryOp .USub) (rU λi=>.int<|-i):=unI λ_ _ _ _ _ q=>neg_int q
end
def CM:V->V->Bool
 |.non,.non=>true|.non,.int _=>true|.int _,.non=>true|.non,.bl _=>true|.bl _,.non=>true|.non,.str _=>true|.str _,.non=>true
 |.int _,.int _=>true|.bl _,.bl _=>true|.str _,.str _=>true|.byt _,.byt _=>true
 |.int _,.str _=>true|.str _,.int _=>true|.bl _,.str _=>true|.str _,.bl _=>true
 |_,_=>false
def rEq:R2:=λx y H Q=>CM x y=true/\Q (.bl<|decide<|x=y) H
def rNe:R2:=λx y H Q=>CM x y=true/\Q (.bl<|!decide (x=y)) H
def EZ:decide (V.int i=V.int j)=(i==j):=by
 rw[jr];simp
def Ls:decide (V.bl i=V.bl j)=(i==j):=by
 rw[jr];simp
def EY:decide (V.str i=V.str j)=(i==j):=by
 rw[jr];simp
def Ea:decide (V.byt i=V.byt j)=(i.toList==j.toList):=by
 rw[jr];cases i;cases j;simp
section
variable{a b c:Expr}{ta tb tc:TE}
def VM(I:Inv X Z U H s)(q:Q (.bl k) H)(e:k=k'):EP X Z U Q (.bool k') s:=by
 subst e;exact⟨.bl k,H,I,Y,q⟩
def Vc:OpR X (compareOp .Eq) rEq:=by
 intro M s U H x y v u Q I L Z h;obtain⟨G,q⟩:=h
 cases x with
 |non=>
  cases L
  cases y with
  |non=>cases Z;exact PySem.EqNone.eq_none_none<|VM I q<|by simp
  |bl j=>cases Z;exact PySem.EqNone.eq_none_bool<|VM I q<|by simp
  |int j=>obtain⟨J,rfl⟩:=Z;exact PySem.EqNone.eq_none_int<|VM I q<|by simp
  |str j=>obtain⟨J,rfl⟩:=Z;exact PySem.EqNone.eq_none_str<|VM I q<|by simp
  |_=>exact Zr (show false=true from G) Zi
 |bl i=>
  cases L
  cases y with
  |non=>cases Z;exact PySem.EqNone.eq_bool_none<|VM I q<|by simp
  |bl j=>cases Z;exact eq_bool<|VM I q Ls
  |str j=>obtain⟨J,rfl⟩:=Z;exact PySem.EqMixed.eq_bool_str<|VM I q<|by simp
  |_=>exact Zr (show false=true from G) Zi
 |int i=>
  obtain⟨t,rfl⟩:=L
  cases y with
  |non=>cases Z;exact PySem.EqNone.eq_int_none<|VM I q<|by simp
  |int j=>obtain⟨J,rfl⟩:=Z;exact eq_int<|VM I q EZ
  |str j=>obtain⟨J,rfl⟩:=Z;exact PySem.EqMixed.eq_int_str<|VM I q<|by simp
  |_=>exact Zr (show false=true from G) Zi
 |str i=>
  obtain⟨t,rfl⟩:=L
  cases y with
  |non=>cases Z;exact PySem.EqNone.eq_str_none<|VM I q<|by simp
  |bl j=>cases Z;exact PySem.EqMixed.eq_str_bool<|VM I q<|by simp
  |int j=>obtain⟨J,rfl⟩:=Z;exact PySem.EqMixed.eq_str_int<|VM I q<|by simp
  |str j=>obtain⟨J,rfl⟩:=Z;exact eq_str<|VM I q EY
  |_=>exact Zr (show false=true from G) Zi
 |byt i=>
  obtain⟨t,rfl⟩:=L
  cases y with
  |byt j=>obtain⟨J,rfl⟩:=Z;exact W.eq_bytes<|VM I q Ea
  |_=>exact Zr (show false=true from G) Zi
 |_=>cases y <;> exact Zr (show false=true from G) Zi
def UR:OpR X (compareOp .NotEq) rNe:=by
 intro M s U H x y v u Q I L Z h;obtain⟨G,q⟩:=h
 cases x with
 |non=>
  cases L
  cases y with
  |non=>cases Z;exact PySem.EqNone.ne_none_none<|VM I q<|by simp
  |bl j=>cases Z;exact PySem.EqNone.ne_none_bool<|VM I q<|by simp
  |int j=>obtain⟨J,rfl⟩:=Z;exact PySem.EqNone.ne_none_int<|VM I q<|by simp
  |str j=>obtain⟨J,rfl⟩:=Z;exact PySem.EqNone.ne_none_str<|VM I q<|by simp
  |_=>exact Zr (show false=true from G) Zi
 |bl i=>
  cases L
  cases y with
  |non=>cases Z;exact PySem.EqNone.ne_bool_none<|VM I q<|by simp
  |bl j=>cases Z;exact ne_bool<|VM I q<|congrArg not Ls
  |str j=>obtain⟨J,rfl⟩:=Z;exact PySem.EqMixed.ne_bool_str<|VM I q<|by simp
  |_=>exact Zr (show false=true from G) Zi
 |int i=>
  obtain⟨t,rfl⟩:=L
  cases y with
  |non=>cases Z;exact PySem.EqNone.ne_int_none<|VM I q<|by simp
  |int j=>obtain⟨J,rfl⟩:=Z;exact ne_int<|VM I q<|congrArg not EZ
  |str j=>obtain⟨J,rfl⟩:=Z;exact PySem.EqMixed.ne_int_str<|VM I q<|by simp
  |_=>exact Zr (show false=true from G) Zi
 |str i=>
  obtain⟨t,rfl⟩:=L
  cases y with
  |non=>cases Z;exact PySem.EqNone.ne_str_none<|VM I q<|by simp
  |bl j=>cases Z;exact PySem.EqMixed.ne_str_bool<|VM I q<|by simp
  |int j=>obtain⟨J,rfl⟩:=Z;exact PySem.EqMixed.ne_str_int<|VM I q<|by simp
  |str j=>obtain⟨J,rfl⟩:=Z;exact ne_str<|VM I q<|congrArg not EY
  |_=>exact Zr (show false=true from G) Zi
 |byt i=>
  obtain⟨t,rfl⟩:=L
  cases y with
  |byt j=>obtain⟨J,rfl⟩:=Z;exact W.ne_bytes<|VM I q<|congrArg not Ea
  |_=>exact Zr (show false=true from G) Zi
 |_=>cases y <;> exact Zr (show false=true from G) Zi
def Ck:OpR X (compareOp .Lt) (rI0 λi j=>.bl<|decide<|i<j):=PQ λ_ _ _ _ _ _ _ q=>lt_int q
def XO:OpR X (compareOp .LtE) (rI0 λi j=>.bl<|decide<|i<=j):=PQ λ_ _ _ _ _ _ _ q=>le_int q
def Xt:OpR X (compareOp .Gt) (rI0 λi j=>.bl<|decide<|j<i):=PQ λ_ _ _ _ _ _ _ q=>gt_int q
def Qf:OpR X (compareOp .GtE) (rI0 λi j=>.bl<|decide<|j<=i):=PQ λ_ _ _ _ _ _ _ q=>ge_int q
def E3:OpR X (compareOp .In) (λx y H Q=>∃i j,x=.str i/\y=.str j/\Q (.bl<|!(Builtin.Str.occurrences j i 0 j.length 1).isEmpty) H):=by
 intro Z s U H x y v u Q I G J h;obtain⟨i,j,rfl,rfl,q⟩:=h;obtain⟨t,rfl⟩:=G;obtain⟨L,rfl⟩:=J;exact in_str<|VM I q rfl
def Wb:OpR X (compareOp .Is) (λx y H Q=>y=.non/\Q (.bl<|decide<|x=.non) H):=by
 intro J s U H x y v u Q I Z G h;obtain⟨rfl,q⟩:=h;cases G;refine is_none_gen<|VM I q ?_;cases x <;> first
  |(cases Z;rfl)
  |(obtain⟨t,rfl⟩:=Z;rfl)
def OpR.or(h:OpR X f r)(L:OpR X f r'):OpR X f (λx y H Q=>r x y H Q\/r' x y H Q):=by
 intro Z s U H x y v u Q I G J q;rcases q with q|q
 .exact h Z s U H x y v u Q I G J q
 .exact L Z s U H x y v u Q I G J q
def Y0(b:Expr)(h:op≠.In:=by decide)(Z:op≠.NotIn:=by decide):behindInMarks op b=false:=by
 have G:(op==CmpOp.In)=false:=by cases op <;> first|rfl|exact Zr Y h
 have J:(op==CmpOp.NotIn)=false:=by cases op <;> first|rfl|exact Zr Y Z
 cases b <;> simp[behindInMarks,G,J]
def JF(M:OpR X (compareOp op) r)(R:PE X a ta)(O:PE X b tb)(N:behindInMarks op b=false):PE X (.Compare a [op] [b] pos) (tOp r ta tb):=by
 intro Z s U H Q I h;exact wpAny_Compare1 (Au R O I h λv u J x y B T L G q=>M Z J U B x y v u Q T L G q) N
def QU(t:TE):TT:=λU H Q=>t U H λx Z=>∃k,x=.bl k/\Q k Z
def Ys(T:OpR X (compareOp op) r)(E:PE X a ta)(D:PE X b tb)(B:behindInMarks op b=false):PT X (.Compare a [op] [b] pos) (QU<|tOp r ta tb):=by
 intro Z s U H Q I h
 refine wpAny_isTrue_Compare1 (thn (E Z s U H _ I h) λv s1 ⟨x,j,S,M,R⟩=>thn (D Z s1 U j _ S R) λu J ⟨y,P,A,L,O⟩=>
  thn (T Z J U P x y v u _ A M L O) λc q ⟨z,C,F,G,k,e,N⟩=>?_) B
 subst e;cases G;exact vv ⟨C,F,N⟩
def Fy(r r':R2)(ta tb tc:TE):TE:=λU H Q=>ta U H λx M=>tb U M λy L=>r x y L λz Z=>∃k,z=.bl k/\
 (if k=true then tc U Z λJ G=>r' y J G Q else Q (.bl false) Z)
def KM(j:OpR X (compareOp op) r)(J:OpR X (compareOp op') r')(g:PE X a ta)(m:PE X b tb)(t:PE X c tc)(q:lastMarks [op,op'] [b,c]=false:=by with_unfolding_all rfl):PE X (.Compare a [op,op'] [b,c] pos) (Fy r r' ta tb tc):=by
 intro Z s U H Q I h
 refine Compare_chain (thn (g Z s U H _ I h) λv s1 ⟨x,i,w,A,P⟩=>chain_link (thn (m Z s1 U i _ w P) λu D ⟨y,o,f,G,C⟩=>
  thn (j Z D U o x y v u _ f A G C) λd B ⟨z,N,M,F,k,e,L⟩=>?_)) q
 subst e;cases F;refine vv ?_
 cases k with
 |false=>exact ite_ff ⟨.bl false,N,M,Y,L⟩
 |true=>exact ite_tt<|chain_last<|thn (t Z B U N _ M L) λR T ⟨O,l,p,E,S⟩=>J Z T U l y O u R Q p G E S
def Xr(m:OpR X (compareOp op) r)(J:OpR X (compareOp op') r')(w:PE X a ta)(f:PE X b tb)(p:PE X c tc)(g:lastMarks [op,op'] [b,c]=false:=by with_unfolding_all rfl):PT X (.Compare a [op,op'] [b,c] pos) (QU<|Fy r r' ta tb tc):=by
 intro Z s U H Q I h
 refine isTrue_chain (thn (w Z s U H _ I h) λv s1 ⟨x,H1,I1,S,q⟩=>test_link (thn (f Z s1 U H1 _ I1 q) λu D ⟨y,H2,I2,G,j⟩=>
  thn (m Z D U H2 x y v u _ I2 S G j) λd B ⟨z,N,M,A,k,e,L⟩=>?_)) g
 subst e;cases A;refine vv ?_
 cases k with
 |false=>
  obtain⟨k',o,t⟩:=L;cases o;exact ite_ff ⟨N,M,t⟩
 |true=>
  refine ite_tt<|test_last<|thn (p Z B U N _ M L) λR T ⟨O,H4,n,F,P⟩=>thn (J Z T U H4 y O u R _ n G F P) λd' s5 ⟨z2,H5,i,E,k2,l,C⟩=>?_;subst l;cases E;exact vv ⟨H5,i,C⟩
def Wh:(sizeLine:Nat)<2 ^ 63:=by rw[ql];decide
def Xc:OpR X (binaryOp .Add) (λx y H Q=>∃i j,x=.str i/\y=.str j/\i.length+j.length<=sizeLine/\Q (.str<|i++ j) H):=by
 intro Z s U H x y v u Q I L G h;obtain⟨i,j,rfl,rfl,M,q⟩:=h;obtain⟨t,rfl⟩:=L;obtain⟨J,rfl⟩:=G;exact add_str (λJ N=>⟨.str<|i++ j,H,I.tok _,⟨_,rfl⟩,q⟩) M
def vals1(r:Vals [x] Z):∃u,Z=[u]/\RelV x u:=by
 cases r with
 |cons G J=>cases J;exact⟨_,Y,G⟩
def vals2(r:Vals [x,y] J):∃u Z,J=[u,Z]/\RelV x u/\RelV y Z:=by
 cases r with
 |cons N M=>
  cases M with
  |cons L G=>cases G;exact⟨_,_,Y,N,L⟩
def FS(G:X.calm=true):Js X (.builtin "max") (λZ H Q=>∃i j,Z=[.int i,.int j]/\Q (.int<|if j > i then j else i) H):=by
 intro J s U H Z M Q I r h;obtain⟨i,j,rfl,q⟩:=h;obtain⟨u,L,rfl,⟨t,rfl⟩,⟨O,rfl⟩⟩:=vals2 r;refine max_two_ints (I.ok.hd G) λR N k=>⟨_,H,I.kept k,?_,q⟩
 by_cases hj:j > i
 .rw [Zp hj,Zp hj];exact⟨_,Y⟩
 .rw [Zq hj,Zq hj];exact⟨_,Y⟩
def FR(G:X.calm=true):Js X (.builtin "min") (λZ H Q=>∃i j,Z=[.int i,.int j]/\Q (.int<|if j<i then j else i) H):=by
 intro J s U H Z M Q I r h;obtain⟨i,j,rfl,q⟩:=h;obtain⟨u,L,rfl,⟨t,rfl⟩,⟨O,rfl⟩⟩:=vals2 r;refine min_two_ints (I.ok.hd G) λR N k=>⟨_,H,I.kept k,?_,q⟩
 by_cases hj:j<i
 .rw [Zp hj,Zp hj];exact⟨_,Y⟩
 .rw [Zq hj,Zq hj];exact⟨_,Y⟩
def RO:Js X (.type "int") (λZ H Q=>(∃i,Z=[.int i]/\Q (.int i) H) \/ ∃k,Z=[.bl k]/\Q (.int<|if k then 1 else 0) H):=by
 intro J s U H Z G Q I r h;rcases h with⟨i,rfl,q⟩|⟨k,rfl,q⟩
 .obtain ⟨u,rfl,t,rfl⟩:=vals1 r
  exact call_int_int ⟨.int i,H,I,⟨_,Y⟩,q⟩
 .obtain ⟨u,rfl,r1⟩:=vals1 r
  cases r1;exact call_int_bool ⟨.int<|if k then 1 else 0,H,I.tok _,⟨_,rfl⟩,q⟩
end
structure Dc(h:Heap)(x dx C:Addr)(mA:Str->Option Value):Prop where
 obj:h.get? x=some (W.instObj C dx)
 ns:h.Ns1 dx mA
 ne:dx≠x
set_option tactic.hygienic true in
def FB{h:Heap}(n:h.Ns1 R mA):∃J,h.get? R=some J/\∀name,W.lookIn name J=some (mA name):=by
 obtain⟨o,G,B,M,hd,O,_,N⟩:=n;refine⟨o,M,λname=>?_⟩;have e:=N name;unfold nsFind findBy at e;rw[<-Array.find?_toList]at e;unfold W.lookIn;rw[hd];dsimp only
 split
 .rename_i y q
  rw[q]at e;exact congrArg some e
 .rename_i q
  rw[q]at e
  have a:G.toList.any (·.refKey)=false:=by
   rw[qR];intro y L;obtain⟨z,t,Z⟩:=O y<|Array.mem_toList_iff.mp L;simp[DictEntry.refKey,Z]
  have T:¬G.toList.any (·.refKey)=true:=by rw[a];exact Zi
  rw[Zq T];exact congrArg some e
def Dc.look(I:Dc h x L C mA):∃Z,W.InstAt h x (W.instObj C L) C (some Z)/\∀name,W.lookIn name Z=some (mA name):=
 let⟨Z,J,G⟩:=FB I.ns
 ⟨Z,⟨I.obj,rfl,rfl,J⟩,G⟩
section
variable{K:W.Frag}
def P0(X:K.In s.heap)(I:Dc s.heap x T C mA)(N:W.plainGet K C name=true)(M:W.hasDictIn K C=true)(O:W.findIn K (.ref C) name=some none)(G:mA name=some v)(Z:W.handedIn v=true)(h:Q v {s with toks:=s.toks+1}):
  wpAny (model prog w) A (getAttr (.ref x) name expr) Q E s:=by
 obtain⟨R,J,L⟩:=I.look;exact W.get_value X J (W.plainGet_of N).1 (W.findObj_own M O Y (by rw[L,G])) Z h
def Ld(X:K.In s.heap)(I:Dc s.heap x R C mA)(Z:W.plainGet K C name=true)(O:W.findIn K (.ref C) name=some (some<|.ref f))(M:W.isFn K (.ref f)=true)(L:mA name=none)(h:Q (.ref f,[.ref x]) s):
  wpAny (model prog w) A (getMethod (.ref x) name pl) Q E s:=by
 obtain⟨G,J,N⟩:=I.look;exact W.method_fn X J (W.plainGet_of Z).1 (W.plainGet_of Z).2 O (beq_iff_eq.mp M) (by show(W.lookIn name G).map (·.isSome)=some false;rw[N,L];rfl) h
def Od(X:K.In s.heap)(I:Dc s.heap x M C mA)(U:W.findIn K (.ref C) "__setattr__"=some (some<|.builtin "object.__setattr__"))(P:W.plainOver K C=true)(F:W.takerIn K C name=some none)(j:W.hasDictIn K C=true)(D:PySem.Within mA T)(S:T.length<=sizeLine)(h:∀L,Dc L x M C (λy=>if y=name then some v else mA y)->Heap.SameBut M s.heap L->Q () {s with heap:=L,toks:=s.toks+2}):
  wpAny (model prog w) A (setAttr (.ref x) name v) Q E s:=by
 obtain⟨m,J,k⟩:=I.look;refine W.set_plain X J U<|W.osa_open (s:={s with toks:=s.toks+1}) (r:=none) X J P F λb=>?_;obtain⟨p,z,O⟩:=W.any_some j;have B:s.heap.get? x=some ⟨.ref C,some M,.plain,#[]⟩:=I.obj;refine Zl<|Zm<|Zl<|Zl<|wpAny_loadPart B<|Zl<|W.Looks.here (s:={s with toks:=s.toks+1}) (W.looks_clsIn X z) ?_;rw[O];refine Zm (a:=some M)<|Zl<|Zm<|Zl ?_;refine wpAny_nsSet1 (s:={s with toks:=s.toks+1}) I.ns λL G Z=>?_;obtain⟨g,q,t,N,hdD,R⟩:=G.count<|PySem.Within.cons name v D;refine Zl<|wpAny_lookBehind N (by rw[hdD];exact pastItsLine_dict<|Zb R (by rw[Zf];omega)) ?_;exact Zm<|h _ ⟨(Z.2 _<|Zs I.ne).trans I.obj,G,I.ne⟩ Z
def LB(X:K.In s.heap)(J:W.makesIn K C=true)(G:W.findIn K (.ref C) "__init__"=some (some<|.ref f))(L:W.typeIn K (.ref f)=some (.type "function"))(h:codeAny (model prog w) (A.under<|.builtin "type.__call__" ⟨.ref C::Z,kw⟩) (.call (.ref f) ⟨.ref (s.heap.objs.size+1)::Z,kw⟩) (W.InitBack (s.heap.objs.size+1) R)
   {s with heap:=(s.heap.push W.emptyDict).push (W.instObj C s.heap.objs.size)}):
  codeAny (model prog w) A (.call (.ref C) ⟨Z,kw⟩) R s:=by
 obtain⟨N,g,d,t,M⟩:=s;exact W.make_core (W.makes_of X J) (W.looks_findIn X G) (λself=>W.bind_fn X self L) (.inl Y) h
end
def VQ(f:Str)(v:V):List (Str×V)->List (Str×V)
 |[]=>[(f,v)]
 |(g,x)::r=>if g=f then(g,v)::r else(g,x)::VQ f v r
theorem Wy(f g:Str)(v:V):∀Z:List (Str×V),(VQ f v Z).lookup g=if g=f then some v else Z.lookup g
 |[]=>by
  show List.lookup g [(f,v)]=_
  by_cases h:g=f
  .have hb:(g==f)=true:=beq_iff_eq.mpr h
   simp only[List.lookup,hb,Zp h]
  .have hb:(g==f)=false:=beq_eq_false_iff_ne.mpr h
   simp only[List.lookup,hb,Zq h]
 |(k,x)::r=>by
  have ih:=Wy f g v r;rw[show VQ f v ((k,x)::r)=(if k=f then(k,v)::r else(k,x)::VQ f v r)from rfl]
  by_cases hk:k=f
  .rw [Zp hk]
   by_cases h:g=k
   .have hb:(g==k)=true:=beq_iff_eq.mpr h
    simp only[List.lookup,hb,Zp (h.trans hk)]
   .have hb:(g==k)=false:=beq_eq_false_iff_ne.mpr h
    simp only[List.lookup,hb,Zq (λe:g=f=>h<|e.trans hk.symm)]
  .rw [Zq hk]
   by_cases h:g=k
   .have hb:(g==k)=true:=beq_iff_eq.mpr h
    simp only[List.lookup,hb,Zq (λe:g=f=>hk<|h.symm.trans e)]
   .have hb:(g==k)=false:=beq_eq_false_iff_ne.mpr h
    simp only[List.lookup,hb];exact ih
theorem Wi(f:Str)(v:V):∀Z:List (Str×V),f∈(VQ f v Z).map (·.1)/\∀g,g∈Z.map (·.1)->g∈(VQ f v Z).map (·.1)
 |[]=>⟨by simp[VQ],λg h=>by simp at h⟩
 |(k,x)::r=>by
  obtain⟨G,J⟩:=Wi f v r;rw[show VQ f v ((k,x)::r)=(if k=f then(k,v)::r else(k,x)::VQ f v r)from rfl]
  by_cases hk:k=f
  .rw [Zp hk]
   subst hk;exact⟨by simp,λg h=>by simpa using h⟩
  .rw [Zq hk]
   refine⟨?_,λg h=>?_⟩
   .rw [ZV]
    exact ZM _ G
   .rw [ZV]at h |-
    rcases Zd.mp h with e|e
    .exact Zd.mpr (.inl e)
    .exact ZM _ (J g e)
theorem Wz(f:Str)(v:V):∀Z:List (Str×V),(VQ f v Z).length<=Z.length+1
 |[]=>by simp[VQ]
 |(k,x)::r=>by
  have ih:=Wz f v r;rw[show VQ f v ((k,x)::r)=(if k=f then(k,v)::r else(k,x)::VQ f v r)from rfl]
  by_cases hk:k=f
  .rw [Zp hk,Zf,Zf];omega
  .rw [Zq hk,Zf,Zf];omega
def UX.some_of(r:UX (some v) o):∃u,o=some u/\RelV v u:=by
 cases o with
 |none=>exact(show False from r).elim
 |some u=>exact⟨u,Y,r⟩
def UX.none_of(r:UX none o):o=none:=by
 cases o with
 |none=>rfl
 |some u=>exact(show False from r).elim
def FF(r:RelV v u):W.handedIn u=true:=by
 cases v with
 |non=>cases(show u=Value.none from r);rfl
 |bl b=>cases(show u=Value.bool b from r);rfl
 |int i=>obtain⟨t,e⟩:=(show ∃t,u=Value.int i t from r);cases e;rfl
 |str x=>obtain⟨t,e⟩:=(show ∃t,u=Value.str x t from r);cases e;rfl
 |byt b=>obtain⟨t,e⟩:=(show ∃t,u=Value.bytes b t from r);cases e;rfl
 |flt b=>obtain⟨t,e⟩:=(show ∃t,u=Value.float b t from r);cases e;rfl
 |ref a=>cases(show u=Value.ref a from r);rfl
 |ty n=>cases(show u=Value.type n from r);rfl
section
def GQ(J:HOk P w H h)(e:H a=some (.ins C G fs)):∃Z,Dc h a G C Z/\(∀f,UX (fs.lookup f)<|Z f)/\PySem.Within Z (fs.map (·.1))/\fs.length<=1000/\H G=some (.own a):=by
 obtain⟨d,z,M,L,Z,n,r,q⟩:=(show VO P w H h a (.ins C G fs)from J a _ e);exact⟨Z,⟨L,n,M⟩,r,q,z,d⟩
end
structure Cls(K:W.Frag)(C:Addr):Prop where
 pg:W.plainGet K C Str.empty=true
 hd:W.hasDictIn K C=true
 po:W.plainOver K C=true
 sa:W.findIn K (.ref C) "__setattr__"=some (some (.builtin "object.__setattr__"))
def Cls.get{K:W.Frag}(c:Cls K C)(f:Str):W.plainGet K C f=true:=c.pg
def VG(K:W.Frag)(C:Addr)(f:Str):Prop:=W.findIn K (.ref C) f=some none
def VG.taker{K:W.Frag}(n:VG K C f):W.takerIn K C f=some none:=by
 unfold W.takerIn;rw[show W.findIn K (.ref C) f=some none from n]
 rfl
structure VI(K:W.Frag)(C:Addr)(m:Str)(f:Addr):Prop where
 at_:W.findIn K (.ref C) m=some (some (.ref f))
 fn:W.isFn K (.ref f)=true
 kp:W.keepIn K (.ref f)=true
section
def TU(I:Inv X Z U H s)(e:H a=some (.ins C N fs))(c:Cls X.K C)(n:VG X.K C f)(l:fs.lookup f=some v)(h:∀u J,Inv X Z U H J->RelV v u->Q u J):wpAny (model X.prog X.w) A (getAttr (.ref a) f b) Q E s:=by
 obtain⟨L,O,r,_,_,_⟩:=GQ I.hok e;obtain⟨u,M,G⟩:=UX.some_of (v:=v) (o:=L f) (by rw[<-l];exact r f);exact P0 I.kIn O (c.get f) c.hd n M (FF G)<|h u _ (I.tok _) G
def TR(I:Inv X Z U H s)(e:H a=some (.ins C L fs))(c:Cls X.K C)(k:VI X.K C m g)(l:fs.lookup m=none)(h:Q (.ref g,[.ref a]) s):wpAny (model X.prog X.w) A (getMethod (.ref a) m pl) Q E s:=by
 obtain⟨J,O,r,_,_,_⟩:=GQ I.hok e;have G:J m=none:=UX.none_of (by rw[<-l];exact r m);exact Ld I.kIn O (c.get m) k.at_ k.fn G h
def XY(I:Inv X Z U H s)(e:H a=some (.ins C J fs))(c:Cls X.K C)(n:VG X.K C f)(t:fs.length<1000)(B:RelV y u)(h:∀M,Inv X Z U (upd H a<|.ins C J<|VQ f y fs) M->Q () M):wpAny (model X.prog X.w) A (setAttr (.ref a) f u) Q E s:=by
 obtain⟨N,O,r,L,_,R⟩:=GQ I.hok e;have D:(fs.map (·.1)).length<=sizeLine:=by rw[ZA,ql];omega
 refine Od I.kIn O c.sa c.po n.taker c.hd L D λP G T=>h _ ?_;have hd:∃o,P.get? J=some o:=let⟨o,_,_,j,_⟩:=G.ns;⟨o,j⟩
 refine I.write (x:=a) (e:=J) (by rw[e];exact True.intro) (.inr R) (λb q S z=>(T.2 b S).trans z) hd ?_;refine⟨by rw[Yg O.ne];exact R,?_,O.ne,G.obj,_,G.ns,λg=>?_,λg F=>?_⟩
 .have:=Wz f y fs;omega
 .show UX ((VQ f y fs).lookup g) (if g=f then some u else N g)
  rw[Wy]
  by_cases q:g=f
  .rw [Zp q,Zp q];exact B
  .rw [Zq q,Zq q];exact r g
 .by_cases q:g=f
  .rw [q];exact(Wi f y fs).1
  .refine (Wi f y fs).2 g (L g λz=>F ?_)
   show(if g=f then some u else N g)=none;rw[Zq q];exact z
def Inv.made(I:Inv X Z U H s):Inv X Z U (upd (upd H s.heap.objs.size<|.own<|s.heap.objs.size+1) (s.heap.objs.size+1)<|.ins C s.heap.objs.size [])
  {s with heap:=(s.heap.push W.emptyDict).push (W.instObj C s.heap.objs.size)}:=by
 have G:(s.heap.push W.emptyDict).get? s.heap.objs.size=some W.emptyDict:=ZY s.heap rfl
 have O:((s.heap.push W.emptyDict).push<|W.instObj C s.heap.objs.size).get? (s.heap.objs.size+1)=some (W.instObj C s.heap.objs.size):=by
  have:=ZY (s.heap.push W.emptyDict) (o:=W.instObj C s.heap.objs.size) rfl
  rwa [vX]at this
 have N:(s.heap.push W.emptyDict).Ns s.heap.objs.size (λ_=>none):=⟨W.emptyDict,#[],_,G,rfl,(λe M=>Zr M<|by simp),λ_=>rfl⟩;have R:=I.laid (a:=s.heap.objs.size) (o:=.own<|s.heap.objs.size+1) (h':=s.heap.push W.emptyDict) (t':=s.toks) (λb u q=>ZE _ q) (ZG _) ⟨_,G⟩;refine R.laid (a:=s.heap.objs.size+1) (o:=.ins C s.heap.objs.size []) (t':=s.toks) (λb u q=>ZE _ q) (qg<|vX _ _) ?_;have J:s.heap.objs.size≠s.heap.objs.size+1:=Ze<|vf _;refine⟨by rw[Yg J,Yf],Zc _,J,O,λ_=>none,(Heap.Ns1.of_empty N).at λo q=>ZE _ q,λ_=>True.intro,λy L=>Zr Y L⟩
def QL(J:attributeBase e f env (eval e env)=eval e env)(h:wpAny (model prog w) A (eval e env) (λo Z=>wpAny (model prog w) A (getAttr o f true) Q E Z) E s):wpAny (model prog w) A (eval (.Attribute e f pos) env) Q E s:=
 Attribute_any_ h (by rw[arm_eval_Attribute,J])
end
def SN(K:W.Frag)(ta:TE)(f:Str):TE:=λU H Q=>ta U H λx J=>V7 x λa=>∃C G Z v,J a=some (.ins C G Z)/\Cls K C/\VG K C f/\Z.lookup f=some v/\Q v J
def yf(K:W.Frag)(ta tv:TE)(f:Str):TS:=λD U H=>tv U H λy L=>ta U L λx G=>∃a C J Z,x=.ref a/\G a=some (.ins C J Z)/\Cls K C/\VG K C f/\Z.length<1000/\
 D.nx U (upd G a<|.ins C J<|VQ f y Z)
def yE(X:Cx)(op:Operator)(rd:V->V->Hp->VK->Prop):Prop:=
 ∀(Z:ky)(s:Shared)(U:St)(H:Hp)(x y:V)(u v:Value)(Q:VK),Inv X Z U H s->RelV x u->RelV y v->rd x y H Q->wpAny (model X.prog X.w) X.A (inplaceOp op u v) (EP X Z U Q) X.xe s
def Oz(K:W.Frag)(ta tv:TE)(rd:V->V->Hp->VK->Prop)(f:Str):TS:=λD U H=>ta U H λx M=>∃a C N G v,x=.ref a/\M a=some (.ins C N G)/\Cls K C/\VG K C f/\G.lookup f=some v/\
 tv U M λy O=>rd v y O λz L=>∃J Z,L a=some (.ins C J Z)/\Z.length<1000/\D.nx U (upd L a<|.ins C J<|VQ f z Z)
section
def Ym(L:PE X e ta)(M:attributeBase e f X.env (eval e X.env)=eval e X.env):PE X (.Attribute e f pos) (SN X.K ta f):=by
 intro Z s U H Q I h;refine QL M<|thn (L Z s U H _ I h) λu s1 ⟨x,B,T,J,q⟩=>?_;replace q:=V7.old q;obtain⟨a,N,C,A,F,v,O,c,n,l,q⟩:=q;subst N;obtain rfl:u=Value.ref a:=J;exact TU T O c n l λD E R G=>⟨v,B,R,G,q⟩
def VT(R:PE X o ta)(N:PE X value tv)(O:swapsWith value (some<|.Attribute o f pos') pos.line X.env=pure false):PS X (.Assign [.Attribute o f pos'] value pos) (yf X.K ta tv f):=by
 intro Z s U H D I h;refine plainObj_wpAny_Assign_Attribute (thn (N Z s U H _ I h) λu s1 ⟨y,S,A,J,q⟩=>thn (R Z s1 U S _ A q) λM Q ⟨x,t,F,G,a,C,z,j,T,B,c,n,l,L⟩=>?_) O;subst T;obtain rfl:M=Value.ref a:=G;exact XY F B c n l J λP E=>⟨U,_,E,L⟩
def E1(Q:PE X o ta)(P:PE X value tv)(J:yE X op rd):PS X (.AugAssign (.Attribute o f tpos) op value pos) (Oz X.K ta tv rd f):=by
 intro Z s U H D I h;refine wpAny_AugAssign_AttributeAny<|thn (Q Z s U H _ I h) λA s1 ⟨x,e,r,T,a,C,dx,fs,v,t,m,c,n,l,q⟩=>?_;subst t;obtain rfl:A=Value.ref a:=T;refine TU r m c n l λu N w B=>thn (P Z N U e _ w q) λL M ⟨y,b,d,R,F⟩=>thn (J Z M U b v y u L _ d B R F) λi s4 ⟨z,H3,p,O,g,j,G,S,E⟩=>?_;exact XY p G c n S O λs5 k=>⟨U,_,k,E⟩
def yp:V->V->Hp->VK->Prop:=λx y H Q=>∃i j,x=.int i/\y=.int j/\Q (.int<|i+j) H
def Ae:yE X .Add yp:=by
 rintro J s U H x y u v Q I L G ⟨i,j,rfl,rfl,q⟩;obtain⟨t,rfl⟩:=(show ∃t,u=Value.int i t from L);obtain⟨Z,rfl⟩:=(show ∃Z,v=Value.int j Z from G);exact PyProof.Rows.iadd_int ⟨.int<|i+j,H,I.tok _,⟨_,rfl⟩,q⟩
end
section
variable{H:Hp}
inductive Xh(K:W.Frag)(H:Hp):V->Value->Prop where
 |non:Xh K H .non (.type "NoneType")
 |bl (x:Bool):Xh K H (.bl x) (.type "bool")
 |int (i:Int):Xh K H (.int i) (.type "int")
 |str (x:Str):Xh K H (.str x) (.type "str")
 |flt (x:UInt64):Xh K H (.flt x) (.type "float")
 |lst {a:Addr}{xs:List V}(e:H a=some (.lst xs)):Xh K H (.ref a) (.type "list")
 |frz {a:Addr}{o:Obj}{xs:List V}(e:H a=some (.frz o (.lst xs))):Xh K H (.ref a) (.type "list")
 |tup {a:Addr}{xs:List V}(e:H a=some (.tup xs)):Xh K H (.ref a) (.type "tuple")
 |dK {a:Addr}{kvs:List (Key×V)}(e:H a=some (.dK kvs)):Xh K H (.ref a) (.type "dict")
 |dT {a:Addr}{kvs:List (List Key×V)}(e:H a=some (.dT kvs)):Xh K H (.ref a) (.type "dict")
 |ins {a C dx:Addr}{fs:List (Str×V)}(e:H a=some (.ins C dx fs)) (cl:Cls K C) (ha:W.findIn K (.ref C) "__class__"=some (some (.builtin "object.__class__")))
   (hn:W.specialIn K (.builtin "object.__class__") "__get__"=some (some (.builtin "getset_descriptor.__get__"))) (htk:W.takesIn K (.builtin "object.__class__")=some true)
   (hm:W.mroIn K C (.type "object")=some true):Xh K H (.ref a) (.ref C)
def FC(I:Inv X B U H s)(Z:RelV x u)(ty:Xh X.K H x t)(e:W.kitOne X.K t c=some b)(h:∀F,Q (.bool b) {s with toks:=F}):
  wpAny (model X.prog X.w) A (call (.builtin "isinstance") [u,c]) Q E s:=by
 cases ty with
 |non=>cases(show u=Value.none from Z);exact jI W.kitx_none I.kIn True.intro e (λz=>nomatch z) h
 |bl y=>cases(show u=Value.bool y from Z);exact jI W.kitx_bool I.kIn True.intro e (λz=>nomatch z) h
 |int i=>obtain⟨t,q⟩:=(show ∃t,u=Value.int i t from Z);cases q;exact jI W.kitx_int I.kIn True.intro e (λz=>nomatch z) h
 |str y=>obtain⟨t,q⟩:=(show ∃t,u=Value.str y t from Z);cases q;exact jI W.kitx_str I.kIn True.intro e (λz=>nomatch z) h
 |flt y=>obtain⟨t,q⟩:=(show ∃t,u=Value.float y t from Z);cases q;exact jI W.kitx_float I.kIn True.intro e (λz=>nomatch z) h
 | @lst a N G=>
  cases(show u=Value.ref a from Z);obtain⟨_,_,n,_,L⟩:=(show VO X.prog X.w H s.heap a (.lst N)from I.hok a _ G);exact jI W.kitx_list I.kIn ⟨_,L,Y⟩ e (λz=>nomatch z) h
 | @frz a S N G=>
  cases(show u=Value.ref a from Z);obtain⟨_,_,_,n,_,L⟩:=(show VO X.prog X.w H s.heap a (.frz S<|.lst N)from I.hok a _ G);exact jI W.kitx_list I.kIn ⟨_,L,Y⟩ e (λz=>nomatch z) h
 | @tup a N G=>
  cases(show u=Value.ref a from Z);obtain⟨_,_,_,p⟩:=(show VO X.prog X.w H s.heap a (.tup N)from I.hok a _ G);obtain⟨o,L,_,R,_⟩:=p;exact jI W.kitx_tuple I.kIn ⟨o,L,R⟩ e (λz=>nomatch z) h
 | @dK a M G=>
  cases(show u=Value.ref a from Z);obtain⟨_,_,d,_,p⟩:=(show VO X.prog X.w H s.heap a (.dK M)from I.hok a _ G);obtain⟨o,g,k,L,R,_⟩:=p;exact jI W.kitx_dict I.kIn ⟨o,L,R.1⟩ e (λz=>nomatch z) h
 | @dT a M G=>
  cases(show u=Value.ref a from Z);obtain⟨_,_,N,_,o,g,k,L,R,_⟩:=(show VO X.prog X.w H s.heap a (.dT M)from I.hok a _ G);exact jI W.kitx_dict I.kIn ⟨o,L,R.1⟩ e (λz=>nomatch z) h
 | @ins a C r w G D m P T j=>
  cases(show u=Value.ref a from Z);obtain⟨v,O,_⟩:=GQ I.hok G;obtain⟨f,J,_⟩:=O.look;exact jI (W.kitx_own (D.get _) D.hd m P T j) I.kIn J e (λz=>nomatch z) h
end
structure Vr(k:Nat)(A:Around):Prop where
 hd:A.handled=none
 dp:A.depth+3*k+5<recursionLimit
 un:A.units+16*k+200<cLine
def Vr.mono(r:Vr k A)(h:j<=k):Vr j A:=⟨r.hd,by have:=r.dp;omega,by have:=r.un;omega⟩
def Vr.deeper(r:Vr (k+1) A)(Z:Env):Vr k (A.deeper Z):=
 ⟨r.hd,by have:=r.dp;show A.depth+1+3*k+5<_;omega,by have:=r.un;show A.units+3+16*k+200<_;omega⟩
def Vr.in1(r:Vr (k+1) A):Vr k A.in1:=
 ⟨r.hd,by have:=r.dp;show A.depth+3*k+5<_;omega,by have:=r.un;show A.units+1+16*k+200<_;omega⟩
def Bz{A:Around}:(A.under<|.builtin "type.__call__" ⟨.ref C::Z,kw⟩).depth=A.depth+1:=by
 first|rfl|simp[Around.under,Code.weight,Code.isCreation,Code.isGuard,Code.isCaller,Code.frames,Code.isFrame,guardIds]
def By{A:Around}:(A.under<|.builtin "type.__call__" ⟨.ref C::Z,kw⟩).units=A.units+1:=by
 first|rfl|simp[Around.under,Code.cUnits,Code.frames,Code.isFrame]
def Vr.make(r:Vr (k+1) A)(C:Addr)(Z:kB)(J:List (Str×Value)):Vr k (A.under<|.builtin "type.__call__" ⟨.ref C::Z,J⟩):=
 ⟨r.hd,by have:=r.dp;rw[Bz];omega,by have:=r.un;rw[By];omega⟩
def Vr.depth(r:Vr k A):A.depth<recursionLimit:=by have:=r.dp;omega
def Vr.units(r:Vr k A):A.units+64<cLine:=by have:=r.un;omega
def Vr.units0(r:Vr k A):A.units<cLine:=by have:=r.un;omega
def Rn:TA:=λ_ H Q=>Q [] H
def JT(ta:TE)(tr:TA):TA:=λU H Q=>ta U H λx G=>tr U G λZ J=>Q (x::Z) J
section
variable{t:TA}
def VR:PA X [] Rn:=λ_ _ _ _ H Q I h=>Calls.spliced_nil ⟨[],H,I,.nil,h⟩
def Vw(D:PE X e te)(B:PA X G t)(T:starEach (e::G) X.env=(false,eval e X.env)::starEach G X.env:=by rfl):PA X (e::G) (JT te t):=by
 intro J Z s U H Q I h;rw[T];show wpAny _ _ (spliced ((false,eval e X.env)::backTo J (starEach G X.env))) _ _ s;refine Calls.spliced_cons<|thn (D Z s U H _ I h) λu s1 ⟨x,S,F,N,R⟩=>?_;exact thn (B J Z s1 U S _ F R) λC P ⟨L,A,E,M,O⟩=>⟨x::L,A,E,.cons N M,O⟩
def pa1(J:PE X e0 t0)(Z:starEach [e0] X.env=(false,eval e0 X.env)::starEach [] X.env:=by rfl):PA X [e0] (JT t0<|Rn):=Vw J (VR) Z
def pa2(L:PE X e0 t0)(G:PE X e1 t1)(J:starEach [e0,e1] X.env=(false,eval e0 X.env)::starEach [e1] X.env:=by rfl)(Z:starEach [e1] X.env=(false,eval e1 X.env)::starEach [] X.env:=by rfl):PA X [e0,e1] (JT t0<|JT t1<|Rn):=Vw L (Vw G (VR) Z) J
def pa3(N:PE X e0 t0)(M:PE X e1 t1)(L:PE X e2 t2)(G:starEach [e0,e1,e2] X.env=(false,eval e0 X.env)::starEach [e1,e2] X.env:=by rfl)(J:starEach [e1,e2] X.env=(false,eval e1 X.env)::starEach [e2] X.env:=by rfl)(Z:starEach [e2] X.env=(false,eval e2 X.env)::starEach [] X.env:=by rfl):PA X [e0,e1,e2] (JT t0<|JT t1<|JT t2<|Rn):=Vw N (Vw M (Vw L (VR) Z) J) G
def pa4(R:PE X e0 t0)(O:PE X e1 t1)(N:PE X e2 t2)(M:PE X e3 t3)(L:starEach [e0,e1,e2,e3] X.env=(false,eval e0 X.env)::starEach [e1,e2,e3] X.env:=by rfl)(G:starEach [e1,e2,e3] X.env=(false,eval e1 X.env)::starEach [e2,e3] X.env:=by rfl)(J:starEach [e2,e3] X.env=(false,eval e2 X.env)::starEach [e3] X.env:=by rfl)(Z:starEach [e3] X.env=(false,eval e3 X.env)::starEach [] X.env:=by rfl):PA X [e0,e1,e2,e3] (JT t0<|JT t1<|JT t2<|JT t3<|Rn):=Vw R (Vw O (Vw N (Vw M (VR) Z) J) G) L
def pa5(B:PE X e0 t0)(T:PE X e1 t1)(R:PE X e2 t2)(O:PE X e3 t3)(N:PE X e4 t4)(M:starEach [e0,e1,e2,e3,e4] X.env=(false,eval e0 X.env)::starEach [e1,e2,e3,e4] X.env:=by rfl)(L:starEach [e1,e2,e3,e4] X.env=(false,eval e1 X.env)::starEach [e2,e3,e4] X.env:=by rfl)(G:starEach [e2,e3,e4] X.env=(false,eval e2 X.env)::starEach [e3,e4] X.env:=by rfl)(J:starEach [e3,e4] X.env=(false,eval e3 X.env)::starEach [e4] X.env:=by rfl)(Z:starEach [e4] X.env=(false,eval e4 X.env)::starEach [] X.env:=by rfl):PA X [e0,e1,e2,e3,e4] (JT t0<|JT t1<|JT t2<|JT t3<|JT t4<|Rn):=Vw B (Vw T (Vw R (Vw O (Vw N (VR) Z) J) G) L) M
def yH(t:TA):TE:=λU H Q=>t U H λZ J=>Z.length<=sizeLine/\∀p,J p=none->Q (.ref p) (upd J p<|.tup Z)
def yL(t:TA):TE:=λU H Q=>t U H λZ J=>Z.length<=sizeLine/\∀p,J p=none->Q (.ref p) (upd J p<|.lst Z)
def Yj(h:PA X R t):PE X (.Tuple R x1 pos) (yH t):=by
 intro Z s U H Q I N;refine wpAny_Tuple_spliced<|thn (h pos Z s U H _ I N) λM s1 ⟨L,G,J,r,z,q⟩=>⟨by rw[<-r.length];exact z,?_⟩;have O:G s1.heap.objs.size=none:=J.hok.fresh<|ZG _;refine⟨.ref s1.heap.objs.size,upd G s1.heap.objs.size<|.tup L,J.laid (t':=s1.toks) (λb u e=>ZE _ e) (ZG _) ?_,rfl,q _ O⟩;exact⟨z,M,r,⟨_,ZY _ Y,Y,Y,_,Y⟩⟩
def JJ(h:PA X R t):PE X (.List R pos) (yL t):=by
 intro Z s U H Q I N;refine wpAny_List_spliced<|thn (h pos Z s U H _ I N) λM s1 ⟨L,G,J,r,z,q⟩=>⟨by rw[<-r.length];exact z,?_⟩;have O:G s1.heap.objs.size=none:=J.hok.fresh<|ZG _;refine⟨.ref s1.heap.objs.size,upd G s1.heap.objs.size<|.lst L,J.laid (t':=s1.toks) (λb u e=>ZE _ e) (ZG _) ?_,rfl,q _ O⟩;exact⟨z,M,0,r,ZY _ Y⟩
end
abbrev Sp:=List V->Hp->VK->XK->Prop
abbrev CXT:=List Env->Hp->Shared->XK->Value->Shared->Prop
structure De(P:Program)(w:World)(K:W.Frag)(mg:Str->Option Value)(base:Heap)(A:Around)(outer:List Env)(s:Shared)(H:Hp):Prop where
 frames:A.frames=some outer
 mod:Mod K mg base
 bs:∀b o,base.get? b=some o->s.heap.get? b=some o/\H b=none
 bsz:base.objs.size<=s.heap.objs.size
 funs:s.heap.FunFrames base outer
 frf:∀b∈frs outer,H b=none
 hok:HOk P w H s.heap
 bare:AllBare s.gens
def CE(outer:List Env)(P:Program)(w:World)(H:Hp)(s:Shared)(Q:VK)(u:Value)(s':Shared):Prop:=
 ∃v Z,s'.os=s.os/\AllBare s'.gens/\Un (frs outer) [] H Z s.heap s'.heap/\HOk P w Z s'.heap/\RelV v u/\Q v Z
def CR(CX:CXT)(outer:List Env)(P:Program)(w:World)(H:Hp)(s:Shared)(Q:VK)(E:XK)(r:Result)(s':Shared):Prop:=
 match r with
 |.ok (.ret u)=>CE outer P w H s Q u s'
 |.ok _=>False
 |.error e=>CX outer H s E e s'
structure Ye(P:Program)(w:World)(K:W.Frag)(mg:Str->Option Value)(base:Heap)(CX:CXT)(k:Nat)(f:Addr)(fd:FuncData)(ps:List Str)(sp:Sp):Prop where
 len:∀vs H Q E,sp vs H Q E->vs.length=ps.length
 run:∀(A:Around)(outer:List Env)(s:Shared)(H:Hp)(args:Args)(us:List Value)(vs:List V)(Q:VK)(E:XK),Vr k A->De P w K mg base A outer s H->BindsTo s fd args (ps.zip us)->Vals vs us->sp vs H Q E->
  codeAny (model P w) A (.call (.ref f) args) (CR CX outer P w H s Q E) s
def Ye.mono{K:W.Frag}(F:Ye P w K N base CX j f R M L)(h:j<=k):
  Ye P w K N base CX k f R M L:=⟨F.len,λA Z s H args G J Q E O=>F.run A Z s H args G J Q E<|O.mono h⟩
def De.make{K:W.Frag}(e:De P w K J base A outer s H)(C:Addr)(Z:kB)(G:List (Str×Value)):
  De P w K J base (A.under<|.builtin "type.__call__" ⟨.ref C::Z,G⟩) outer s H:=⟨by first|exact e.frames|(simpa[Around.under,Code.envs,Code.isFrame,pushEnvs]using e.frames),e.mod,e.bs,e.bsz,e.funs,e.frf,e.hok,e.bare⟩
section
def Inv.env0(I:Inv X Z U H s):De X.prog X.w X.K X.mg X.base X.A X.stack s H:=
 ⟨I.ok.frames,I.ok.mod,I.bs,Zb I.ok.bsz I.sz,I.stack,I.stkFree,I.hok,I.bare⟩
def Inv.after(I:Inv X Z U H s)(h:CE X.stack X.prog X.w H s Q u L):EP X Z U Q u L:=by
 obtain⟨v,R,N,bare,M,G,r,q⟩:=h;obtain⟨O,g,d,t,J⟩:=L;obtain rfl:J=s.os:=N;exact⟨v,R,I.call (h':=O) (g':=g) (d':=d) (t':=t) (ch:=[]) M G bare (λb z=>Zr z<|by simp),r,q⟩
end
def M6(sp:Sp)(dvs:kL)(E:XK)(t:TA):TE:=λU H Q=>t U H λZ J=>sp (Z++ dvs) J Q E
def Fv(C:Addr)(m:Str)(sp:Sp)(dvs:kL)(E:XK)(ta:TE)(t:TA):TE:=λU H Q=>ta U H λx J=>V7 x λa=>∃L Z,J a=some (.ins C L Z)/\Z.lookup m=none/\
 t U J λG M=>sp (x::(G++ dvs)) M Q E
def CF(C:Addr)(sp:Sp)(dvs:kL)(E:XK)(t:TA):TE:=λU H Q=>t U H λG J=>∀x Z,J x=none->J Z=none->Z≠x->
 sp (.ref x::(G++ dvs)) (upd (upd J Z<|.own x) x<|.ins C Z []) (λv L=>v=.non/\Q (.ref x) L) E
def Binds(K:W.Frag)(fd:FuncData)(ps:kC)(ds:kB):Prop:=
 ∀(s:Shared)(Z:kB),K.In s.heap->(Z++ ds).length=ps.length->BindsTo s fd ⟨Z,[]⟩ (ps.zip<|Z++ ds)
def Binds.all{K:W.Frag}(h:∀Z:kB,Z.length=J.length->bindArgs L ⟨Z,[]⟩=pure (J.zip Z)):Binds K L J []:=λs Z _ G=>by
 rw[ja]at G |-;exact .of_eq<|h Z G
def Uk(CX:CXT)(X:Cx)(E:XK):Prop:=∀(Z:ky)(U:St)(H:Hp)(s:Shared)(e:Value)(J:Shared),Inv X Z U H s->CX X.stack H s E e J->X.xe e J
section
variable{f C:Addr}
def Gw(F:Ye X.prog X.w X.K X.mg X.base CX k f S M N)(T:Vr k X.A)(D:Binds X.K S M G)(hd:Vals dvs G)(R:Uk CX X E)(I:Inv X Z U H s)(r:Vals vs us)(h:N (vs++ dvs) H Q E):wpAny (model X.prog X.w) X.A (call (.ref f) us) (EP X Z U Q) X.xe s:=by
 have L:Vals (vs++ dvs) (us++ G):=r.append hd;have B:(us++ G).length=M.length:=by rw[<-L.length];exact F.len _ _ _ _ h
 refine wpAny_call<|qG (F.run X.A X.stack s H ⟨us,[]⟩ (us++ G) (vs++ dvs) Q E T I.env0 (D s us I.kIn B) L h) λr O J=>?_
 cases r with
 |error e=>exact R Z U H s e O I J
 |ok A=>
  cases A with
  |ret u=>exact I.after J
  |next=>exact False.elim J
  |brk=>exact False.elim J
  |cont=>exact False.elim J
def JW(F:Ye X.prog X.w X.K X.mg X.base CX k f y O N)(T:Vr k X.A)(A:Gl X x)(B:X.mg x=some (.ref f))(D:W.keepIn X.K (.ref f)=true)(P:Binds X.K y O z)(hd:Vals dvs z)(R:Uk CX X E)(j:PA X (e::J) t)(L:(x==("__debug__":Str))=false:=by decide)(S:starEach (e::J) X.env=(false,eval e X.env)::starEach J X.env:=by rfl)(G:(backTo pos<|starEach J X.env).any (·.1)=false:=by rfl):
  PE X (.Call (.Name x p) (e::J) [] pos) (M6 N dvs E t):=by
 intro Z s U H Q I h;refine jP<|GJ I A B ?_ L;refine qH (h₀:=X.base) I.ok.mod.kin D (thn (j pos Z s U H _ I h) λg s1 ⟨m,c,M,r,q⟩=>⟨M.kIn,?_⟩) S G;exact Gw F T P hd R M r q
def Y4(j:PE X o ta)(c:Cls X.K C)(M:VI X.K C m f)(F:Ye X.prog X.w X.K X.mg X.base CX k f g D R)(P:Vr k X.A)(y:Binds X.K g D v)(hd:Vals dvs v)(A:Uk CX X E)(z:PA X (e::J) t)(G:starEach (e::J) X.env=(false,eval e X.env)::starEach J X.env:=by rfl)(L:(backTo pos<|starEach J X.env).any (·.1)=false:=by rfl)(S:eval (.Call (.Attribute o m apos) (e::J) [] pos) X.env=(do
   let ov <-eval o X.env
   standAt apos.atName
   let(f,first) <-holding [ov] (getMethod ov m pl)
   callWith pos f first (backTo pos<|starEach (e::J) X.env) (backToKw pos<|keywordEach [] X.env)):=by rfl):
  PE X (.Call (.Attribute o m apos) (e::J) [] pos) (Fv C m R dvs E ta t):=by
 intro Z s U H Q I h;refine W.methodCall_KW (pl:=pl) (thn (j Z s U H _ I h) λu s1 ⟨x,w,O,T,q⟩=>?_) S;replace q:=V7.old q;obtain⟨a,p,n,i,d,l,q⟩:=q;subst p;obtain rfl:u=Value.ref a:=T;refine TR O d c M l ?_;refine qH (first:=[.ref a]) (h₀:=X.base) I.ok.mod.kin M.kp (thn (z pos Z s1 U w _ O q) λus b ⟨vs,H2,N,r,B⟩=>⟨N.kIn,?_⟩) G L;exact Gw (us:=.ref a::us) (vs:=.ref a::vs) F P y hd A N (.cons Y r) B
def Vj(B:PE X o ta)(c:Cls X.K C)(G:VI X.K C m f)(F:Ye X.prog X.w X.K X.mg X.base CX k f A N L)(T:Vr k X.A)(D:Binds X.K A N j)(hd:Vals dvs j)(O:Uk CX X E)(R:eval (.Call (.Attribute o m apos) [] [] pos) X.env=(do
   let ov <-eval o X.env
   standAt apos.atName
   let(f,first) <-holding [ov] (getMethod ov m pl)
   callWith pos f first (backTo pos<|starEach [] X.env) (backToKw pos<|keywordEach [] X.env)):=by rfl):
  PE X (.Call (.Attribute o m apos) [] [] pos) (Fv C m L dvs E ta Rn):=by
 intro Z s U H Q I h;refine W.methodCall_KW (pl:=pl) (thn (B Z s U H _ I h) λu s1 ⟨x,t,J,M,q⟩=>?_) R;replace q:=V7.old q;obtain⟨a,S,z,y,P,l,q⟩:=q;subst S;obtain rfl:u=Value.ref a:=M;refine TR J P c G l ?_;exact W.callWith_K0 (first:=[.ref a]) J.kIn G.kp<|Gw (us:=[.ref a]) (vs:=[.ref a]) F T D hd O J (.cons rfl .nil) q
structure Mk(K:W.Frag)(C f:Addr):Prop where
 makes:W.makesIn K C=true
 init:W.findIn K (.ref C) "__init__"=some (some (.ref f))
 fn:W.isFn K (.ref f)=true
 kp:W.keepIn K (.ref C)=true
def Ii(M:Mk X.K C f)(F:Ye X.prog X.w X.K X.mg X.base CX k f g B A)(z:Vr (k+1) X.A)(t:Binds X.K g B N)(hd:Vals dvs N)(y:Uk CX X E)(I:Inv X G U H s)(r:Vals R J)(h:∀x L,H x=none->H L=none->L≠x->A (.ref x::(R++ dvs)) (upd (upd H L<|.own x) x<|.ins C L []) (λv d=>v=.non/\Q (.ref x) d) E):
  wpAny (model X.prog X.w) X.A (call (.ref C) J) (EP X G U Q) X.xe s:=by
 have D:=h (s.heap.objs.size+1) s.heap.objs.size (I.hok.fresh<|qz _) (I.hok.fresh<|ZG _)<|Ze<|vf _;have O:=Inv.made (C:=C) I;have T:Vals (V.ref (s.heap.objs.size+1)::(R++ dvs)) (Value.ref (s.heap.objs.size+1)::(J++ N)):=.cons rfl (r.append hd)
 have q:(Value.ref (s.heap.objs.size+1)::J++ N).length=B.length:=by
  have e:=T.length;rw[F.len _ _ _ _ D]at e;exact e.symm
 refine wpAny_call (LB (f:=f) I.kIn M.makes M.init (beq_iff_eq.mp M.fn) (qG (F.run _ X.stack _ _ ⟨Value.ref (s.heap.objs.size+1)::J,[]⟩ (Value.ref (s.heap.objs.size+1)::(J++ N)) _ _ E (z.make C J [])
  (O.env0.make C J []) (t _ (Value.ref (s.heap.objs.size+1)::J) O.kIn q) T D) λr S Z=>?_))
 cases r with
 |error e=>exact y G U _ _ e S O Z
 |ok m=>
  cases m with
  |ret u=>
   obtain⟨v,w,c,P,p,j⟩:=O.after Z;subst p;exact⟨P,⟨V.ref<|s.heap.objs.size+1,w,c,rfl,j⟩⟩
  |next=>exact False.elim Z
  |brk=>exact False.elim Z
  |cont=>exact False.elim Z
def Ub(M:Mk X.K C f)(F:Ye X.prog X.w X.K X.mg X.base CX k f y R O)(B:Vr (k+1) X.A)(A:Gl X x)(D:X.mg x=some (.ref C))(P:Binds X.K y R z)(hd:Vals dvs z)(T:Uk CX X E)(j:PA X (e::J) t)(L:(x==("__debug__":Str))=false:=by decide)(S:starEach (e::J) X.env=(false,eval e X.env)::starEach J X.env:=by rfl)(G:(backTo pos<|starEach J X.env).any (·.1)=false:=by rfl):
  PE X (.Call (.Name x p) (e::J) [] pos) (CF C O dvs E t):=by
 intro Z s U H Q I h;refine jP<|GJ I A D ?_ L;refine qH (h₀:=X.base) I.ok.mod.kin M.kp (thn (j pos Z s U H _ I h) λg s1 ⟨m,c,N,r,q⟩=>⟨N.kIn,?_⟩) S G;exact Ii M F B P hd T N r q
end
structure Yh(N P:List Str)(sc:Scope):Prop where
 kind:sc.kind=.function
 co:sc.isCoroutine=false
 gen:sc.isGenerator=false
 nd:N.Nodup
 pre:N.take P.length=P
 par:∀x∈P,sc.names.lookup x=some .local\/sc.names.lookup x=some .cell
 nofree:∀y∈sc.names,y.2≠.free
theorem RX{kindOf:Str->Option NameKind}:∀{binds:List (Str×Value)}{m:Str->Option Value},(∀v,(x,v)∉binds)->bindL kindOf binds m x=m x
 |[],_,_=>rfl
 |(n,v)::r,m,h=>by
  unfold bindL;rw[RX λw Z=>h w (ZM _ Z)]
  split
  .have:x≠n:=by rintro rfl;exact h v Za
   simp[this]
  .rfl
theorem RZ{kindOf:Str->Option NameKind}:∀{binds:List (Str×Value)}{m:Str->Option Value},(∀v,(x,v)∉binds)->bindC kindOf binds m x=m x
 |[],_,_=>rfl
 |(n,v)::r,m,h=>by
  unfold bindC;rw[RZ λw Z=>h w (ZM _ Z)]
  split
  .rfl
  .have:x≠n:=by rintro rfl;exact h v Za
   simp[this]
theorem RY{kindOf:Str->Option NameKind}:∀{P:kC}{Z:kB}{i:Nat}{m:Str->Option Value},P.Nodup->P[i]?=some x->Z[i]?=some v->kindOf x=some .local->
  bindL kindOf (P.zip Z) m x=some v
 |[],_,_,_,_,h,_,_=>by simp at h
 |_::_,[],_,_,_,_,h,_=>by simp at h
 |p::P,w::Z,0,m,nd,h1,h2,hk=>by
  simp at h1 h2;subst h1;subst h2;show bindL kindOf ((p,w)::P.zip Z) m p=_;unfold bindL;rw[RX λv J=>(jE.mp nd).1 (List.of_mem_zip J).1,Zp hk];simp
 |p::P,w::Z,i+1,m,nd,h1,h2,hk=>by
  show bindL kindOf ((p,w)::P.zip Z) m x=_;unfold bindL;exact RY (i:=i) (jE.mp nd).2 (by simpa using h1) (by simpa using h2) hk
theorem Ra{kindOf:Str->Option NameKind}:∀{P:kC}{Z:kB}{i:Nat}{m:Str->Option Value},P.Nodup->P[i]?=some x->Z[i]?=some v->kindOf x≠some .local->
  bindC kindOf (P.zip Z) m x=some v
 |[],_,_,_,_,h,_,_=>by simp at h
 |_::_,[],_,_,_,_,h,_=>by simp at h
 |p::P,w::Z,0,m,nd,h1,h2,hk=>by
  simp at h1 h2;subst h1;subst h2;show bindC kindOf ((p,w)::P.zip Z) m p=_;unfold bindC;rw[RZ λv J=>(jE.mp nd).1 (List.of_mem_zip J).1,Zq hk];simp
 |p::P,w::Z,i+1,m,nd,h1,h2,hk=>by
  show bindC kindOf ((p,w)::P.zip Z) m x=_;unfold bindC;exact Ra (i:=i) (jE.mp nd).2 (by simpa using h1) (by simpa using h2) hk
def start(N:kC)(vs:kL):St:=vs.map some++ List.replicate (N.length-vs.length) none
def VY(CX:CXT)(P:Program)(w:World)(K:W.Frag)(mg:Str->Option Value)(base:Heap)(N:kC)(qual:Str)(scope:Scope)(f:Addr)(cd:Value)(A:Around)(outer:List Env)(s:Shared)(H:Hp)(E:XK):Cx where
 prog:=P
 w:=w
 K:=K
 mg:=mg
 base:=base
 A:=A.deeper (envOfC qual scope s.heap.objs.size f cd)
 N:=N
 s₀:=s
 H₀:=H
 env:=envOfC qual scope s.heap.objs.size f cd
 outer:=outer
 stack:=envOfC qual scope s.heap.objs.size f cd::outer
 ex:=[]
 calm:=true
 fn:=λ_=>true
 pn:=[]
 xe:=λe J=>wpAny (model P w) (A.deeper<|envOfC qual scope s.heap.objs.size f cd) (leaving (envOfC qual scope s.heap.objs.size f cd) e) (λ_ Z=>CX outer H s E e Z) (λG Z=>CX outer H s E G Z) J
def Ni{Z:Scope}(h:Z.names.lookup x=some .cell):∃c,(cellsFrom n Z.names []).lookup x=some c:=by
 have q:=W.cellsFrom_some Z.names n []<|.inl h;exact j9.mp q
def FD{C:CXT}{P:Program}{w:World}{K:W.Frag}(S:Yh N O scope)(hd:A.handled=none)(J:De P w K F base A outer s H)(m:M.length=O.length)(r:Vals M D)(x:InCallC s s.heap.objs.size (bindL (envOfC qual scope s.heap.objs.size f cd).kindOf (O.zip D) λ_=>none) (cellsFrom (s.heap.objs.size+1) scope.names []) (bindC (envOfC qual scope s.heap.objs.size f cd).kindOf (O.zip D) λ_=>none) s1):
  Inv (VY C P w K F base N qual scope f cd A outer s H E) [] (start N M) H s1:=by
 have Q:O.length<=N.length:=by have:=congrArg List.length S.pre;rw[ZN]at this;omega
 obtain⟨B,t,rfl,U⟩:=x.done;have G:∀b:Addr,b∉(VY C P w K F base N qual scope f cd A outer s H E).ex:=λb z=>Zr (show b∈([]:kF)from z) (by simp);refine⟨⟨J.mod,S.kind,Y,Y,ZG _,λy z c B Z=>?_,λy L=>?_,λy c _ h=>?_,λ_=>hd,Around.frames_deeper J.frames,.inr ⟨Y,Y⟩,λb z=>Zr z<|G b,J.bs,J.bsz,λb _ _=>G b,λb z=>Zr z<|G b,J.funs,J.frf⟩,
  rfl,J.bare,Un.kept U,⟨_,x.toInCall.ns,λi y v B Z g=>?_⟩,λy c h=>⟨_,x.cell y c h⟩,J.hok.fresh<|ZG _,λy c h=>?_,λp T=>Zr (show p∈([]:ky)from T) (by simp),J.hok.kept U,?_⟩
 .exact name_of_addr x.apart (ji B) (ji Z)
 .have L:scope.names.lookup y=some .cell\/scope.names.lookup y=some .free:=L
  rcases L with L|L
  .exact Ni L
  .exact Zr rfl (S.nofree _<|ji L)
 .exact Zh (x.above y c<|ji h)
 .have hi:i<M.length:=by
   unfold start at Z
   by_cases hi:i<M.length
   .exact hi
   .rw [vb (by simpa using hi)]at Z
    rw[jK]at Z
    split at Z <;> cases Z
  have j:M[i]?=some v:=by
   unfold start at Z;rw[vd (by simpa using hi),ZH]at Z
   cases e:M[i]? with
   |none=>rw[e]at Z;cases Z
   |some a=>rw[e]at Z;cases Z;rfl
  obtain⟨u,I,X⟩:=r.get j
  have T:O[i]?=some y:=by
   rw[<-S.pre,List.getElem?_take_of_lt (by omega)];exact B
  have R:O.Nodup:=by rw[<-S.pre];exact S.nd.sublist<|ju _ _
  exists u,X;rcases S.par y (ZJ T)with k|k
  .exact .inl ⟨k,RY R T I k⟩
  .obtain ⟨c,e⟩:=Ni (n:=s.heap.objs.size+1) k
   refine .inr ⟨.inl k,c,e,?_⟩;have q:=x.cell y c e;rw[Ra R T I (by show scope.names.lookup y≠_;rw[k];decide)]at q;exact q
 .exact J.hok.fresh (Zh<|x.above y c<|ji h)
 .unfold start
  show _=N.length;rw[ZL,ZA,jt];omega
def Q0{j:CXT}{P:Program}{K:W.Frag}{a kV C h G ct oc:Value}(lk:K.lookup f=some ⟨oc,od,.func<|W.fnOf name qual params body scope a kV C h an G ct,osl⟩)(l:W.codeIn K G qual=true)(S:Yh N g scope)(B:∀L H Q E,i L H Q E->L.length=g.length)(R:∀(A:Around)(Z:List Env)(s:Shared)(H:Hp)(L:kL)(Q:VK)(E:XK),Vr k (A.deeper<|envOfC qual scope s.heap.objs.size f G)->i L H Q E->
   ∃t,PSs (VY j P w K p base N qual scope f G A Z s H E) body t/\t {nx:=λ_ M=>Q .non M,rt:=Q} (start N L) H):
  Ye P w K p base j (k+1) f (W.fnOf name qual params body scope a kV C h an G ct) g i:=by
 refine⟨B,λA Z s H args us L Q E d U hb r D=>?_⟩;have hl:=B _ _ _ _ D;have KX:K.In s.heap:=U.mod.kin.keeps λb o e=>(U.bs b o e).1;have c:s.heap.NoLimit:=U.mod.nolimit.keeps λb o e=>(U.bs b o e).1
 have O:∀y∈g.zip us,scope.names.lookup y.1=some .local\/(scope.names.lookup y.1=some .cell/\((cellsFrom (s.heap.objs.size+1) scope.names []).lookup y.1).isSome=true):=λ⟨n,v⟩ hy=>by
  rcases S.par n (List.of_mem_zip hy).1 with q|q
  .exact .inl q
  .exact .inr ⟨q,W.cellsFrom_some _ _ _<|.inl q⟩
 refine codeAny_call_function d.depth (KX _ _ lk) Y S.co S.gen Y (W.codeRec_of KX l) (hb _ _ _ _ ?_);refine wpAny_newFunctionEnv_cells S.kind O λJ2 he s1 x=>?_;subst he;refine⟨c.keeps x.toInCall.keep,codeAny_func ?_⟩;obtain⟨t,ht,hq⟩:=R A Z s H L Q E (d.deeper _) D;have I:Inv (VY j P w K p base N qual scope f G A Z s H E) [] (start N L) H s1:=FD S d.hd U hl r x;refine Zn (ht [] s1 (start N L) H _ I hq) (λfl z T=>?_) λe z T=>T
 have F:∀{X:St}{M:Hp}{v:V}{u:Value},Inv (VY j P w K p base N qual scope f G A Z s H E) [] X M z->RelV v u->Q v M->CE Z P w H s Q u z:=
  λ{X M v u} J m q=>⟨v,M,J.os,J.bare,J.base,J.hok,m,q⟩
 cases fl with
 |ret u=>
  obtain⟨v,X,M,J,m,q⟩:=T;exact F J m q
 |next=>
  obtain⟨X,M,J,q⟩:=T;exact F (v:=V.non) (u:=Value.none) J Y q
 |brk=>
  obtain⟨_,_,_,q⟩:=T;exact False.elim q
 |cont=>
  obtain⟨_,_,_,q⟩:=T;exact False.elim q
end L2
namespace L2
open PySem PySem.Spec PyProof.Rows
section
variable{t:TA}{id T:String}{r:List V->Hp->VK->Prop}
def tCB(r:List V->Hp->VK->Prop)(t:TA):TE:=λU H Q=>t U H λZ J=>r Z J Q
def VB(A:Js X (.builtin id) r)(F:Gl X x)(E:X.mg x=none)(B:bootBuiltins x=some (.builtin id))(S:PA X (e::J) t)(D:x≠"__name__":=by decide)(L:(x==("__debug__":Str))=false:=by decide)(he:starEach (e::J) X.env=(false,eval e X.env)::starEach J X.env:=by rfl)(G:(backTo pos<|starEach J X.env).any (·.1)=false:=by rfl):PE X (.Call (.Name x p) (e::J) [] pos) (tCB r t):=by
 intro Z s U H Q I h;refine jP<|UN I F E B ?_ D L;exact PyProof.Rows.callWith_builtin1 (thn (S pos Z s U H _ I h) λN s1 ⟨M,P,C,O,R⟩=>A Z s1 U P M N Q C O R) he G
def VZ(S:Js X (.type T) r)(F:Gl X x)(E:X.mg x=none)(B:bootBuiltins x=some (.type T))(C:PA X (e::J) t)(D:x≠"__name__":=by decide)(L:(x==("__debug__":Str))=false:=by decide)(A:starEach (e::J) X.env=(false,eval e X.env)::starEach J X.env:=by rfl)(G:(backTo pos<|starEach J X.env).any (·.1)=false:=by rfl):PE X (.Call (.Name x p) (e::J) [] pos) (tCB r t):=by
 intro Z s U H Q I h;refine jP<|UN I F E B ?_ D L;exact vo (thn (C pos Z s U H _ I h) λN s1 ⟨M,j,P,O,R⟩=>S Z s1 U j M N Q P O R) A G
end
end L2
namespace HT
open PySem PyProof.Rows
section
open PySem.SeqAt
open PySem.AutoSeq1 (wpAny_loadPart')
open PySem.MeetsSeq PySem.MeetsSeq2 PySem.MeetsSeq3
end
section
def cat_tup(C:IsTup s.heap t G.toArray)(X:IsTup s.heap b Z.toArray)(F:G≠[])(j:Z=[]->Q (.ref t) s)(P:Z≠[]->Q (.ref s.heap.objs.size) {s with heap:=s.heap.push {cls:=.type "tuple",data:=.seq (G++ Z).toArray}})(T:G.length+Z.length<=sizeLine):wpAny (model prog w) A (binaryOp .Add (.ref t)<|.ref b) Q E s:=by
 obtain⟨⟨B,S,data,sl⟩,R,I,n,hd⟩:=id C;obtain⟨⟨U,O,data2,L⟩,J,N,D,M⟩:=id X;simp only at I hd N M;subst I hd N M;have e:G.toArray++ Z.toArray=(G++ Z).toArray:=by simp
 by_cases hw:Z=[]
 .exact concat_meets ⟨_,R,rfl⟩ ⟨_,J,rfl⟩ noFill_tuple_add seq_tuple_add qh qd (qa _ _)
   (tuple_addW1 t b G.toArray Z.toArray n D S O sl L (by simpa using F)<|by simp[hw]) ⟨R,J,j hw⟩
 .refine concat_meets ⟨_,R,rfl⟩ ⟨_,J,rfl⟩ noFill_tuple_add seq_tuple_add qh qd (qa _ _)
   (tuple_addW2 t b G.toArray Z.toArray n D S O sl L (by simpa using F) (by simpa using hw) (by rw[ZO,ZO];exact T)) ⟨R,J,?_⟩
  rw[e];exact P hw
def sIx(n d:Nat):Option Int->Nat
 |none=>d
 |some v=>if v<0 then(v+(n:Int)).toNat else min v.toNat n
def sIx_none(n d:Nat):sIx n d none=d:=rfl
def sIx_nat(n d k:Nat):sIx n d (some (k:Int))=min k n:=by
 show(if(k:Int)<0 then((k:Int)+(n:Int)).toNat else min (k:Int).toNat n)=min k n;rw[Zq (by omega),vV]
def S3(n d:Nat)(hd:d<=n)(o:Option Int):sIx n d o<=n:=by
 cases o with
 |none=>exact hd
 |some v=>
  show(if v<0 then(v+(n:Int)).toNat else min v.toNat n)<=n
  by_cases hv:v<0
  .rw [Zp hv];omega
  .rw [Zq hv];exact Nat.min_le_right _ _
def Eg(v:Int)(n d:Nat):(if v<0 then max (v+(n:Int)) 0 else min v (n:Int))=((sIx n d (some v):Nat):Int):=by
 show(if v<0 then max (v+(n:Int)) 0 else min v (n:Int))=(((if v<0 then(v+(n:Int)).toNat else min v.toNat n):Nat):Int)
 by_cases hv:v<0
 .simp only[Zp hv];omega
 .simp only[Zq hv];omega
def Da(Z J:Option Int)(n:Nat):Builtin.Slice.sliceAdjust Z J 1 (n:Int)=(((sIx n 0 Z:Nat):Int),((sIx n n J:Nat):Int)):=by
 have G:¬((1:Int)<0):=by omega
 unfold Builtin.Slice.sliceAdjust;simp only[G,if_false];refine Prod.ext ?_ ?_
 .cases Z with
  |none=>rfl
  |some v=>exact Eg v n 0
 .cases J with
  |none=>rfl
  |some v=>exact Eg v n n
def Bh(i j:Nat):Builtin.Slice.slicePlaces (i:Int) (j:Int) 1=j-i:=by
 unfold Builtin.Slice.slicePlaces;have Z:(1:Int) > 0:=by omega
 simp only[Z,if_true,Int.ediv_one]
 split <;> omega
def Gj(p:IsPart v o)(h:Q o s):wpAny (model prog w) A (Builtin.Slice.slicePartIndex v) Q E s:=by
 cases p with
 |none=>exact slicePart_none h
 |int i t=>exact slicePart_int h
def WM{Z G:Option Int}{n:Nat}(O:s.heap.IsSliceOf sl vl vu .none)(N:IsPart vl Z)(M:IsPart vu G)(h:Q (((sIx n 0 Z:Nat):Int),1,sIx n n G-sIx n 0 Z) s):wpAny (model prog w) A (Builtin.Slice.sliceApplied (.ref sl)<|pure (n:Int)) Q E s:=by
 obtain⟨T,J,R,L⟩:=id O;unfold Builtin.Slice.sliceApplied Builtin.Slice.sliceFields;refine Zl<|Zl<|Zo J L (x:=vl) rfl (Zl<|Zo J L (x:=vu) rfl (Zl<|Zo J L (x:=.none) rfl (Zm ?_)));refine Zl<|slicePart_none ?_;show wpAny _ _ (if((1:Int)==0)=true then _ else _) _ _ s;rw[Zq (by decide)];refine Zl<|Gj N<|Zl<|Gj M<|Zl<|Zm ?_;show wpAny _ _ (match Builtin.Slice.sliceAdjust Z G 1 (n:Int)with|(Z,G)=>pure (Z,(1:Int),Builtin.Slice.slicePlaces Z G 1)) _ _ s;rw[Da Z G n];show wpAny _ _ (pure (((sIx n 0 Z:Nat):Int),(1:Int),Builtin.Slice.slicePlaces ((sIx n 0 Z:Nat):Int) ((sIx n n G:Nat):Int) 1)) _ _ s;rw[Bh];exact Zm h
def KB(Z:Array Value)(i k:Nat):((List.range k).filterMap λ(m:Nat)=>Z[((i:Int)+(m:Int)*1).toNat]?).toArray=((Z.toList.drop i).take k).toArray:=by
 have e:(λ(m:Nat)=>Z[((i:Int)+(m:Int)*1).toNat]?)=λm=>Z[i+m]?:=by
  funext m
  have:((i:Int)+(m:Int)*1).toNat=i+m:=by omega
  rw[this]
 rw[e];have:=pick_run Z i k;rw[List.filterMap_map]at this;have J:((λx=>Z[x]?) ∘ λx=>i+x)=λm=>Z[i+m]?:=rfl;rw[J]at this;rw[this]
def getItem_tuple_cut{J G:Option Int}(L:IsTup s.heap t items)(T:s.heap.IsSliceOf sl vl vu .none)(D:IsPart vl J)(B:IsPart vu G)(I:¬(sIx items.size 0 J=0/\sIx items.size items.size G=items.size))(h:Q (.ref s.heap.objs.size) {s with heap:=s.heap.push {cls:=.type "tuple",data:=.seq ((items.toList.drop<|sIx items.size 0 J).take<|sIx items.size items.size G-sIx items.size 0 J).toArray}})(S:items.size<=sizeLine):wpAny (model prog w) A (getItem (.ref t)<|.ref sl) Q E s:=by
 have Z:sizeOk (.seq ((items.toList.drop<|sIx items.size 0 J).take<|sIx items.size items.size G-sIx items.size 0 J).toArray):=by
  show((items.toList.drop<|sIx items.size 0 J).take<|sIx items.size items.size G-sIx items.size 0 J).toArray.size<=sizeLine;rw[ZO,ZN,jk,qD];omega
 have P:sIx items.size items.size G<=items.size:=S3 _ _ (ZG _) G;obtain⟨F,M,O,U⟩:=id T;have R:s.TypeIs (.ref sl) "slice":=⟨F,M,O⟩;unfold getItem
 try with_reducible refine wpAny_holding ?_
 first|refine Zl (Zm ?_)|skip
 refine Zl<|wpAny_sequenceKey L.typeIs (by decide) ?_;refine Zl (wpAny_callSpecial?_slot (name:=Str.ofString "__getitem__") L.typeIs q0
  (vq q0 L.typeIs entry_tuple_getitem ?_<|args_tuple_getitem _ _))
 show wpAny _ _ (Builtin.Tuple.tupleItemsOf (.ref t) >>=_) _ _ s;refine Zl<|tupleItemsOf_ L ?_;refine Zl<|qI R ?_;rw[Zp (by decide)];refine Zl<|WM T D B ?_
 have N:¬((((sIx items.size 0 J:Nat):Int)==0 && (1:Int)==1 && (sIx items.size items.size G-sIx items.size 0 J)==items.size)=true):=by
  intro q;rw[ZZ,ZZ]at q;have X:((sIx items.size 0 J:Nat):Int)=0:=eq_of_beq q.1.1;have C:sIx items.size items.size G-sIx items.size 0 J=items.size:=eq_of_beq q.2;exact I ⟨by omega,by omega⟩
 show wpAny _ _ (if(((sIx items.size 0 J:Nat):Int)==0 && (1:Int)==1 && (sIx items.size items.size G-sIx items.size 0 J)==items.size)=true then _ else _) _ _ s;rw[Zq N,KB]
 first
  |exact Zl (m:=Builtin.Tuple.tupleExact _)<|vS (Zm ⟨_,rfl,Zm h⟩) Z
  |exact Zl (m:=Builtin.Tuple.tupleExact _)<|vS (Zl<|Zm<|Zm ⟨_,rfl,Zm h⟩) Z
  |exact Zl<|Zl (m:=Builtin.Tuple.tupleExact _)<|vS (Zm<|Zm ⟨_,rfl,Zm h⟩) Z
  |exact Zl<|Zl (m:=Builtin.Tuple.tupleExact _)<|vS (Zm ⟨_,rfl,Zm h⟩) Z
end
end HT
namespace L2
open PySem PySem.Spec PyProof.Rows
abbrev TO:=St->Hp->(Option Int->Hp->Prop)->Prop
def PO(X:Cx)(e:Option Expr)(t:TO):Prop:=
 ∀(Z:ky)(s:Shared)(U:St)(H:Hp)(Q:Option Int->Hp->Prop),Inv X Z U H s->t U H Q->
  wpAny (model X.prog X.w) X.A (evalPart e X.env) (λu G=>∃o J,Inv X Z U J G/\IsPart u o/\Q o J) X.xe s
def OX:TO:=λ_ H Q=>Q none H
def CC(t:TE):TO:=λU H Q=>t U H λx Z=>∃i,x=.int i/\Q (some i) Z
section
variable{X:Cx}{te:TE}{lo hi:Option Expr}{tl th:TO}
def JV:PO X none OX:=by
 intro Z s U H Q I h;rw[evalPart_none];exact Zm ⟨none,H,I,.none,h⟩
def JE(h:PE X e te):PO X (some e) (CC te):=by
 intro Z s U H Q I L;rw[evalPart_some];refine thn (h Z s U H _ I L) λu s1 ⟨x,N,M,J,G⟩=>?_;obtain⟨i,rfl,q⟩:=G;obtain⟨t,rfl⟩:=J;exact⟨some i,N,M,.int i t,q⟩
def SlR(X:Cx)(r:V->Option Int->Option Int->Hp->VK->Prop):Prop:=
 ∀(Z:ky)(s:Shared)(U:St)(H:Hp)(x:V)(v G J:Value)(lo hi:kD)(sl:Addr)(Q:VK),Inv X Z U H s->RelV x v->s.heap.IsSliceOf sl G J .none->IsPart G lo->IsPart J hi->r x lo hi H Q->
  ∃T L,typeLookup (.type T) "__getitem__"=pure (some<|.builtin L)/\s.TypeIs v T/\wpAny (model X.prog X.w) X.A (getItem v<|.ref sl) (EP X Z U Q) X.xe s
def tSl(r:V->Option Int->Option Int->Hp->VK->Prop)(te:TE)(tl th:TO):TE:=λU H Q=>te U H λx G=>tl U G λl J=>th U J λu Z=>r x l u Z Q
def Vy(C:SlR X r)(y:PE X e te)(P:PO X lo tl)(A:PO X hi th):PE X (.Subscript e (.Slice lo hi none p2) pos) (tSl r te tl th):=by
 intro Z s U H Q I h;refine Subscript_<|thn (y Z s U H _ I h) λv s1 ⟨x,c,k,O,D⟩=>?_;refine wpAny_Slice<|thn (P Z s1 U c _ k D) λL N ⟨l,p,g,F,B⟩=>thn (A Z N U p _ g B) λG J ⟨u,M,m,E,R⟩=>?_;rw[evalPart_none];refine Zm ?_;have t:Inv X Z U M {J with heap:=J.heap.push {cls:=.type "slice",data:=.fields #[L,G,.none]}}:=m.kept (t':=J.toks) λb d q=>ZE _ q;obtain⟨T,f,z,S,j⟩:=C Z {J with heap:=J.heap.push {cls:=.type "slice",data:=.fields #[L,G,.none]}} U M x v L G l u J.heap.objs.size Q t O (Heap.IsSliceOf.new ..) F E R;show wpAny (model X.prog X.w) X.A (subscriptTail e (.Slice lo hi none p2) v<|.ref J.heap.objs.size) (EP X Z U Q) X.xe {J with heap:=J.heap.push {cls:=.type "slice",data:=.fields #[L,G,.none]}};exact tail_any (ops:=[.ref J.heap.objs.size,v]) S z j<|by with_unfolding_all rfl
def UW(xs:kL)(lo hi:kD):kL:=(xs.drop<|HT.sIx xs.length 0 lo).take<|HT.sIx xs.length xs.length hi-HT.sIx xs.length 0 lo
def W1(Z:kL)(lo hi:kD):(UW Z lo hi).length<=Z.length:=by
 unfold UW;rw[ZN,jk];omega
def yg(K:W.Frag):V->Option Int->Option Int->Hp->VK->Prop:=λx lo hi H Q=>∃a Z,x=.ref a/\SqT K H a Z/\
 ¬(HT.sIx Z.length 0 lo=0/\HT.sIx Z.length Z.length hi=Z.length)/\∀p,H p=none->Q (.ref p) (upd H p<|.tup<|UW Z lo hi)
def IP:SlR X (yg X.K):=by
 intro L s U H x v A F lo hi sl Q I O E T R h;obtain⟨a,J,rfl,B,D,q⟩:=h;cases O;obtain⟨G,r,N,M⟩:=I.tuple B;have Z:G.toArray.size=J.length:=by rw[ZO];exact r.length.symm
 exists "tuple",_,PyProof.Rows.slot_tuple_getitem.lookup,N.typeIs;refine HT.getItem_tuple_cut N E T R (by rw[Z];exact D) ?_ (by rw[Z];exact M);rw[Z];refine⟨.ref s.heap.objs.size,_,I.laid (t':=s.toks) (o:=.tup<|UW J lo hi) (λb S q=>ZE _ q) (ZG _) ?_,rfl,q _<|I.hok.fresh<|ZG _⟩;exact⟨Zb (W1 J lo hi) M,_,(r.drop<|HT.sIx J.length 0 lo).take<|HT.sIx J.length J.length hi-HT.sIx J.length 0 lo,Wu.new _ _⟩
def J1(K:W.Frag):R2:=λx y H Q=>∃a b J Z,x=.ref a/\y=.ref b/\SqT K H a J/\SqT K H b Z/\J≠[]/\J.length+Z.length<=sizeLine/\
 (Z=[]->Q (.ref a) H)/\(Z≠[]->∀p,H p=none->Q (.ref p) (upd H p<|.tup<|J++ Z))
def Vals.nil_iff(r:Vals Z J):J=[]↔Z=[]:=by
 cases r with
 |nil=>simp
 |cons _ _=>simp
def MZ:OpR X (binaryOp .Add) (J1 X.K):=by
 intro G s U H x y v u Q I T R h;obtain⟨a,b,O,N,rfl,rfl,P,C,S,M,D,B⟩:=h;cases T;cases R;obtain⟨A,J,F,_⟩:=I.tuple P;obtain⟨L,Z,E,_⟩:=I.tuple C;refine HT.cat_tup F E (λz=>S<|J.nil_iff.mp z) (λz=>⟨.ref a,H,I,rfl,D<|Z.nil_iff.mp z⟩) (λz=>?_) (by rw[<-J.length,<-Z.length];exact M);refine⟨.ref s.heap.objs.size,_,I.laid (t':=s.toks) (o:=.tup<|O++ N) (λb j q=>ZE _ q) (ZG _) ?_,rfl,B (λw=>z<|Z.nil_iff.mpr w) _<|I.hok.fresh<|ZG _⟩;exact⟨by rw[ZL];exact M,_,J.append Z,Wu.new _ _⟩
end
def ixN(n:Nat)(i:Int):Option Nat:=if 0<=i then(if i<n then some i.toNat else none)else if -(n:Int)<=i then some (i+n).toNat else none
def atI{α:Type}(xs:List α)(i:Int):Option α:=(ixN xs.length i).bind λj=>xs[j]?
def EM(h:ixN n i=some j):seqIndex? i n=some j/\j<n/\ -(n:Int)<=i/\i<n:=by
 unfold ixN at h
 by_cases h0:0<=i
 .rw [Zp h0]at h
  by_cases h1:i<n
  .rw [Zp h1]at h
   have e:i.toNat=j:=ZT h;exact⟨by rw[seqIndex_of h0 h1,e],by omega,by omega,h1⟩
  .rw [Zq h1]at h;cases h
 .rw [Zq h0]at h
  by_cases h1: -(n:Int)<=i
  .rw [Zp h1]at h
   have e:(i+n).toNat=j:=ZT h;exact⟨by rw[seqIndex_neg (by omega) h1,e],by omega,h1,by omega⟩
  .rw [Zq h1]at h;cases h
def Mu(h:atI Z i=some v):∃j,seqIndex? i Z.length=some j/\Z[j]?=some v/\j<Z.length/\ -(Z.length:Int)<=i/\i<Z.length:=by
 unfold atI at h
 cases e:ixN Z.length i with
 |none=>rw[e]at h;cases h
 |some j=>
  rw[e]at h;obtain⟨M,L,G,J⟩:=EM e;exact⟨j,M,h,L,G,J⟩
def VD{Z:List α}{j:Nat}{v:α}(h:Z[j]?=some v):atI Z (j:Int)=some v:=by
 have J:j<Z.length:=(ZF.mp h).1
 have e:ixN Z.length (j:Int)=some j:=by
  unfold ixN;rw[Zp (by omega),Zp (by omega)];simp
 unfold atI;rw[e];exact h
def Tl(Z:List α)(v:α):atI (Z++[v]) (-1)=some v:=by
 have J:(Z++[v]).length=Z.length+1:=by simp
 have e:ixN (Z++[v]).length (-1)=some Z.length:=by
  unfold ixN;rw[J,Zq<|by decide,Zp (by omega)]
  congr 1
  omega
 unfold atI;rw[e];show(Z++[v])[Z.length]?=some v;simp
def QM(b:Expr):Prop:=∀o i,subscripted b false o i=operate [o,i] (getItem o i)
def IxR(X:Cx)(r:R2):Prop:=
 ∀(value slice:Expr)(Z:ky)(s:Shared)(U:St)(H:Hp)(x y:V)(v u:Value)(Q:VK),Inv X Z U H s->RelV x v->RelV y u->r x y H Q->
  subscripted slice false v u=operate [v,u] (getItem v u)->wpAny (model X.prog X.w) X.A (subscriptTail value slice v u) (EP X Z U Q) X.xe s
def MtR(X:Cx)(id:String)(r:V->List V->Hp->VK->Prop):Prop:=
 ∀(Z:ky)(s:Shared)(U:St)(H:Hp)(x:V)(J:kL)(v:Value)(G:kB)(Q:VK),Inv X Z U H s->RelV x v->Vals J G->r x J H Q->
  wpAny (model X.prog X.w) X.A (call (.builtin id) (v::G)) (EP X Z U Q) X.xe s
section
variable{a b:Expr}{ta tb:TE}
def Yr(N:IxR X r)(R:PE X a ta)(O:PE X b tb)(M:QM b:=by exact λ_ _=>Y):PE X (.Subscript a b pos) (tOp r ta tb):=by
 intro Z s U H Q I h;exact Subscript_<|Au R O I h λv u J x y B T L G q=>N a b Z J U B x y v u Q T L G q<|M _ _
def Ez(K:W.Frag):R2:=λx y H Q=>V7 x λp=>UT y λi=>∃Z v,SqL K H p Z/\atI Z i=some v/\Q v H
def Ez.old{K:W.Frag}(h:Ez K x y H Q):∃p Z i v,x=.ref p/\y=.int i/\SqL K H p Z/\atI Z i=some v/\Q v H:=by
 replace h:=V7.old h;obtain⟨p,e,h⟩:=h;replace h:=UT.old h;obtain⟨i,J,Z,v,h⟩:=h;exact⟨p,Z,i,v,e,J,h⟩
def Vb(K:W.Frag):R2:=λx y H Q=>V7 x λp=>UT y λi=>∃Z v,SqT K H p Z/\atI Z i=some v/\Q v H
def Vb.old{K:W.Frag}(h:Vb K x y H Q):∃p Z i v,x=.ref p/\y=.int i/\SqT K H p Z/\atI Z i=some v/\Q v H:=by
 replace h:=V7.old h;obtain⟨p,e,h⟩:=h;replace h:=UT.old h;obtain⟨i,J,Z,v,h⟩:=h;exact⟨p,Z,i,v,e,J,h⟩
def Cf:R2:=λx y H Q=>∃z i c,x=.str z/\y=.int i/\z.length<=sizeLine/\atI z.cps.toList i=some c/\Q (.str ⟨#[c]⟩) H
def VH:IxR X (Ez X.K):=by
 intro value slice Z s U H x y v u Q I D B h O;replace h:=Ez.old h;obtain⟨p,m,i,z,rfl,rfl,E,A,q⟩:=h;cases D;obtain⟨t,rfl⟩:=B;obtain⟨N,r,M,g⟩:=I.list E;obtain⟨j,G,P,c,C,S⟩:=Mu A;obtain⟨w,R,L⟩:=r.get P;have F:=r.length;have k:=Wh;have J:EP X Z U Q w s:=⟨z,H,I,L,q⟩
 by_cases h0:0<=i
 .have hj:i.toNat=j:=by
   rw[seqIndex_of h0 S]at G;exact ZT G
  exact item_listR M.isList h0 (by omega) (by rw[hj];simpa using R) J O
 .have hj:(i+(N.toArray.size:Int)).toNat=j:=by
   rw[seqIndex_neg (by omega) C]at G;rw[ZO,<-F];exact ZT G
  exact subscriptTail_builtinR (x:=w) M.isList.typeIs slot_list_getitem.lookup
   (wpAny_getItem_list_neg (Q:=λr T=>r=w/\EP X Z U Q r T) M.isList (by omega) (by rw[ZO] <;> omega) (by omega) (by rw[hj];simpa using R) ⟨rfl,J⟩) O
def Yt:IxR X (Vb X.K):=by
 intro value slice Z s U H x y v u Q I O N h T;replace h:=Vb.old h;obtain⟨p,C,i,z,rfl,rfl,B,E,q⟩:=h;cases O;obtain⟨t,rfl⟩:=N;obtain⟨R,r,L,P⟩:=I.tuple B;obtain⟨j,A,F,c,k,g⟩:=Mu E;obtain⟨w,S,J⟩:=r.get F;have D:=r.length;have m:=Wh;have G:EP X Z U Q w s:=⟨z,H,I,J,q⟩;exact subscriptTail_builtinR (x:=w) L.typeIs slot_tuple_getitem.lookup
  (getItem_tuple (j:=j) (Q:=λr M=>r=w/\EP X Z U Q r M) L (by omega) (by omega) (by rw[ZO,<-D];exact A) (by simpa using S) ⟨rfl,G⟩) T
def B3:IxR X Cf:=by
 intro value slice Z s U H x y v u Q I L G h M;obtain⟨z,i,c,rfl,rfl,A,O,q⟩:=h;obtain⟨t,rfl⟩:=L;obtain⟨F,rfl⟩:=G;obtain⟨j,J,B,C,T,R⟩:=Mu O;have N:z.cps.toList.length=z.length:=by simp[Str.length]
 rw[N]at J T R;have S:=Wh
 exact tail_any (typeIs_str s z t) slot_str_getitem.lookup (getItem_str (c:=c) (by
  have E:decide (i < -(2 ^ 63:Int))=false:=Zy (by omega);have D:decide (i ≥ 2 ^ 63)=false:=Zy (by omega);rw[E,D,Bool.or_false]) (by rw[J];simpa using B) ⟨.str ⟨#[c]⟩,H,I.tok _,⟨_,rfl⟩,q⟩) M
def Bx(Z:kB)(n j:Nat)(u:Value):Obj.mapSeq (·.setIfInBounds j u) {cls:=.type "list",data:=.seq Z.toArray n}={cls:=.type "list",data:=.seq (Z.set j u).toArray n}:=by
 simp[Obj.mapSeq]
def Inv.lst(I:Inv X G U H s)(h:H p=some (.lst J)):
  ∃(Z:kB)(n:Nat),Vals J Z/\s.heap.get? p=some {cls:=.type "list",data:=.seq Z.toArray n}/\J.length<=sizeLine:=by
 obtain⟨z,Z,n,r,e⟩:=I.hok p _ h;exact⟨Z,n,r,e,z⟩
def Inv.lstUpd{G Z:kB}(I:Inv X J U H s)(h:H p=some (.lst T))(O:s.heap.get? p=some {cls:=.type "list",data:=.seq G.toArray n})(M:f {cls:=.type "list",data:=.seq G.toArray n}={cls:=.type "list",data:=.seq Z.toArray n'})(r:Vals L Z)(N:L.length<=sizeLine)(t:Nat):
  Inv X J U (upd H p<|.lst L) {s with heap:=s.heap.update p f,toks:=t}:=by
 have e:(s.heap.update p f).get? p=some {cls:=.type "list",data:=.seq Z.toArray n'}:=by
  rw[Heap.get?_update_self f O (by rw[M] <;> rfl),M]
 refine I.write (x:=p) (e:=p) (by rw[h];trivial) (.inl Y) (λb u R q=>(Heap.get?_update_other _ _<|Zs R).trans q) ⟨_,e⟩ ?_;exact⟨N,Z,n',r,e⟩
def Cd:V->V->V->Hp->(Hp->Prop)->Prop:=λo i v H Q=>∃p Z k j,o=.ref p/\i=.int k/\H p=some (.lst Z)/\ixN Z.length k=some j/\Q (upd H p<|.lst<|Z.set j v)
def set_list:yC X Cd:=by
 intro Z s U H o i v C P u Q I E F D h;obtain⟨p,B,k,j,rfl,rfl,N,S,q⟩:=h;cases E;obtain⟨t,rfl⟩:=F;obtain⟨J,n,r,L,A⟩:=I.lst N;obtain⟨G,z,R,O⟩:=EM S;have M:=r.length;have y:=Wh
 have T:Inv X Z U (upd H p<|.lst<|B.set j v) {s with heap:=s.heap.update p (Obj.mapSeq (·.setIfInBounds j u))}:=
  I.lstUpd N L (Bx J n j u) (r.set D j) (by rw[List.length_set];exact A) s.toks
 by_cases h0:0<=k
 .have hk:k.toNat=j:=by
   rw[seqIndex_of h0 O]at G;exact ZT G
  exact W.ki_setAt L h0 (by omega) (by rw[ZO,<-M];exact O) (by rw[hk];exact⟨_,T,q⟩)
 .have hk:(k+(J.toArray.size:Int)).toNat=j:=by
   rw[seqIndex_neg (by omega) R]at G;rw[ZO,<-M];exact ZT G
  exact W.ki_setBack L (by omega) (by rw[ZO,<-M];exact R) (by omega) (by rw[hk];exact⟨_,T,q⟩)
def MC(Z J:kD)(n:Nat):(sliceBounds Z J none n).1=((HT.sIx n 0 Z:Nat):Int)/\(sliceBounds Z J none n).2.1=((HT.sIx n n J:Nat):Int)/\(sliceBounds Z J none n).2.2=1:=by
 refine⟨?_,?_,Y⟩
 .cases Z with
  |none=>simp[sliceBounds,HT.sIx]
  |some i=>
   simp only[sliceBounds,HT.sIx,Option.getD_none,show(1:Int) > 0 by decide,if_true]
   by_cases h:i<0
   .simp only[h,if_true] <;> omega
   .simp only[h,if_false] <;> omega
 .cases J with
  |none=>simp[sliceBounds,HT.sIx]
  |some i=>
   simp only[sliceBounds,HT.sIx,Option.getD_none,show(1:Int) > 0 by decide,if_true]
   by_cases h:i<0
   .simp only[h,if_true] <;> omega
   .simp only[h,if_false] <;> omega
def To(Z:kB)(J G:kD):slicePick Z.toArray J G none=((Z.drop<|HT.sIx Z.length 0 J).take<|HT.sIx Z.length Z.length G-HT.sIx Z.length 0 J).toArray:=by
 obtain⟨N,M,L⟩:=MC J G Z.toArray.size;unfold slicePick;rw[N,M,L];simp only[sliceRange_one,pick_run,ZO] <;> rfl
def yi(K:W.Frag):V->Option Int->Option Int->Hp->VK->Prop:=λx J G H Q=>∃a Z,x=.ref a/\SqL K H a Z/\∀p,H p=none->Q (.ref p) (upd H p<|.lst<|UW Z J G)
def Xm:SlR X (yi X.K):=by
 intro M s U H x v S A G L sl Q I O F T R h;obtain⟨a,Z,rfl,E,q⟩:=h;cases O;obtain⟨B,r,N,D⟩:=I.list E;have J:=r.length;exists "list",_,slot_list_getitem.lookup,N.isList.typeIs;refine wpAny_getItem_list_slice N.isList F T R .none (by simp) ?_ (by rw[ZO] <;> omega);rw[To,<-J];refine⟨.ref s.heap.objs.size,_,I.laid (t':=s.toks) (o:=.lst<|UW Z G L) (λb C q=>ZE _ q) (ZG _) ?_,rfl,q _<|I.hok.fresh<|ZG _⟩;exact⟨Zb (W1 Z G L) D,_,0,(r.drop<|HT.sIx Z.length 0 G).take<|HT.sIx Z.length Z.length L-HT.sIx Z.length 0 G,ZY _ rfl⟩
def UG:V->Bool
 |.non=>true
 |.bl _=>true
 |.int _=>true
 |.str _=>true
 |_=>false
def eqV:V->V->Bool
 |.non,.non=>true
 |.bl a,.bl b=>a==b
 |.bl a,.int b=>(if a then 1 else 0)==b
 |.int a,.bl b=>a==(if b then 1 else 0)
 |.int a,.int b=>a==b
 |.str a,.str b=>a==b
 |_,_=>false
def Ao(G:RelV y u)(Z:RelV x v)(M:UG y=true)(L:UG x=true):SeqAt.EqAt A s u v (eqV y x):=by
 cases y with
 |non=>
  cases G
  cases x with
  |non=>cases Z;exact SeqAt.EqAt.same _
  |bl b=>cases Z;exact SeqAt.EqAt.none_bool b
  |int b=>obtain⟨t,rfl⟩:=Z;exact SeqAt.EqAt.none_int b t
  |str b=>obtain⟨t,rfl⟩:=Z;exact SeqAt.EqAt.none_str b t
  |_=>exact Zr (show false=true from L) Zi
 |bl a=>
  cases G
  cases x with
  |non=>cases Z;exact SeqAt.EqAt.bool_none a
  |bl b=>cases Z;exact SeqAt.EqAt.bool_bool a b
  |int b=>obtain⟨t,rfl⟩:=Z;exact SeqAt.EqAt.bool_int a b t
  |str b=>obtain⟨t,rfl⟩:=Z;exact SeqAt.EqAt.bool_str a b t
  |_=>exact Zr (show false=true from L) Zi
 |int a=>
  obtain⟨J,rfl⟩:=G
  cases x with
  |non=>cases Z;exact SeqAt.EqAt.int_none a J
  |bl b=>cases Z;exact SeqAt.EqAt.int_bool a J b
  |int b=>obtain⟨t,rfl⟩:=Z;exact SeqAt.EqAt.int_int a J b t
  |str b=>obtain⟨t,rfl⟩:=Z;exact SeqAt.EqAt.int_str a J b t
  |_=>exact Zr (show false=true from L) Zi
 |str a=>
  obtain⟨J,rfl⟩:=G
  cases x with
  |non=>cases Z;exact SeqAt.EqAt.str_none a J
  |bl b=>cases Z;exact SeqAt.EqAt.str_bool a J b
  |int b=>obtain⟨t,rfl⟩:=Z;exact SeqAt.EqAt.str_int a J b t
  |str b=>obtain⟨t,rfl⟩:=Z;exact SeqAt.EqAt.str_str a J b t
  |_=>exact Zr (show false=true from L) Zi
 |_=>exact Zr (show false=true from M) Zi
def eqU(x:V)(u:Value):Bool:=match u with
 |.none=>eqV .non x
 |.bool b=>eqV (.bl b) x
 |.int i _=>eqV (.int i) x
 |.str z _=>eqV (.str z) x
 |_=>false
def DF(r:RelV y u)(f:UG y=true):eqU x u=eqV y x:=by
 cases y with
 |non=>cases r;rfl
 |bl b=>cases r;rfl
 |int i=>obtain⟨t,rfl⟩:=r;rfl
 |str z=>obtain⟨t,rfl⟩:=r;rfl
 |_=>exact Zr (show false=true from f) Zi
theorem X9:∀{Z:kL}{J:kB},Vals Z J->Z.all UG=true->J.any (eqU x)=Z.any λy=>eqV y x
 |_,_,.nil,_=>rfl
 |y::Z,u::J,.cons r t,f=>by
  rw[qO,ZZ]at f;rw[jU,jU,DF r f.1,X9 t f.2]
theorem US(L:RelV x v)(M:UG x=true):∀{J:kL}{G:kB},Vals J G->J.all UG=true->∀u∈G,SeqAt.EqAt A s u v<|eqU x u
 |_,_,.nil,_=>λu Z=>by cases Z
 |y::J,u::G,.cons r t,f=>λN Z=>by
  rw[qO,ZZ]at f;rcases Zd.mp Z with rfl|Z
  .rw [DF r f.1];exact Ao r L f.1 M
  .exact US L M t f.2 N Z
def inV(x:V)(xs:kL):Bool:=xs.any λy=>eqV y x
def rIn(K:W.Frag)(neg:Bool):R2:=λx y H Q=>∃p Z,y=.ref p/\(SqL K H p Z\/SqT K H p Z)/\UG x=true/\Z.all UG=true/\Q (.bl<|if neg then !inV x Z else inV x Z) H
def XD:OpR X (compareOp .In) (rIn X.K false):=by
 intro M s U H x y v u Q I L O h;obtain⟨p,R,rfl,Z,N,J,q⟩:=h;cases O;rcases Z with Z|Z
 .obtain ⟨its,r,pl,hz⟩:=I.list Z
  refine SeqAt.in_listAt (eqU x) pl.isList (λw G=>US L N r J w<|by simpa using G) ⟨.bl _,H,I,rfl,?_⟩;rw[show its.toArray.any (eqU x)=its.any (eqU x) by simp,X9 r J];exact q
 .obtain ⟨its,r,pl,hz⟩:=I.tuple Z
  refine SeqAt.in_tupleAt (eqU x) pl (λw G=>US L N r J w<|by simpa using G) ⟨.bl _,H,I,rfl,?_⟩;rw[show its.toArray.any (eqU x)=its.any (eqU x) by simp,X9 r J];exact q
def JX:OpR X (compareOp .NotIn) (rIn X.K true):=by
 intro M s U H x y v u Q I L O h;obtain⟨p,R,rfl,Z,N,J,q⟩:=h;cases O;rcases Z with Z|Z
 .obtain ⟨its,r,pl,hz⟩:=I.list Z
  refine SeqAt.notIn_listAt (eqU x) pl.isList (λw G=>US L N r J w<|by simpa using G) ⟨.bl _,H,I,rfl,?_⟩;rw[show its.toArray.any (eqU x)=its.any (eqU x) by simp,X9 r J];exact q
 .obtain ⟨its,r,pl,hz⟩:=I.tuple Z
  refine SeqAt.notIn_tupleAt (eqU x) pl (λw G=>US L N r J w<|by simpa using G) ⟨.bl _,H,I,rfl,?_⟩;rw[show its.toArray.any (eqU x)=its.any (eqU x) by simp,X9 r J];exact q
def Y8:Js X (.builtin "len") (λL H Q=>∃p J,L=[.ref p]/\(SqL X.K H p J\/SqT X.K H p J)/\Q (.int J.length) H):=by
 intro M s U H L O Q I r h;obtain⟨p,J,rfl,G,q⟩:=h;obtain⟨u,rfl,N⟩:=vals1 r;cases N;have R:=Wh;rcases G with G|G
 .obtain ⟨its,r',pl,hz⟩:=I.list G
  have Z:=r'.length;exact Calls.call_len_list pl.isList (by simp only[ZO] <;> omega) ⟨.int J.length,H,I.tok _,⟨s.toks+1,by rw[ZO,Z]⟩,q⟩
 .obtain ⟨its,r',pl,hz⟩:=I.tuple G
  have Z:=r'.length;exact len_tuple pl (by simp only[ZO] <;> omega) ⟨.int J.length,H,I.tok _,⟨s.toks+1,by rw[ZO,Z]⟩,q⟩
def Mt:Js X (.builtin "len") (λZ H Q=>∃z,Z=[.str z]/\z.length<=sizeLine/\Q (.int z.length) H):=by
 intro J s U H Z G Q I r h;obtain⟨z,rfl,L,q⟩:=h;obtain⟨u,rfl,t,rfl⟩:=vals1 r;have M:=Wh;exact len_str (by omega) ⟨.int z.length,H,I.tok _,⟨_,Y⟩,q⟩
def Uh:Js X (.type "list") (λA H Q=>∃p G,A=[.ref p]/\(SqL X.K H p G\/SqT X.K H p G)/\∀l,H l=none->Q (.ref l) (upd H l<|.lst G)):=by
 intro N s U H A P Q I r h;obtain⟨p,G,rfl,T,q⟩:=h;obtain⟨u,rfl,C⟩:=vals1 r;cases C;have D:∀(Z:kB),Vals G Z->G.length<=sizeLine->∀(J:Heap)(M:Nat),(∀b S,s.heap.get? b=some S->J.get? b=some S)->
   J.get? s.heap.objs.size=some {cls:=.type "list",dict:=none,data:=.seq Z.toArray M,slots:= #[]}->EP X N U Q (.ref s.heap.objs.size) {s with heap:=J}:=λZ L R J M O e=>
  ⟨.ref s.heap.objs.size,_,I.laid (t':=s.toks) O (ZG _) (show VO X.prog X.w _ J _ (.lst G)from⟨R,Z,M,L,e⟩),rfl,q _<|I.hok.fresh<|ZG _⟩
 rcases T with T|T
 .obtain ⟨Z,L,pl,R⟩:=I.list T
  have B:=L.length;obtain⟨o,E,F,n,hd⟩:=pl.isList;exact call_list_seq p (.inl Y) E F hd (λJ M O e=>D Z L R J M O e) (by simp only[ZO] <;> omega)
 .obtain ⟨Z,L,pl,R⟩:=I.tuple T
  have B:=L.length;obtain⟨o,E,F,n,hd⟩:=pl;exact call_list_seq p (.inr Y) E F hd (λJ M O e=>D Z L R J M O e) (by simp only[ZO] <;> omega)
def Jj:Js X (.type "tuple") (λM H Q=>∃p J,M=[.ref p]/\((SqL X.K H p J/\∀l,H l=none->Q (.ref l) (upd H l<|.tup J))\/(SqT X.K H p J/\Q (.ref p) H))):=by
 intro Z s U H M D Q I r h;obtain⟨p,J,rfl,h⟩:=h;obtain⟨u,rfl,R⟩:=vals1 r;cases R;rcases h with⟨L,q⟩|⟨L,q⟩
 .obtain ⟨its,r',pl,hz⟩:=I.list L
  have N:=r'.length;refine call_tuple_list pl.isList (λG T=>?_) (by simp only[ZO] <;> omega);have O:Inv X Z U H {s with heap:=G}:=I.kept (t':=s.toks) T
  have B:Inv X Z U (upd H G.objs.size<|.tup J) {s with heap:=G.push {cls:=.type "tuple",data:=.seq its.toArray}}:=
   O.laid (t':=s.toks) (λb o e=>ZE _ e) (ZG _) (show VO X.prog X.w _ _ _ (.tup J)from⟨hz,its,r',Wu.new _ _⟩)
  exact⟨.ref G.objs.size,_,B,Y,q _<|O.hok.fresh<|ZG _⟩
 .obtain ⟨its,r',pl,hz⟩:=I.tuple L
  exact call_tuple_same pl ⟨.ref p,H,I,Y,q⟩
def tyV(K:W.Frag)(T:String)(x:V)(H:Hp):Prop:=match x with
 |.str _=>T="str"
 |.int _=>T="int"
 |.ref p=>(T="list" /\∃xs,SqL K H p xs)\/(T="tuple" /\∃o,K.lookup p=some o/\o.cls=.type "tuple" /\o.dict=none) \/
   (T="dict" /\((∃kvs,H p=some (.dK kvs)) \/ ∃kvs,H p=some (.dT kvs)))\/(T="set" /\∃S n,H p=some (.set S n))
 |_=>False
def Fq(I:Inv X M U H s)(r:RelV x v)(ty:tyV X.K T x H):
  s.TypeIs v T/\∀a,v=.ref a->∃N,s.heap.get? a=some N/\N.dict=none:=by
 cases x with
 |str z=>
  obtain⟨t,rfl⟩:=r;cases(show T="str" from ty);exact⟨typeIs_str s z t,λ_ e=>nomatch e⟩
 |int i=>
  obtain⟨t,rfl⟩:=r;cases(show T="int" from ty);exact⟨typeIs_int s i t,λ_ e=>nomatch e⟩
 |ref p=>
  cases r;rcases ty with⟨rfl,B,O⟩|⟨rfl,o,Z,R,hd⟩|⟨rfl,Z⟩|⟨rfl,S,n,Z⟩
  .obtain ⟨its,_,pl,_⟩:=I.list O
   refine⟨pl.isList.typeIs,λa e=>?_⟩;cases e;obtain⟨o,n,e,c,hd,_⟩:=pl;exact⟨o,e,hd⟩
  .refine ⟨⟨o,I.kIn p o Z,R⟩,λa e=>?_⟩
   cases e;exact⟨o,I.kIn _ o Z,hd⟩
  .have z:∃o,s.heap.get? p=some o/\o.ExactDict:=by
    rcases Z with⟨G,Z⟩|⟨G,Z⟩
    .obtain ⟨_,_,_,_,o,_,_,e,J,_⟩:=I.hok p _ Z
     exact⟨o,e,J⟩
    .obtain ⟨_,_,_,_,o,_,_,e,J,_⟩:=I.hok p _ Z
     exact⟨o,e,J⟩
   obtain⟨o,e,J⟩:=z;refine⟨⟨o,e,J.1⟩,λa L=>?_⟩;cases L;exact⟨o,e,J.2.1⟩
  .obtain ⟨o,_,_,_,e,J,_⟩:=I.hok p _ Z
   refine⟨⟨o,e,J.1⟩,λa L=>?_⟩;cases L;exact⟨o,e,J.2.1⟩
 |_=>exact False.elim ty
def yN(K:W.Frag)(T:String)(r:V->List V->Hp->VK->Prop)(to:TE):TE:=λU H Q=>to U H λx Z=>tyV K T x Z/\r x [] Z Q
def tBM(K:W.Frag)(T:String)(r:V->List V->Hp->VK->Prop)(to:TE)(t:TA):TE:=λU H Q=>to U H λx Z=>tyV K T x Z/\t U Z λJ G=>r x J G Q
variable{T id:String}
def KO(R:PlainAttrs T)(slot:Slot T name id)(L:typeOf (.builtin id)=pure (.type "method_descriptor"))(D:MtR X id r)(B:PE X o to)(G:attributeBase o name X.env (eval o X.env)=eval o X.env:=by rfl)(J:(apos.endLine==cpos.line)=true:=by rfl):PE X (.Call (.Attribute o name apos) [] [] cpos) (yN X.K T r to):=by
 intro Z s U H Q I h;refine wpAny_Call_method0_late G J<|thn (B Z s U H _ I h) λv s1 ⟨x,A,N,M,ty,O⟩=>?_;obtain⟨F,E⟩:=Fq N M ty;exact⟨T,id,R,slot,L,F,E,Calls.callWith_builtin Y (PySem.evalArgs_none<|D Z s1 U A x [] v [] Q N M .nil O)⟩
def Uw(j:PlainAttrs T)(slot:Slot T name id)(O:typeOf (.builtin id)=pure (.type "method_descriptor"))(q:MtR X id r)(z:PE X o to)(m:PA X (e::M) t)(L:attributeBase o name X.env (eval o X.env)=eval o X.env:=by rfl)(N:((backTo cpos<|starEach (e::M) X.env).all (λx=>!x.1) && (backToKw cpos<|keywordEach [] X.env).all (λx=>x.1.isSome)
   && decide ((e::M).length+([]:List Keyword).length+(if([]:List Keyword).isEmpty then 0 else 1)<30))=true:=by rfl)(G:(apos.endLine==cpos.line)=true:=by rfl)(y:starEach (e::M) X.env=(false,eval e X.env)::starEach M X.env:=by rfl)(J:(backTo cpos<|starEach M X.env).any (·.1)=false:=by rfl):
  PE X (.Call (.Attribute o name apos) (e::M) [] cpos) (tBM X.K T r to t):=by
 intro Z s U H Q I h;refine wpAny_Call_method_late L N G Y (thn (z Z s U H _ I h) λv s1 ⟨x,d,D,R,ty,P⟩=>?_);obtain⟨k,g⟩:=Fq D R ty;exists T,id,j,slot,O,k,g;have B:=m cpos Z s1 U d _ D P;rw[y]at B |-;refine Calls.callWith_builtin (by show(false || (backTo cpos<|starEach M X.env).any (·.1))=false;rw[J] <;> rfl)<|Calls.evalArgs_plain ?_;exact thn B λF A ⟨E,c,p,S,C⟩=>q Z A U c x E v F Q p R S C
end
def MtM(X:Cx)(id:String)(r:V->List V->Hp->VK->Prop):Prop:=
 ∀(Z:ky)(s:Shared)(U:St)(H:Hp)(x:V)(J:kL)(v:Value)(G:kB)(Q:VK),Inv X Z U H s->RelV x v->Vals J G->r x J H Q->
  wpAny (model X.prog X.w) X.A (call (.builtin id) (v::G)) (EP X Z U Q) X.xe s
theorem Vals.one:∀{x:V}{Z:kB},Vals [x] Z->∃u,Z=[u]/\RelV x u
 |_,_,.cons r .nil=>⟨_,rfl,r⟩
theorem Vals.zero:∀{Z:kB},Vals [] Z->Z=[]
 |_,.nil=>rfl
def Vals.dropLast(h:Vals Z J):Vals Z.dropLast J.dropLast:=by
 induction h with
 |nil=>exact .nil
 |cons r t ih=>
  cases t with
  |nil=>exact .nil
  |cons q G=>exact .cons r ih
def DD(l:List α):l.eraseIdx (l.length-1)=l.dropLast:=by
 induction l with
 |nil=>rfl
 |cons a r ih=>
  cases r with
  |nil=>rfl
  |cons b r=>
   have e:(a::b::r).length-1=((b::r).length-1)+1:=by
    have J:(a::b::r).length=r.length+2:=rfl;have Z:(b::r).length=r.length+1:=rfl;omega
   rw[e,List.eraseIdx_cons_succ,ih]
   all_goals rfl
theorem foldl_rep(Z:kB):∀(k:Nat)(J:kB),
  List.foldl (λL G=>L++ G) J.toArray (List.replicate k Z.toArray)=(J++ (List.replicate k Z).flatten).toArray
 |0,J=>by simp
 |k+1,J=>by
  have e:J.toArray++ Z.toArray=(J++ Z).toArray:=by simp
  have M:(J++ Z)++ (List.replicate k Z).flatten=J++ (List.replicate (k+1) Z).flatten:=by
   rw[qJ,List.flatten_cons,vZ]
  rw[<-M,<-foldl_rep Z k (J++ Z),<-e,qJ,jF]
section
def Inv.lset{J its':kB}(I:Inv X Z U H s)(T:H l=some (.lst B))(e:s.heap.get? l=some {cls:=.type "list",data:=.seq J.toArray n})(O:f J.toArray=its'.toArray)(M:Vals G its')(L:G.length<=sizeLine):
  Inv X Z U (upd H l<|.lst G) {s with heap:=s.heap.update l<|Obj.mapSeq f,toks:=D}:=by
 have q:=PySem.IsL.update e f;rw[O]at q;refine I.write (x:=l) (e:=l) (by rw[T];exact trivial) (.inl Y) (λE u R N=>(Heap.get?_update_other s.heap (Obj.mapSeq f)<|Zs R).trans N) ⟨_,q⟩ ?_;exact⟨L,its',_,M,q⟩
def Inv.lnew(I:Inv X Z U H s)(M:Vals G J)(L:G.length<=sizeLine):
  Inv X Z U (upd H s.heap.objs.size<|.lst G) {s with heap:=s.heap.push {cls:=.type "list",data:=.seq J.toArray},toks:=t'}:=
 I.laid (λ_ _ q=>ZE _ q) (ZG _) ⟨L,J,0,M,ZY _ rfl⟩
def Inv.fresh(I:Inv X Z U H s):H s.heap.objs.size=none:=I.hok.fresh<|ZG _
def Inv.lstM(I:Inv X G U H s)(L:H l=some (.lst J)):J.length<=sizeLine/\∃(Z:kB)(n:Nat),Vals J Z/\J.length=Z.length/\s.heap.get? l=some {cls:=.type "list",data:=.seq Z.toArray n}:=by
 obtain⟨z,Z,n,r,e⟩:=I.hok l _ L;exact⟨z,Z,n,r,r.length,e⟩
end
section
def O2:V->List V->Hp->VK->Prop:=λx J H Q=>∃l Z y,x=.ref l/\J=[y]/\H l=some (.lst Z)/\Z.length<sizeLine/\Q .non (upd H l<|.lst<|Z++[y])
def JR:MtM X "list.append" O2:=by
 intro J s U H x R v T Q I L M h;obtain⟨l,O,y,rfl,rfl,G,B,q⟩:=h;cases L;obtain⟨u,rfl,N⟩:=M.one;obtain⟨z,Z,n,r,D,e⟩:=I.lstM G;refine qe F.slot_list_append ⟨_,e,Y⟩ F.entry_list_append (F.args_list_append_2 _ _) (PySem.list_append l Z.toArray n u (by rw[ZO];omega)) ⟨e,?_⟩;refine⟨.non,_,I.lset (its':=Z++[u]) G e (by simp) (r.append<|.cons N .nil) ?_,rfl,q⟩;rw[ZL,vc];omega
def yj:V->List V->Hp->VK->Prop:=λx J H Q=>∃l Z y,x=.ref l/\J=[]/\H l=some (.lst Z)/\Z[Z.length-1]?=some y/\Q y (upd H l<|.lst Z.dropLast)
def K6:MtM X "list.pop" yj:=by
 intro L s U H x A v S Q I N O h;obtain⟨l,E,y,rfl,rfl,M,T,q⟩:=h;cases N;have G:=O.zero;subst G;obtain⟨z,Z,n,r,D,e⟩:=I.lstM M;obtain⟨u,B,R⟩:=r.get T
 have J:Z.toArray[Z.toArray.size-1]?=some u:=by
  show Z.toArray[Z.length-1]?=some u;rw[<-Array.getElem?_toList,<-D];exact B
 refine qe F.slot_list_pop ⟨_,e,Y⟩ F.entry_list_pop (F.args_list_pop_1 _) (MeetsSeq.list_pop_last l Z.toArray n u J (by rw[ZO];omega)) ⟨e,?_⟩;refine⟨y,_,I.lset (its':=Z.dropLast) M e ?_ r.dropLast ?_,R,q⟩
 .show Z.toArray.eraseIdxIfInBounds (Z.toArray.size-1)=Z.dropLast.toArray
  rw[ZO,List.eraseIdxIfInBounds_toArray,DD]
 .rw [jV]
  omega
def yo:R2:=λx y H Q=>∃l b J Z,x=.ref l/\y=.ref b/\H l=some (.lst J)/\H b=some (.lst Z)/\J.length+Z.length<=sizeLine/\∀p,H p=none->Q (.ref p) (upd H p<|.lst<|J++ Z)
def Bp:OpR X (binaryOp .Add) yo:=by
 intro G s U H x y v u Q I M L h;obtain⟨l,b,A,E,rfl,rfl,R,T,C,q⟩:=h;cases M;cases L;obtain⟨z,J,n,r,P,e⟩:=I.lstM R;obtain⟨F,Z,S,N,O,D⟩:=I.lstM T;refine PySem.P.add_list e D ?_ (by rw[ZO,ZO];omega);have B:J.toArray++ Z.toArray=(J++ Z).toArray:=by simp
 rw[B];exact⟨.ref _,_,I.lnew (t':=s.toks) (r.append N) (by rw[ZL];omega),Y,q _ I.fresh⟩
end
section
set_option maxRecDepth 100000 in
end
section
variable{κ:Type}[DecidableEq κ]
def VC(kvs:List (κ×V))(k:κ):kP:=(kvs.find? λZ=>decide<|Z.1=k).map (·.2)
def putK(kvs:List (κ×V))(k:κ)(v:V):List (κ×V):=
 if(kvs.any λZ=>decide<|Z.1=k)=true then kvs.map (λZ=>if Z.1=k then(Z.1,v)else Z)else kvs++[(k,v)]
def Vh{p:κ×V}(e:p.1=k):VC (p::r) k=some p.2:=by simp[VC,vy,e]
def Vn{p:κ×V}(e:¬p.1=k):VC (p::r) k=VC r k:=by simp[VC,vy,e]
theorem JS(k:κ):∀Z:List (κ×V),(Z.any λJ=>decide<|J.1=k)=(VC Z k).isSome
 |[]=>rfl
 |p::r=>by
  rw[jU]
  by_cases e:p.1=k
  .simp only[Vh e,decide_eq_true e,Bool.true_or,Option.isSome_some]
  .rw [Vn e,Zy e,Bool.false_or];exact JS k r
theorem Mz(k j:κ)(y:V):∀Z:List (κ×V),VC (Z.map λJ=>if J.1=k then(J.1,y)else J) j=(VC Z j).map λx=>if j=k then y else x
 |[]=>rfl
 |p::r=>by
  have ih:=Mz k j y r;rw[ZV]
  by_cases h:p.1=k
  .rw [Zp h]
   by_cases e:p.1=j
   .rw [Vh (p:=(p.1,y)) e,Vh e,qm,Zp (e.symm.trans h)]
   .rw [Vn (p:=(p.1,y)) e,Vn e,ih]
  .rw [Zq h]
   by_cases e:p.1=j
   .rw [Vh (p:=p) e,Vh e,qm,Zq (λz=>h<|e.trans z)]
   .rw [Vn (p:=p) e,Vn e,ih]
theorem Tv(k j:κ)(y:V):∀Z:List (κ×V),VC Z k=none->VC (Z++[(k,y)]) j=if j=k then some y else VC Z j
 |[],_=>by
  by_cases e:k=j
  .rw [Zp e.symm];exact Vh (p:=(k,y)) e
  .rw [Zq (λz=>e z.symm)];exact Vn (p:=(k,y)) e
 |p::r,hn=>by
  rw[List.cons_append];have J:¬p.1=k:=λz=>by rw[Vh z]at hn;cases hn
  rw[Vn J]at hn;have ih:=Tv k j y r hn
  by_cases e:p.1=j
  .rw [Vh e,Vh e,Zq (λz=>J<|e.trans z)]
  .rw [Vn e,Vn e,ih]
def Vx(Z:List (κ×V))(k j:κ)(y:V):VC (putK Z k y) j=if j=k then some y else VC Z j:=by
 unfold putK
 by_cases a:(Z.any λJ=>decide<|J.1=k)=true
 .rw [Zp a,Mz]
  rw[JS]at a
  by_cases e:j=k
  .obtain ⟨x,hx⟩:=j9.mp a
   rw[Zp e,e,hx,qm,Zp rfl]
  .rw [Zq e]
   cases VC Z j with
   |none=>rfl
   |some x=>rw[qm,Zq e]
 .rw [Zq a]
  refine Tv k j y Z ?_;rw[JS]at a
  cases q:VC Z k with
  |none=>rfl
  |some x=>rw[q]at a;exact(a rfl).elim
def VW(Z:List (κ×V))(k:κ)(v:V):(putK Z k v).length<=Z.length+1:=by
 unfold putK
 split
 .rw [ZA];omega
 .rw [ZL,Zf,qr];omega
def V8{Z:List (κ×V)}(v:V)(h:VC Z k=none):putK Z k v=Z++[(k,v)]:=by
 unfold putK;rw[JS,h];exact Zq<|by decide
def UX.isSome_eq(r:UX o u):o.isSome=u.isSome:=by
 cases o with
 |none=>cases u with
  |none=>rfl
  |some _=>exact(show False from r).elim
 |some _=>cases u with
  |none=>exact(show False from r).elim
  |some _=>rfl
def UX.getD(r:UX o u)(Z:RelV d d'):RelV (o.getD d) (u.getD d'):=by
 cases o with
 |none=>cases u with
  |none=>exact Z
  |some _=>exact(show False from r).elim
 |some _=>cases u with
  |none=>exact(show False from r).elim
  |some _=>exact r
def KV.val(r:KV J L)(k:κ):UX (VC J k) (valueAt L k):=by
 unfold KV at r
 induction r with
 |nil=>exact True.intro
 | @cons p q N Z h t ih=>
  obtain⟨G,M⟩:=h
  by_cases e:p.1=k
  .have e':q.1=k:=G.symm.trans e
   have b:valueAt (q::Z) k=some q.2:=by simp[valueAt,vy,e']
   rw[Vh e,b];exact M
  .have e':¬q.1=k:=λz=>e<|G.trans z
   have b:valueAt (q::Z) k=valueAt Z k:=by simp[valueAt,vy,e']
   rw[Vn e,b];exact ih
def KV.any(r:KV Z G)(k:κ):(Z.any λJ=>decide<|J.1=k)=G.any λJ=>decide (J.1=k):=by
 unfold KV at r
 induction r with
 |nil=>rfl
 |cons h t ih=>rw[jU,jU,ih,h.1]
def KV.repl(r:KV G L)(k:κ)(M:RelV y u):
  KV (G.map λZ=>if Z.1=k then(Z.1,y)else Z) (L.map λZ=>if Z.1=k then(Z.1,u)else Z):=by
 unfold KV at r |-
 induction r with
 |nil=>exact .nil
 | @cons p q R O h t ih=>
  rw[ZV,ZV];refine .cons ?_ ih;obtain⟨J,N⟩:=h
  by_cases e:p.1=k
  .rw [Zp e,Zp (J.symm.trans e)];exact⟨J,M⟩
  .rw [Zq e,Zq (λz=>e<|J.trans z)];exact⟨J,N⟩
def KV.put(r:KV Z J)(k:κ)(G:RelV y u):KV (putK Z k y) (stored J k u):=by
 unfold putK stored;rw[r.any k]
 by_cases e:(J.any λL=>decide<|L.1=k)=true
 .rw [Zp e,Zp e];exact r.repl k G
 .rw [Zq e,Zq e];exact Paired.snoc r ⟨Y,G⟩
def KV.keys{Z:List (κ×V)}(r:KV Z J):Z.map (·.1)=J.map (·.1):=by
 unfold KV at r
 induction r with
 |nil=>rfl
 |cons h t ih=>rw[ZV,ZV,ih,h.1]
def KV.length(r:KV Z J):Z.length=J.length:=Paired.length r
end
def XS(r:RelV (kV k) u):(Y9 P w).is k u=true:=by
 cases k with
 |inl i=>obtain⟨t,e⟩:=(show ∃t,u=Value.int i t from r);subst e;exact NO P w i t
 |inr x=>obtain⟨t,e⟩:=(show ∃t,u=Value.str x t from r);subst e;exact NN P w x t
theorem RD:∀{Z:List Key}{J:kB},Vals (Z.map kV) J->ItemsAre (Y9 P w) Z J
 |[],_,r=>by rw[jo]at r;cases r;exact .nil
 |k::Z,_,r=>by
  rw[ZV]at r
  cases r with
  |cons h t=>exact .cons (XS h)<|RD t
abbrev KT(H:Hp):List (List Key×V)->List (List Key×Addr×Value)->Prop:=Paired λp q=>p.1=q.1/\H q.2.1=some (.tup (p.1.map kV))/\RelV p.2 q.2.2
def KT.val(r:KT H J L)(k:List Key):UX (VC J k) ((atKey L k).map (·.2)):=by
 induction r with
 |nil=>exact True.intro
 | @cons p q N Z h t ih=>
  obtain⟨G,_,M⟩:=h
  by_cases e:p.1=k
  .have e':q.1=k:=G.symm.trans e
   have b:atKey (q::Z) k=some q.2:=by simp[atKey,vy,e']
   rw[Vh e,b];exact M
  .have e':¬q.1=k:=λz=>e<|G.trans z
   have b:atKey (q::Z) k=atKey Z k:=by simp[atKey,vy,e']
   rw[Vn e,b];exact ih
def KT.repl(r:KT H J M)(k:List Key)(N:RelV y u):
  KT H (J.map λG=>if G.1=k then(G.1,y)else G) (M.map<|putAt k u):=by
 induction r with
 |nil=>exact .nil
 | @cons p q T R h t ih=>
  rw[ZV,ZV];refine .cons ?_ ih;obtain⟨Z,L,O⟩:=h;unfold putAt
  by_cases e:p.1=k
  .rw [Zp e,Zp (Z.symm.trans e)];exact⟨Z,L,N⟩
  .rw [Zq e,Zq (λz=>e<|Z.trans z)];exact⟨Z,L,O⟩
def KT.put(r:KT H Z J)(k:List Key)(M:H b=some (.tup<|k.map kV))(G:RelV y u):
  KT H (putK Z k y) (storedH J k b u):=by
 have e:(Z.any λL=>decide<|L.1=k)=(atKey J k).isSome:=by
  rw[JS,(r.val k).isSome_eq,jM]
 unfold putK storedH;rw[e]
 by_cases q:(atKey J k).isSome=true
 .rw [Zp q,Zp q];exact r.repl k G
 .rw [Zq q,Zq q];exact Paired.snoc r ⟨Y,M,G⟩
def KT.keeps(r:KT H Z G)(L:∀b J,H b=some (.tup J)->M b=some (.tup J)):KT M Z G:=
 Paired.mapP r λ_ _ z=>⟨z.1,L _ _ z.2.1,z.2.2⟩
section
def Qd(Z:HOk P w H h)(e:Rd H a u):VO P w H h a u:=e.ok Z
def W0(G:HOk P w H h)(e:Rd H a (.dK Z)):Z.length<=sizeLine/\(a==sysModules)=false/\∃J,KV Z J/\h.DictOf (Y9 P w) a J:=
 show VO P w H h a (.dK Z)from Qd G e
def EX(G:HOk P w H h)(e:H a=some (.dK Z)):Z.length<=sizeLine/\(a==sysModules)=false/\∃J,KV Z J/\h.DictOf (Y9 P w) a J:=W0 G<|.inl e
def Wj(G:HOk P w H h)(e:H a=some (.tup<|J.map kV)):(tupleKind<|Y9 P w).is h J a:=by
 obtain⟨_,Z,r,o,N,_,M,n,L⟩:=(show VO P w H h a (.tup<|J.map kV)from G a _ e);exact⟨o,Z.toArray,n,N,M,L,by simpa using RD r⟩
def Tb(M:HOk P w H h)(e:Rd H a (.dT Z)):Z.length<=sizeLine/\(a==sysModules)=false/\
  ∃G,KT H Z G/\h.DictOfH (tupleKind<|Y9 P w) a G:=by
 obtain⟨z,y,G,r,o,E,F,D,B,T,R,O⟩:=(show VO P w H h a (.dT Z)from Qd M e);refine⟨z,y,G,r,o,E,F,D,B,T,R,λx J=>?_,O⟩
 have L:∀{l:List (List Key×V)}{m:List (List Key×Addr×Value)},KT H l m->∀x∈m,(tupleKind<|Y9 P w).is h x.1 x.2.1:=by
  intro l m q
  induction q with
  |nil=>intro x J;exact nomatch J
  | @cons p q I A N t ih=>
   intro x J;rcases Zd.mp J with e|J
   .subst e
    exact Wj M (by rw[<-N.1];exact N.2.1)
   .exact ih x J
 exact L r x J
def zd(G:HOk P w H h)(e:H a=some (.dT Z)):Z.length<=sizeLine/\(a==sysModules)=false/\
  ∃J,KT H Z J/\h.DictOfH (tupleKind<|Y9 P w) a J:=Tb G<|.inl e
end
def Vd(H:Hp)(a:Addr)(y:V)(r:kP):Prop:=
 (∃Z k,Rd H a (.dK Z)/\y=kV k/\r=VC Z k) \/ ∃Z k b,Rd H a (.dT Z)/\y=.ref b/\H b=some (.tup<|k.map kV)/\r=VC Z k
def Je(H:Hp)(a:Addr)(y v:V)(H':Hp):Prop:=
 (∃Z k,H a=some (.dK Z)/\y=kV k/\Z.length<sizeLine/\H'=upd H a (.dK<|putK Z k v)) \/
 ∃Z k b,H a=some (.dT Z)/\y=.ref b/\H b=some (.tup<|k.map kV)/\Z.length<sizeLine/\H'=upd H a (.dT<|putK Z k v)
def Vd.k{k:Key}(e:H a=some (.dK Z)):Vd H a (kV k) (VC Z k):=.inl ⟨Z,k,.inl e,rfl,rfl⟩
def Vd.t{k:List Key}(e:H a=some (.dT Z))(J:H b=some (.tup<|k.map kV)):Vd H a (.ref b) (VC Z k):=.inr ⟨Z,k,b,.inl e,rfl,J,rfl⟩
def Je.k{k:Key}(e:H a=some (.dK Z))(J:Z.length<sizeLine):Je H a (kV k) v (upd H a<|.dK<|putK Z k v):=.inl ⟨Z,k,e,rfl,J,rfl⟩
def Je.t{k:List Key}(e:H a=some (.dT Z))(G:H b=some (.tup<|k.map kV))(J:Z.length<sizeLine):
  Je H a (.ref b) v (upd H a<|.dT<|putK Z k v):=.inr ⟨Z,k,b,e,rfl,G,J,rfl⟩
section
def Inv.big(I:Inv X Z U H s):sysModules<s.heap.objs.size:=by
 have h:mainGlobals<s.heap.objs.size:=(I.mod.glob.keeps I.bk).lt;exact qS (by decide) h
def FL(C:A.units+1<cLine)(I:Inv X L U H s)(g:Vd H a y (some v))(D:RelV y u)(h:∀G B,Inv X L U H B->RelV v G->Q G B):
  wpAny (model X.prog X.w) A (getItem (.ref a) u) Q E s:=by
 rcases g with⟨M,k,e,R,l⟩|⟨M,k,b,e,R,j,l⟩
 .subst R
  obtain⟨z,hd,S,J,T⟩:=W0 I.hok e;obtain⟨G,N,Z⟩:=UX.some_of (v:=v) (o:=valueAt S k) (by rw[l];exact J.val k);exact wpAny_getItem_of (XS D) T.mapOf N<|h G _ (I.tok _) Z
 .subst R
  cases(show u=Value.ref b from D);obtain⟨z,hd,F,J,T⟩:=Tb I.hok e;obtain⟨G,N,Z⟩:=UX.some_of (v:=v) (o:=(atKey F k).map (·.2)) (by rw[l];exact J.val k);obtain⟨p,P,O⟩:=Zj.mp N;refine wpAny_getItem_heap (jQ C) (Wj I.hok j) T P ?_;rw[O];exact h G _ (I.tok _) Z
def vL(R:A.units+1<cLine)(I:Inv X J U H s)(g:Vd H a y o)(O:RelV y u)(h:∀N,Inv X J U H N->Q (.bool o.isSome) N):
  wpAny (model X.prog X.w) A (compareOp .In u<|.ref a) Q E s:=by
 rcases g with⟨G,k,e,L,l⟩|⟨G,k,b,e,L,T,l⟩
 .subst L
  obtain⟨z,hd,D,Z,M⟩:=W0 I.hok e;refine wpAny_in_of (XS O) hd M.mapOf ?_;rw[<-(Z.val k).isSome_eq,<-l];exact h _<|I.tok _
 .subst L
  cases(show u=Value.ref b from O);obtain⟨z,hd,B,Z,M⟩:=Tb I.hok e;refine wpAny_in_heap (jQ R) (Wj I.hok T) hd M ?_;have q:=(Z.val k).isSome_eq;rw[jM]at q;rw[<-q,<-l];exact h _<|I.tok _
def QF(R:A.units+1<cLine)(I:Inv X J U H s)(g:Vd H a y o)(O:RelV y u)(h:∀N,Inv X J U H N->Q (.bool<|!o.isSome) N):
  wpAny (model X.prog X.w) A (compareOp .NotIn u<|.ref a) Q E s:=by
 rcases g with⟨G,k,e,L,l⟩|⟨G,k,b,e,L,T,l⟩
 .subst L
  obtain⟨z,hd,D,Z,M⟩:=W0 I.hok e;refine wpAny_notIn_of (XS O) hd M.mapOf ?_;rw[<-(Z.val k).isSome_eq,<-l];exact h _<|I.tok _
 .subst L
  cases(show u=Value.ref b from O);obtain⟨z,hd,B,Z,M⟩:=Tb I.hok e;refine wpAny_notIn_heap (jQ R) (Wj I.hok T) hd M ?_;have q:=(Z.val k).isSome_eq;rw[jM]at q;rw[<-q,<-l];exact h _<|I.tok _
def GY(I:Inv X Z U H s)(L:Mut (H a))(M:Heap.SameBut a s.heap G)(N:∃q,G.get? a=some q)(J:VO X.prog X.w (upd H a ob) G a ob):
  Inv X Z U (upd H a ob) {s with heap:=G,toks:=R}:=
 I.write (x:=a) (e:=a) L (.inl rfl) (λb q O z=>(M.2 b O).trans z) N J
def Wn(z:Z.length<=sizeLine)(hd:(a==sysModules)=false)(J:KV Z G)(M:L.DictOf (Y9 P w) a G):
  VO P w N L a (.dK Z):=⟨z,hd,G,J,M⟩
def FK(d:A.units+1<cLine)(I:Inv X L U H s)(g:Je H a y v H')(S:RelV y u)(C:RelV v r)(h:∀F,Inv X L U H' F->Q () F):
  wpAny (model X.prog X.w) A (setItem (.ref a) u r) Q E s:=by
 rcases g with⟨J,k,e,T,l,B⟩|⟨J,k,b,e,T,t,l,B⟩
 .subst T B
  obtain⟨z,hd,p,Z,D⟩:=EX I.hok e;have N:p.length<=sizeLine:=by rw[<-Z.length];exact z
  have R:(putK J k v).length<=sizeLine:=by have:=VW J k v;omega
  refine wpAny_setItem_pairs (hsz:=N) (XS S) D λP G O=>h _ ?_;have f:∃q,P.get? a=some q:=let⟨q,_,_,M,_⟩:=G;⟨q,M⟩
  exact GY I (by rw[e];exact True.intro) O f<|Wn R hd (Z.put k C) G
 .subst T B
  cases(show u=Value.ref b from S);obtain⟨z,hd,m,Z,D⟩:=zd I.hok e;have N:m.length<=sizeLine:=by rw[<-Paired.length Z];exact z
  have R:(putK J k v).length<=sizeLine:=by have:=VW J k v;omega
  refine wpAny_setItem_heap (hsz:=N) (jQ d) (Wj I.hok t) D λP G O=>h _ ?_;obtain⟨q,x,ep,M,n,i,o,_,w⟩:=G;refine GY I (by rw[e];exact True.intro) O ⟨q,M⟩ ⟨R,hd,_,(Z.put k t C).keeps λc ys j=>?_,q,x,ep,M,n,i,o,w⟩;rw[Yg (JQ j e λz=>nomatch z)];exact j
end
def QN(i:Expr):Prop:=∀Z J,subscripted i false Z J=operate [Z,J] (getItem Z J)
def Ro{T B:String}(F:typeLookup (.type T) "__getitem__"=pure (some<|.builtin B))(D:QN slice)(h:wpAny (model prog w) A (eval value env) (λo L=>wpAny (model prog w) A (eval slice env) (λi Z=>Z.TypeIs o T/\wpAny (model prog w) A (getItem o i) Q E Z) E L) E s):
  wpAny (model prog w) A (eval (.Subscript value slice pos) env) Q E s:=by
 refine Subscript_<|Zn h (λo L O=>Zn O (λi Z J=>?_) λ_ _ x=>x) λ_ _ x=>x;obtain⟨R,J⟩:=J;unfold subscriptTail;refine Zl ?_;rw[getitemInPython_of_ne R.not_modules];refine Zl<|jy R F ?_
 have M:wpAny (model prog w) A (subscripted slice false o i) (λr G=>wpAny (model prog w) A (letTemporaryGo value o r >>=λ_=>pure r) Q E G) E Z:=by
  rw[D o i];exact wpAny_operating (Zn J (λr G N=>Zl<|wpAny_letTemporaryGo<|Zm N) λ_ _ x=>x)
 first
  |exact Zm<|Zl M
  |exact Zl<|Zm<|Zl M
  |exact Zl M
def Nc(I:Inv X J U H s)(g:Vd H a y o):s.TypeIs (.ref a) "dict":=by
 rcases g with⟨Z,k,e,_,_⟩|⟨Z,k,b,e,_,_,_⟩
 .obtain ⟨_,_,vs,_,dd⟩:=W0 I.hok e
  exact dd.typeIs
 .obtain ⟨_,_,xs,_,dd⟩:=Tb I.hok e
  exact dd.typeIs
def QW(td ty:TE):TE:=λU H Q=>td U H λx J=>ty U J λy Z=>V7 x λa=>∃v,Vd Z a y (some v)/\Q v Z
def yM(ty td:TE):TE:=λU H Q=>ty U H λy J=>td U J λx Z=>V7 x λa=>∃o,Vd Z a y o/\Q (.bl o.isSome) Z
def OY(ty td:TE):TE:=λU H Q=>ty U H λy J=>td U J λx Z=>V7 x λa=>∃o,Vd Z a y o/\Q (.bl<|!o.isSome) Z
def CZ(td ty tv:TE):TS:=λD U H=>tv U H λv L=>td U L λx G=>ty U G λy J=>V7 x λa=>∃Z,Je J a y v Z/\D.nx U Z
section
def Vl(R:X.A.units+1<cLine)(B:PE X o td)(D:PE X i ty)(T:QN i):PE X (.Subscript o i pos) (QW td ty):=by
 intro Z s U H Q I h;refine Ro PySem.F.slot_dict_getitem.lookup T<|thn (B Z s U H _ I h) λu s1 ⟨x,C,A,N,O⟩=>thn (D Z s1 U C _ A O) λq z ⟨y,S,L,M,J⟩=>?_;replace J:=V7.old J;obtain⟨a,E,v,g,J⟩:=J;subst E;obtain rfl:u=Value.ref a:=N;exact⟨Nc L g,FL R L g M λP j F G=>⟨v,S,F,G,J⟩⟩
def Ux(O:X.A.units+1<cLine)(T:PE X i ty)(R:PE X o td):PC X .In i o (yM ty td):=by
 intro Z s U H Q I h;refine thn (T Z s U H _ I h) λj s1 ⟨y,S,F,G,M⟩=>thn (R Z s1 U S _ F M) λu P ⟨x,A,E,L,J⟩=>?_;replace J:=V7.old J;obtain⟨a,B,N,g,J⟩:=J;subst B;obtain rfl:u=Value.ref a:=L;exact vL O E g G λC D=>⟨.bl N.isSome,A,D,Y,J⟩
def WY(O:X.A.units+1<cLine)(T:PE X i ty)(R:PE X o td):PC X .NotIn i o (OY ty td):=by
 intro Z s U H Q I h;refine thn (T Z s U H _ I h) λj s1 ⟨y,S,F,G,M⟩=>thn (R Z s1 U S _ F M) λu P ⟨x,A,E,L,J⟩=>?_;replace J:=V7.old J;obtain⟨a,B,N,g,J⟩:=J;subst B;obtain rfl:u=Value.ref a:=L;exact QF O E g G λC D=>⟨.bl<|!N.isSome,A,D,rfl,J⟩
def Vf(B:X.A.units+1<cLine)(F:PE X o td)(A:PE X i ty)(T:PE X value tv)(E:swapsWith value (some<|.Subscript o i pos') pos.line X.env=pure false):
  PS X (.Assign [.Subscript o i pos'] value pos) (CZ td ty tv):=by
 intro Z s U H D I h;refine wpAny_Assign_Subscript (thn (T Z s U H _ I h) λr s1 ⟨v,t,j,N,R⟩=>thn (F Z s1 U t _ j R) λu G ⟨x,q,Q,M,O⟩=>thn (A Z G U q _ Q O) λp k ⟨y,c,P,L,J⟩=>?_) E;replace J:=V7.old J;obtain⟨a,S,z,g,J⟩:=J;subst S;obtain rfl:u=Value.ref a:=M;exact FK B P g L N λm C=>⟨U,z,C,J⟩
end
def Nb(h:Heap)(Z:sysModules<h.objs.size):VO P w H (h.push {cls:=.type "dict",data:=.dict #[]}) h.objs.size (.dK []):=
 ⟨Zc _,beq_eq_false_iff_ne.mpr<|Zs<|Ze Z,[],.nil,Heap.DictOf.new h⟩
def Lp(h:Heap)(Z:sysModules<h.objs.size):VO P w H (h.push {cls:=.type "dict",data:=.dict #[]}) h.objs.size (.dT []):=
 ⟨Zc _,beq_eq_false_iff_ne.mpr<|Zs<|Ze Z,[],.nil,_,#[],0,ZY _ rfl,⟨rfl,rfl,rfl⟩,rfl,rfl,jm⟩
def SQ:TE:=λ_ H Q=>∀p,H p=none->Q (.ref p) (upd H p<|.dK [])
def SO:TE:=λ_ H Q=>∀p,H p=none->Q (.ref p) (upd H p<|.dT [])
section
def Vz:PE X (.Dict [] [] pos) SQ:=λZ s U H Q I h=>
 wpAny_Dict_empty ⟨.ref s.heap.objs.size,_,I.laid (a:=s.heap.objs.size) (o:=.dK []) (t':=s.toks) (λ_ _ q=>ZE _ q) (ZG _)<|Nb s.heap I.big,rfl,h _<|I.hok.fresh<|ZG _⟩
def KF:PE X (.Dict [] [] pos) SO:=λZ s U H Q I h=>
 wpAny_Dict_empty ⟨.ref s.heap.objs.size,_,I.laid (a:=s.heap.objs.size) (o:=.dT []) (t':=s.toks) (λ_ _ q=>ZE _ q) (ZG _)<|Lp s.heap I.big,rfl,h _<|I.hok.fresh<|ZG _⟩
end
def N1:List (TE×TE)->St->Hp->(List (V×V)->Hp->Prop)->Prop
 |[],_,H,Q=>Q [] H
 |(tk,tv)::r,U,H,Q=>tk U H λx H1=>tv U H1 λy H2=>N1 r U H2 λps H3=>Q ((x,y)::ps) H3
abbrev VV:List (V×V)->List (Value×Value)->Prop:=Paired λp q=>RelV p.1 q.1/\RelV p.2 q.2
def PPs(X:Cx)(pos:Pos)(keys:List (Option Expr))(values:kW)(trs:List (TE×TE)):Prop:=
 ∀(Z:ky)(s:Shared)(U:St)(H:Hp)(Q:List (V×V)->Hp->Prop),Inv X Z U H s->N1 trs U H Q->
  wpAny (model X.prog X.w) X.A (evalPairs<|pairTrees keys values X.env pos) (λL M=>∃J G,Inv X Z U G M/\VV J L/\Q J G) X.xe s
def O7:PPs X pos [] [] []:=λZ s U H Q I h=>pairTrees_nil_walk ⟨[],H,I,.nil,h⟩
def KA(A:PE X k tk)(E:PE X v tv)(F:PPs X pos D G trs):
  PPs X pos (some k::D) (v::G) ((tk,tv)::trs):=λZ s U H Q I h=>
 pairTrees_cons_walk (thn (A Z s U H _ I h) λu s1 ⟨x,q,P,N,T⟩=>thn (E Z s1 U q _ P T) λm L ⟨y,z,C,M,R⟩=>
  thn (F Z L U z _ C R) λt g ⟨B,j,S,J,O⟩=>⟨(x,y)::B,j,S,.cons ⟨N,M⟩ J,O⟩)
def G7(kvs more:kJ):kJ:=more.foldl (λZ J=>putK Z J.1 J.2) kvs
def KV.merge:∀{more:kJ}{G:List (Key×Value)}{Z:kJ}{J:List (Key×Value)},KV more G->KV Z J->KV (G7 Z more) (merged J G):=by
 intro more G Z J r;unfold KV at r
 induction r generalizing Z J with
 |nil=>intro q;exact q
 | @cons p q N M h t ih=>
  intro L
  have e:KV (putK Z p.1 p.2) (stored J q.1 q.2):=by
   have:=L.put p.1 h.2;rw[<-h.1];exact this
  exact ih e
theorem XQ:∀(more Z:kJ),(G7 Z more).length<=Z.length+more.length
 |[],Z=>by show Z.length<=Z.length+0;omega
 |p::r,Z=>by
  have G:=XQ r<|putK Z p.1 p.2;have J:=VW Z p.1 p.2;show(G7 (putK Z p.1 p.2) r).length<=_;rw[Zf];omega
theorem Tf:∀{Z:kJ}{G:List (Value×Value)},VV (Z.map λL=>(kV L.1,L.2)) G->∃J,Carries (Y9 P w) G J/\KV Z J
 |[],_,r=>by rw[jo]at r;cases r;exact⟨[],True.intro,.nil⟩
 |p::Z,_,r=>by
  rw[ZV]at r
  cases r with
  | @cons a b R N h t=>
   obtain⟨J,c,q⟩:=Tf (P:=P) (w:=w) t;obtain⟨O,M⟩:=b;exact⟨(p.1,M)::J,⟨XS h.1,Y,c⟩,.cons ⟨Y,h.2⟩ q⟩
def CJ(trs:List (TE×TE)):TE:=λU H Q=>∀p,H p=none->N1 trs U (upd H p<|.dK []) λL G=>G p=some (.dK [])/\∃Z:kJ,L=Z.map (λJ=>(kV J.1,J.2))/\Z.length<=15/\Q (.ref p) (upd G p<|.dK<|G7 [] Z)
def PH(h:PPs X pos keys values trs)(G:keys.all (·.isSome)=true)(j:keys.length=values.length)(m:keys≠[])(N:keys.length<=15):PE X (.Dict keys values pos) (CJ trs):=by
 intro Z s U H Q I q;have C:=I.hok.fresh<|ZG s.heap.objs.size;have p:=I.laid (a:=s.heap.objs.size) (o:=.dK []) (h':=s.heap.push {cls:=.type "dict",data:=.dict #[]}) (t':=s.toks) (λ_ _ q=>ZE _ q) (ZG _)<|Nb s.heap I.big;refine wpAny_Dict_walk (knd:=Y9 X.prog X.w) G j m N<|thn (h Z _ U _ _ p<|q _ C) λd f ⟨u,r,O,M,e,J,g,v,E⟩=>?_;subst g;obtain⟨T,c,B⟩:=Tf (P:=X.prog) (w:=X.w) M;obtain⟨z,hd,R,D,k⟩:=EX O.hok e;cases D;refine⟨T,c,k,λh' L A=>⟨.ref s.heap.objs.size,_,?_,Y,E⟩⟩
 have F:(G7 [] J).length<=sizeLine:=by
  have t:=XQ J [];rw[qr]at t;rw[ql];omega
 have y:∃q,h'.get? s.heap.objs.size=some q:=let⟨q,_,_,S,_⟩:=L;⟨q,S⟩
 exact GY O (by rw[e];exact True.intro) A y<|Wn F hd (B.merge .nil) L
structure M1(X:Cx)(o:Expr)(m:Str)(apos:Pos)(e:Expr)(cpos:Pos):Prop where
 base:attributeBase o m X.env (eval o X.env)=eval o X.env
 few:((backTo cpos (starEach [e] X.env)).all (λx=>!x.1) && (backToKw cpos (keywordEach [] X.env)).all (λx=>x.1.isSome)
  && decide (([e]:List Expr).length+([]:List Keyword).length+(if([]:List Keyword).isEmpty then 0 else 1)<30))=true
 line:(apos.endLine==cpos.line)=true
 trees:backTo cpos (starEach [e] X.env)=[(false,eval e X.env)]
def IsD(H:Hp)(a:Addr):Prop:=(∃Z,Rd H a<|.dK Z) \/ ∃Z,Rd H a<|.dT Z
def Ad(I:Inv X M U H s)(d:IsD H a):
  s.TypeIs (.ref a) "dict" /\(∀b,Value.ref a=.ref b->∃Z,s.heap.get? b=some Z/\Z.dict=none)/\(a==sysModules)=false:=by
 rcases d with⟨J,e⟩|⟨J,e⟩
 .obtain ⟨_,hd,vs,_,dd⟩:=W0 I.hok e
  refine⟨dd.typeIs,λb q=>?_,hd⟩;cases q;obtain⟨Z,_,_,L,G,_⟩:=dd;exact⟨Z,L,G.2.1⟩
 .obtain ⟨_,hd,xs,_,dd⟩:=Tb I.hok e
  refine⟨dd.typeIs,λb q=>?_,hd⟩;cases q;obtain⟨Z,_,_,L,G,_⟩:=dd;exact⟨Z,L,G.2.1⟩
section
def Aq(B:A.units+1<cLine)(I:Inv X J U H s)(g:Vd H a y o)(R:RelV y u)(h:∀N O,Inv X J U H O->RelV (o.getD .non) N->Q N O):
  wpAny (model X.prog X.w) A (call (.builtin "dict.get") [.ref a,u]) Q E s:=by
 rcases g with⟨L,k,e,M,l⟩|⟨L,k,b,e,M,D,l⟩
 .subst M
  obtain⟨z,hd,F,Z,G⟩:=W0 I.hok e;refine call_meetsIn qv G.typeIs PySem.F.entry_dict_get (PySem.F.args_dict_get_2 _ _) (meets_dict_get (Y9 X.prog X.w) a (XS R) hd) ⟨_,G.mapOf,h _ _ (I.tok _) ?_⟩;rw[l];exact(Z.val k).getD rfl
 .subst M
  cases(show u=Value.ref b from R);obtain⟨z,hd,T,Z,G⟩:=Tb I.hok e;refine call_meetsIn qv G.typeIs PySem.F.entry_dict_get (PySem.F.args_dict_get_2 _ _) (meetsH_dict_get (tupleKind<|Y9 X.prog X.w) a b hd) ⟨jQ B,k,T,Wj I.hok D,G,h _ _ (I.tok _) ?_⟩;rw[l];exact(Z.val k).getD rfl
end
def SV(td ty:TE):TE:=λU H Q=>td U H λx J=>V7 x λa=>IsD J a/\ty U J λy Z=>∃o,Vd Z a y o/\Q (o.getD .non) Z
section
def G5(B:X.A.units+1<cLine)(D:PE X o td)(E:PE X e ty)(m:M1 X o "get" apos e cpos):PE X (.Call (.Attribute o "get" apos) [e] [] cpos) (SV td ty):=by
 intro Z s U H Q I h;refine wpAny_Call_method m.base m.few m.line PySem.F.plainAttrs_dict qv PySem.F.type_dict_get<|thn (D Z s U H _ I h) λu s1 ⟨x,P,L,R,J⟩=>?_;replace J:=V7.old J;obtain⟨a,F,d,J⟩:=J;subst F;obtain rfl:u=Value.ref a:=R;obtain⟨N,M,_⟩:=Ad L d;exists N,M;rw[m.trees];refine Calls.callWith_builtin Y (Calls.evalArgs_plain<|Calls.spliced_cons<|thn (E Z s1 U P _ L J) λk q ⟨y,C,S,O,t,g,T⟩=>Calls.spliced_nil ?_);exact Aq B S g O λj z A G=>⟨_,C,A,G,T⟩
end
end L2
namespace Att
open PySem PySem.W PySem.Calls PyProof.Rows
def W3:∀(Z:List Int)(J:List Value),WellAll P h J (Z.map WData.int)->IntsAre J Z:=by
 intro Z
 induction Z with
 |nil=>
  intro J w;rw[jo]at w;cases w;exact .nil
 |cons n Z ih=>
  intro J w;rw[ZV]at w
  cases w with
  |cons a b=>
   cases a;exact .cons _ _<|ih _ b
def Et{l:OpenLaw}(I:l.most=some n)(J:l.row.toRowW.claim.pre args=true)(O:WellAll P h vals args):
  ∃a T Z,vals=[Value.ref a]/\args=[WData.list (Z.map WData.int)]/\h.get? a=some {cls:=.type "list",data:=.seq T.toArray}/\IntsAre T Z/\Z.length<=n:=by
 have R:WShape.hasAll [] args [.list .int]=true:=(pre_splitW J).1;have B:l.pre.holds [] {args:=args}=true:=(pre_splitW J).2;obtain⟨d,r,rfl,C,U⟩:=hasAllW_cons R;obtain rfl:=hasAllW_nil U;obtain⟨X,rfl,S⟩:=hasW_list C;obtain⟨Z,rfl⟩:=items_int S
 have G:Z.length<=n:=by
  unfold OpenLaw.pre at B
  have N:(WTm.not<|.lt (.lit<|.int (n:Int))<|.len<|.arg 0).holds [] {args:=[.list (Z.map .int)]}=true:=by
   have N:=(holds_andW B).1;rw[I]at N;exact N
  have M:=condW_of N<|w_not<|w_lt w_lit<|w_len_list<|w_arg rfl;rw[ZA]at M;refine jR λq=>?_;have F:(n:Int)<((Z.length:Nat):Int):=by omega
  first
   |(rw[decide_eq_true F]at M;exact Zr M<|by decide)
   |(simp at M;omega)
 cases O with
 |cons E D=>
  cases D
  cases E with
  |list A L=>exact⟨_,_,Z,Y,Y,A,W3 Z _ L,G⟩
def E2(l:OpenLaw)(args:List WData):l.row.toRowW.claim.post args (.bool true) args=true:=
 postW_of (r:=l.row.toRowW) (X:=(true==true))
  (show WShape.has [] (.bool true) .bool=true by first|rfl|decide|simp[WShape.has,WShape.arms,WShape.armsAll])
  (show(WTm.eq .res<|.lit<|.bool true).value [] {args:=args,res:=some<|.bool true,after:=args}=some (.bool<|true==true)from w_eq_bool (w_res rfl) w_lit) rfl
theorem attach_call{l:OpenLaw}(g:l.most=some n)(X:d.params.defaults=[])(call:∀(w:World)(J Z:Shared)(F S:Str->Option Value)(B:Addr)(o:Obj)(I A M:Value)(a:Addr)(N:List Value)(E:List Int),
   Ground q loose [] XP w J F S Z.heap->YP w Z.heap->
   Z.heap.get? B=some o->o.data=.func (docDef d.name d.params d.body d.scope I A M)->Z.heap.CodeRec A d.name->F d.name=some (.ref B)->
   Z.heap.get? a=some {cls:=.type "list",data:=.seq N.toArray}->IntsAre N E->E.length<=n->Z.gens= #[]->
   codeAny (model l.prog w) callerA (.call (.ref B) ⟨[.ref a],[]⟩) (λr D=>r=.ok (.ret<|.bool true)/\OldK Z.heap D.heap/\D.os=Z.os/\AllBare D.gens) Z):
  WalkO q loose XP YP l.row.toRowW d [] (λf N=>PySem.call f N):=by
 intro w J Z F S G Y B o I A M e kV m hd P y C c args Q i O j z U p;obtain rfl:e=.none:=Dflts.none y X;obtain rfl:kV=.none:=Dflts.noKw y;obtain⟨a,N,E,rfl,rfl,R,L,T⟩:=Et g O U;refine enter_call<|qG (call w J Z F S B o I A M a N E G Y m (fd_plain hd) P C R L T c) λr D t=>?_;obtain⟨rfl,b,v,u⟩:=t;exact⟨.inl ⟨.bool true,.bool true,[],rfl,λ_=>rfl,.bool true,E2 l _,λ_=>⟨List.Pairwise.nil,λ_ k=>(nomatch k)⟩⟩,b,v,u⟩
end Att
namespace L2
open PySem PySem.Spec PyProof.Rows
theorem Tu:∀{Z:kB}{J:kE},IntsAre Z J->Vals (J.map V.int) Z
 |_,_,.nil=>.nil
 |_,_,.cons n t h=>.cons ⟨t,rfl⟩<|Tu h
def Ax(H:Hp):Prop:=∀b,H b=none \/ ∃o Z,H b=some (.frz o<|.lst Z)
def LD{K:W.Frag}(KX:K.In s₁.heap)(D:s₁.heap.Ns mainGlobals C)(J:s₁.heap.Ns builtinsNs mb)(y:∀x:Str,x≠"__name__" ->mb x=bootBuiltins x)(E:s₁.heap.NoLimit)(hg:s₁.gens= #[])(X:s₁.heap.get? a=some {cls:=.type "list",data:=.seq N.toArray})(l:IntsAre N U)(f:U.length<=sizeLine)(hr:Vr k callerA)(F:∀base:Heap,K.In base->base.Ns mainGlobals C->Ye P w K C base CX k fa fd [x] sp)(M:∀(s:Shared)(u:Value),BindsTo s fd ⟨[u],[]⟩ [(x,u)])(j:∀H:Hp,Ax H->SqL K H a (U.map V.int)->sp [.ref a] H (λv _=>v=.bl true) λ_ _ _=>False)(t:∀H e G,CX [] H s₁ (λ_ _ _=>False) e G->False):
  codeAny (model P w) callerA (.call (.ref fa) ⟨[.ref a],[]⟩) (λr G=>r=.ok (.ret<|.bool true)/\OldK s₁.heap G.heap/\G.os=s₁.os/\AllBare G.gens) s₁:=by
 have c:=Tu l;have R:=l.length;have core:∀H:Hp,Ax H->SqL K H a (U.map V.int)->HOk P w H s₁.heap->(∀b,H b≠none->b=a)->(H a≠none->K.lookup a=none)->
   codeAny (model P w) callerA (.call (.ref fa) ⟨[.ref a],[]⟩) (λr G=>r=.ok (.ret<|.bool true)/\OldK s₁.heap G.heap/\G.os=s₁.os/\AllBare G.gens) s₁:=by
  intro H i hS B hA hK;have Z:∀{b:Addr}{o:Obj},s₁.heap.get? b=some o->H b=none->(Mf s₁.heap H).get? b=some o:=λe n=>LN e n
  have Q:∀{b:Addr}{o:Obj}{I:Array DictEntry}{S:Nat},s₁.heap.get? b=some o->o.data=.dict I S->H b=none:=λ{b o I S} e d=>by
   cases q:H b with
   |none=>rfl
   |some u=>
    have g:b=a:=hA b (by rw[q];simp);subst g;rw[X]at e;cases e;have d':Data.seq N.toArray _=Data.dict I S:=d;cases d'
  have L:∀{b:Addr}{m:Str->Option Value},s₁.heap.Ns b m->(Mf s₁.heap H).Ns b m:=λ{b m} ⟨o,I,S,e,d,r⟩=>⟨o,I,S,Z e<|Q e d,d,r⟩
  have A:K.In (Mf s₁.heap H):=λb o e=>Z (KX b o e) (by
   cases q:H b with
   |none=>rfl
   |some u=>
    have g:b=a:=hA b (by rw[q];simp);subst g;rw[hK (by rw[q];simp)]at e;cases e)
  have hM:Mod K C (Mf s₁.heap H):=⟨A,L D,⟨mb,L J,y⟩,let⟨mc,h1,h2⟩:=E;⟨mc,L h1,h2⟩⟩;have e0:De P w K C (Mf s₁.heap H) callerA [] s₁ H:=⟨rfl,hM,λb o e=>Ph e,qg<|FE _ _,trivial,λb J=>Zr (show b∈([]:kF)from J) (by simp),B,.of_eq hg⟩;refine qG ((F _ A<|L D).run callerA [] s₁ H ⟨[.ref a],[]⟩ [.ref a] [.ref a] _ _ hr e0 (M s₁<|.ref a) (.cons rfl .nil)<|j H i hS) λr G h=>?_
  cases r with
  |error e=>exact(t H e G h).elim
  |ok fl=>
   cases fl with
   |next=>exact False.elim h
   |brk=>exact False.elim h
   |cont=>exact False.elim h
   |ret u=>
    obtain⟨v,H',os,bare,p,T,r',q⟩:=h;have q':v=.bl true:=q;subst q';obtain rfl:u=Value.bool true:=r';refine⟨Y,OldK.of_keep λb o e=>?_,os,bare⟩
    cases q:H b with
    |none=>exact p.keep b o e q (by intro z;exact Zr (show b∈([]:kF)from z)<|by simp)<|by simp
    |some u=>
     rcases i b with z|⟨ob,xs,z⟩
     .rw [q]at z;cases z
     .have z2:=p.frzs b ob _ z
      obtain⟨e1,_⟩:=B b _ z;obtain⟨e2,_⟩:=T b _ z2;rw[e]at e1;cases e1;exact e2
 cases hk:K.lookup a with
 |some o=>
  have e:=KX a o hk;rw[X]at e;cases e;refine core (λ_=>none) (λ_=>.inl Y) (.inr ⟨_,N.toArray,_,hk,Y,Y,Y,by rw[ZO,R];exact f,by simpa using c⟩) (λb u z=>by have O:(none:Option HO)=some u:=z;cases O) (λb z=>Zr Y z) λz=>Zr Y z
 |none=>
  refine core (λb=>if b=a then some (.frz {cls:=.type "list",data:=.seq N.toArray}<|.lst<|U.map V.int)else none) (λb=>?_) (.inl<|.inr ⟨{cls:=.type "list",data:=.seq N.toArray},Zp rfl⟩) (λb u z=>?_) (λb z=>?_) λ_=>hk
  .by_cases J:b=a
   .exact .inr ⟨_,_,Zp J⟩
   .exact .inl (Zq J)
  .by_cases J:b=a
   .have O:=(Zp J).symm.trans z
    cases O;subst J;exact⟨X,by rw[ZA];exact f,N,_,c,X⟩
   .have O:=(Zq J).symm.trans z
    cases O
  .by_cases J:b=a
   .exact J
   .exact Zr (Zq J) z
theorem walk_of{l:W.OpenLaw}{K:Params->W.Frag}{CX:World->CXT}{sp:World->Sp}(Q:l.most=some n)(D:n<=sizeLine)(A:d.params.defaults=[])(P:Vr k callerA)(t:∀(w:World)(h:Heap),YP w h->(K w.params).In h)(F:∀(w:World)(L:Str->Option Value)(R:Addr)(h:Heap),(K w.params).In h->h.Ns mainGlobals L->L d.name=some (.ref R)->
   ∃S:FuncData,(∀(s:Shared)(u:Value),BindsTo s S ⟨[u],[]⟩ [(x,u)])/\
    ∀base:Heap,(K w.params).In base->base.Ns mainGlobals L->Ye l.prog w (K w.params) L base (CX w) k R S [x] (sp w))(B:∀(w:World)(H:Hp)(a:Addr)(O:kE),O.length<=n->Ax H->SqL (K w.params) H a (O.map V.int)->sp w [.ref a] H (λv _=>v=.bl true) λ_ _ _=>False)(I:∀(w:World)(H:Hp)(s:Shared)(e:Value)(T:Shared),CX w [] H s (λ_ _ _=>False) e T->False):
  W.WalkO q loose XP YP l.row.toRowW d [] (λf U=>PySem.call f U):=by
 refine Att.attach_call Q A λw C M L b R o r cd c a U O G Y i hd y E N J Z j=>?_;have X:=t w _ Y;obtain⟨S,z,p⟩:=F w L R _ X G.T.g E;exact LD X G.T.g G.T.b G.T.builtins G.T.nolimit j N J (Zb Z D) P p z (λH g m=>B w H a O Z g m) λH e T=>I w H M e T
def inClass(s:Stmt)(j:Nat):Stmt:=match s with
 |.ClassDef _ _ _ body _ _ _ _ _ _ _=>body.getD j<|.Pass ⟨0,0,0,0⟩
 |_=>.Pass ⟨0,0,0,0⟩
def JH(s:Stmt):Arguments:=match s with
 |.FunctionDef _ a _ _ _ _ _ _ _ _=>a
 |_=>{posonlyargs:=[],args:=[],vararg:=none,kwonlyargs:=[],kw_defaults:=[],kwarg:=none,defaults:=[]}
def Vp(s:Stmt):List Stmt:=match s with
 |.FunctionDef _ _ b _ _ _ _ _ _ _=>b
 |_=>[]
def Yd(s:Stmt):Scope:=match s with
 |.FunctionDef _ _ _ _ _ _ sc _ _ _=>sc
 |_=>{kind:=.function,names:=[],isGenerator:=false,isCoroutine:=false}
abbrev CX0:CXT:=λ_ _ _ _ _ _=>False
abbrev E0:XK:=λ_ _ _=>False
def Y3:Uk CX0 X E0:=λ_ _ _ _ _ _ _ h=>h.elim
structure Fun(K:W.Frag)(x qual:Str)(st:Stmt)(f:Addr)(fd:FuncData):Prop where
 ex:∃(oc:Value)(od:Option Addr)(kV doc pm:Value)(an:Option Addr)(cdv ct:Value)(osl:Array (Option Value)),
  fd=W.fnOf x qual (JH st) (Vp st) (Yd st) .none kV doc pm an cdv ct/\K.lookup f=some ⟨oc,od,.func fd,osl⟩/\W.codeIn K cdv qual=true
 kp:W.keepIn K (.ref f)=true
section
variable{K:W.Frag}
def Fun.ok{st:Stmt}(F:Fun K x qual st f X)(S:Yh N B (Yd st))(M:∀G H Q E,T G H Q E->G.length=B.length)(L:∀(J:Value)(A:Around)(Z:List Env)(s:Shared)(H:Hp)(G:kL)(Q:VK)(E:XK),Vr k (A.deeper<|envOfC qual (Yd st) s.heap.objs.size f J)->T G H Q E->
   ∃t,PSs (VY CX0 P w K I base N qual (Yd st) f J A Z s H E).nox (Vp st) t/\t {nx:=λ_ y=>Q .non y,rt:=Q} (start N G) H):Ye P w K I base CX0 (k+1) f X B T:=by
 obtain⟨g,m,kV,j,z,c,J,p,D,rfl,U,R⟩:=F.ex;refine Q0 U R S M λA Z s H G Q E C O=>?_;obtain⟨t,h,q⟩:=L J A Z s H G Q E C O;exact⟨t,h.nox,q⟩
def Fun.oq{st:Stmt}(F:Fun K x qual st f B)(S:Yh N R (Yd st))(J:∀(L:Value)(A:Around)(Z:List Env)(s:Shared)(H:Hp)(G:kL)(Q:VK)(E:XK),Vr k (A.deeper<|envOfC qual (Yd st) s.heap.objs.size f L)->O G H Q E->
   ∃t,PSs (VY CX0 P w K T base N qual (Yd st) f L A Z s H E).nox (Vp st) t/\t {nx:=λ_ D=>Q .non D,rt:=Q} (start N G) H)(M:∀G H Q E,O G H Q E->G.length=R.length:=by intro G H Q E h;repeat (obtain⟨e,h⟩:=h;first|(subst e;exact Y)|skip)):Ye P w K T base CX0 (k+1) f B R O:=F.ok S M J
def Fun.binds{st:Stmt}(F:Fun K x qual st f B)(h:∀(kV Z L:Value)(N:kH)(J M:Value)(G:kB),G.length=O.length->bindArgs (W.fnOf x qual (JH st) (Vp st) (Yd st) .none kV Z L N J M) ⟨G,[]⟩=pure (O.zip G)):Binds K B O []:=by
 obtain⟨E,D,kV,Z,L,N,J,M,R,rfl,A,T⟩:=F.ex;exact .all<|h kV Z L N J M
def Lg{st:Stmt}{kV J G Z L:Value}(l:K.lookup f=some ⟨oc,od,.func<|W.fnOf x qual (JH st) (Vp st) (Yd st) .none kV J G an Z L,osl⟩)(c:W.codeIn K Z qual=true)(k:W.keepIn K (.ref f)=true):Fun K x qual st f (W.fnOf x qual (JH st) (Vp st) (Yd st) .none kV J G an Z L):=⟨⟨oc,od,kV,J,G,an,Z,L,osl,rfl,l,c⟩,k⟩
end
def JA(Z:Vr k A):A.units+1<cLine:=j3 (Nat.add_le_add_left (by decide:1<=64) _) Z.units
def Yu(h:n<=1000):n<sizeLine:=j3 h<|by decide
section
def pv(i:Nat)(G:X.N[i]?=some x:=by rfl)(J:Vis X.env.scope x:=by first|exact Or.inl Y|exact Or.inr (Or.inl Y)|exact Or.inr<|Or.inr rfl)(hd:(x==("__debug__":Str))=false:=by decide)(Z:(x==("__classdict__":Str))=false:=by decide):PE X (.Name x pos) (N0 i):=AA G J hd Z
end
def Ac{c A B:Prop}[Decidable c](J:c->A)(Z:¬c->B):if c then A else B:=by
 by_cases h:c
 .rw [Zp h]
  exact J h
 .rw [Zq h]
  exact Z h
def Same(H H':Hp):Prop:=∀b o,H b=some o->H' b=some o
def Same.refl(H:Hp):Same H H:=λ_ _ h=>h
abbrev Z8:=@Same.refl
def Same.trans(a:Same H J)(b:Same J Z):Same H Z:=λc o h=>b c o<|a c o h
def Same.free(e:Same H Z)(h:Z l=Option.none):H l=Option.none:=by
 cases q:H l with
 |none=>rfl
 |some o=>
  rw[e l o q]at h;cases h
def Same.seq{K:W.Frag}(e:Same H J)(h:SqL K H a Z):SqL K J a Z:=by
 rcases h with(h|⟨o,h⟩)|h
 .exact .inl (.inl<|e _ _ h)
 .exact .inl (.inr ⟨o,e _ _ h⟩)
 .exact .inr h
end L2
namespace PySem.W
open PySem PyProof.Rows
end PySem.W
namespace L2
open PySem PySem.Spec PyProof.Rows
def DQ(O:List (Str×NameKind)):∀(Z:List (Str×Addr)),(∀x∈O,x.2=.free->∃c,env.cells.lookup x.1=some c)->
  ∃L,(forIn O Z (λ(x:Str×NameKind)(r:List (Str×Addr))=>(if(x.2==NameKind.free)=true then do let c <-cellOf env x.1;pure (ForInStep.yield ((x.1,c)::r))else pure (ForInStep.yield r):Sem (ForInStep<|List<|Str×Addr)))=pure L)/\
   (∀x c,L.lookup x=some c->env.cells.lookup x=some c\/Z.lookup x=some c)/\(∀x,(x,NameKind.free)∈O->∃c,L.lookup x=some c)/\(∀x c,Z.lookup x=some c->∃N,L.lookup x=some N):=by
 induction O with
 |nil=>intro Z _;exact⟨Z,Y,λx c h=>.inr h,λx h=>(nomatch h),λx c h=>⟨c,h⟩⟩
 |cons y r ih=>
  intro Z h;obtain⟨n,k⟩:=y
  by_cases hk:k=.free
  .subst hk
   obtain⟨c,D⟩:=h (n,.free) Za rfl;obtain⟨L,B,T,R,M⟩:=ih ((n,c)::Z) λx J=>h x<|ZM _ J;refine⟨L,?_,λx N J=>?_,λx J=>?_,λx N J=>?_⟩
   .rw [<-B]
    simp only[jG,beq_self_eq_true,if_true,cellOf,D]
    rfl
   .rcases T x N J with q|q
    .exact .inl q
    .rw [vi]at q
     cases G:x==n with
     |true=>
      rw[G]at q;have:x=n:=by simpa using G
      subst this;cases q;exact .inl D
     |false=>rw[G]at q;exact .inr q
   .rcases Zd.mp J with q|q
    .cases q
     exact M n c<|by simp[vi]
    .exact R x q
   .cases G:x==n with
    |true=>exact M x c<|by simp[vi,G]
    |false=>exact M x N<|by simp[vi,G,J]
  .obtain ⟨L,B,T,R,M⟩:=ih Z λx J=>h x<|ZM _ J
   have G:(k==NameKind.free)=false:=by simpa using hk
   refine⟨L,?_,T,λx J=>?_,M⟩
   .rw [<-B]
    simp only[jG,G,jc,if_false]
    rfl
   .rcases Zd.mp J with q|q
    .cases q;exact Zr Y hk
    .exact R x q
def DL(h:∀x∈scope.names,x.2=.free->∃c,env.cells.lookup x.1=some c):
  ∃Z,closureFor scope env=pure Z/\(∀x c,Z.lookup x=some c->env.cells.lookup x=some c)/\(∀x,(x,NameKind.free)∈scope.names->∃c,Z.lookup x=some c):=by
 obtain⟨Z,M,L,G,_⟩:=DQ scope.names [] h;refine⟨Z,?_,λx c J=>(L x c J).resolve_right (by simp),G⟩;rw[<-bind_pure (pure Z:Sem (List<|Str×Addr)),<-M]
 rfl
theorem Xq{scope:Scope}{Z:Env}{x:Str}:∀{names:List (Str×NameKind)},(names.map λ(n,k)=>if(k==NameKind.free && Z.scope.kind==.function && Z.kindOf n==some .cell)then(n,NameKind.cell)else(n,k)).lookup x=some .cell \/
  (names.map λ(n,k)=>if(k==NameKind.free && Z.scope.kind==.function && Z.kindOf n==some .cell)then(n,NameKind.cell)else(n,k)).lookup x=some .free->(∀y∈names,y.2≠.cell)->(x,NameKind.free)∈names
 |[],h,_=>by simp at h
 |(n,k)::r,h,hc=>by
  have ih:= @Xq scope Z x r;rw[ZV]at h
  have G:∀M:NameKind,(∀J,((n,M)::(r.map λ(n,k)=>if(k==NameKind.free && Z.scope.kind==.function && Z.kindOf n==some .cell)then(n,NameKind.cell)else(n,k))).lookup x=some J->(x=n/\M=J)\/(r.map λ(n,k)=>if(k==NameKind.free && Z.scope.kind==.function && Z.kindOf n==some .cell)then(n,NameKind.cell)else(n,k)).lookup x=some J):=λM J q=>by
   rw[vi]at q
   cases hb:x==n with
   |true=>rw[hb]at q;exact .inl ⟨by simpa using hb,ZT q⟩
   |false=>rw[hb]at q;exact .inr q
  dsimp only at h
  split at h
  .rename_i hk
   have O:k=.free:=by
    cases k <;> simp at hk
    rfl
   subst O;rcases h with h|h
   .rcases G _ _ h with⟨e,_⟩|q
    .subst e;exact Za
    .exact ZM _ (ih (.inl q) λy L=>hc y<|ZM _ L)
   .rcases G _ _ h with⟨e,_⟩|q
    .subst e;exact Za
    .exact ZM _ (ih (.inr q) λy L=>hc y<|ZM _ L)
  .rcases h with h|h
   .rcases G _ _ h with⟨e,N⟩|q
    .exact Zr N (hc (n,k) Za)
    .exact ZM _ (ih (.inl q) λy L=>hc y<|ZM _ L)
   .rcases G _ _ h with⟨e,N⟩|q
    .subst e;subst N;exact Za
    .exact ZM _ (ih (.inr q) λy L=>hc y<|ZM _ L)
def Nf(I:Nat->Shared->Prop)(turn:∀n s,I n s->wpAny (model prog w) A (pyNext G) (λr s1=>match r with
   |none=>R (.ok .next) s1
   |some v=>wpAny (model prog w) A (letOwnedTupleGo target G v) (λ_ J=>wpAny (model prog w) A (assign target env v) (λ_ O=>wpAny (model prog w) A (eval elt env) (λx N=>
     wpAny (model prog w) A (call (.builtin "list.append") [acc,x]) (λ_ M=>∃m,m<n/\I m M) (λ_ _=>False) N)
     (λ_ _=>False) O) (λ_ _=>False) J) (λ_ _=>False) s1) (λ_ _=>False) s)(n:Nat)(h:I n s):codeAny (model prog w) A
   (.compLoop (.ListComp elt [⟨target,iter,[],0⟩] scope pos) 0 G acc env) R s:=by
 refine codeAny_loop Y I (λn s B=>wpAny_noted (m:=compTurn (.ListComp elt [⟨target,iter,[],0⟩] scope pos) 0 G acc env) ?_) n h;rw[compTurn_list1];refine Zl<|jn<|Zl<|Zn (turn n s B) (λr s1 T=>?_) λ_ _ Z=>Z.elim
 cases r with
 |none=>exact Zm T
 |some v=>
  exact Zl (Zn T (λ_ J L=>Zl (Zn L (λ_ O F=>Zl (Zl (Zn F (λx N E=>Zl (Zn E
   (λ_ M D=>Zm<|Zm ⟨rfl,D⟩) λ_ _ Z=>Z.elim)) λ_ _ Z=>Z.elim))) λ_ _ Z=>Z.elim)) λ_ _ Z=>Z.elim)
theorem Wx{Z:Env}{x:Str}:∀{names:List (Str×NameKind)},names.lookup x=some .free->
  (names.map λ(n,k)=>if(k==NameKind.free && Z.scope.kind==.function && Z.kindOf n==some .cell)then(n,NameKind.cell)else(n,k)).lookup x≠some .local
 |[],h=>by simp at h
 |(n,k)::r,h=>by
  have ih:= @Wx Z x r;rw[ZV];dsimp only[rI0,rI,UT];rw[vi]at h
  cases hb:x==n with
  |true=>
   rw[hb]at h;have J:k=.free:=ZT h;subst J
   split <;> simp[vi,hb]
  |false=>
   rw[hb]at h
   split <;> (simp only[vi,hb];exact ih h)
def VX(X:Cx)(N':kC)(scope:Scope)(cl:List (Str×Addr))(C:Addr)(fp:kF)(s:Shared)(H:Hp):Cx:=
 {X with N:=N',s₀:=s,H₀:=H,env:=compEnvC scope cl C X.env,outer:=X.stack,stack:=X.stack,ex:=fp,fn:=λ_=>false,pn:=[],xe:=λ_ _=>False}
def Vs(X:Cx)(own:kC)(ix:List Nat):kC:=own++ ix.map λj=>X.N.getD j ("":Str)
def JB(k:Nat)(ix:List Nat)(U:St):St:=List.replicate k none++ ix.map λj=>U.getD j none
def GK(k:Nat)(g:TG):Prop:=∀x U H Q,g x U H Q->g x U H fun σ2 Z=>Q σ2 Z/\σ2.length=U.length/\σ2.drop k=U.drop k
def Vm(h:i<k):GK k (Vo i):=λx U H Q q=>⟨q,by simp,by rw[List.drop_set,Zp h]⟩
def GKs(k:Nat)(g:TGs):Prop:=∀x U H Q,g x U H Q->g x U H fun σ2 Z=>Q σ2 Z/\σ2.length=U.length/\σ2.drop k=U.drop k
def B8:GKs k TV:=λx U H Q q=>by
 match x,q with
 |[],q=>exact⟨q,Y,Y⟩
def XG(R:GK k g)(O:GKs k gs)(N:∀x U H (Q Z:kO),(∀a b,Q a b->Z a b)->g x U H Q->g x U H Z)(M:∀x U H (Q Z:kO),(∀a b,Q a b->Z a b)->gs x U H Q->gs x U H Z):GKs k (Jc g gs):=λx U H Q q=>by
 match x,q with
 |v::r,q=>
  refine N _ _ _ _ _ (λa b z=>?_)<|R _ _ _ _ q;obtain⟨L,G,J⟩:=z;refine M _ _ _ _ _ (λc d y=>?_)<|O _ _ _ _ L;exact⟨y.1,y.2.1.trans G,y.2.2.trans J⟩
def B7{K:W.Frag}(h:GKs k gs):GK k (NY K n gs):=λx U H Q q=>by
 match x,q with
 |.ref a,q=>
  obtain⟨Z,G,J,q⟩:=q;exact⟨Z,G,J,h _ _ _ _ q⟩
def Tn(J:It)(g:TG)(te:TE)(s0:St)(Q:VK)(H1:Hp):Prop:=∃W:Nat->Nat->List V->Hp->Prop,(∃m,W 0 m [] H1)/\∀i m Z H,W i m Z H->
 Z.length<sizeLine/\((J.stop i H/\∀p,H p=none->Q (.ref p) (upd H p<|.lst Z)) \/
  (J.go i H/\∀x L,J.yld i H x L->g x s0 L fun σ2 N=>te σ2 N λy M=>∃G,G<m/\W (i+1) G (Z++[y]) M))
def QX(k:Nat)(ix:List Nat)(wi:TI)(g:TG)(te:TE):TE:=λU H Q=>wi U H λJ Z=>Tn J g te (JB k ix U) Q Z
def Inv.retrack(I:Inv X Z U H s)(O:H D=none)(f:UA X Z H D)(L:VO X.prog X.w (upd H D o) s.heap D o):Inv X Z U (upd H D o) s:=by
 have G:∀b u,H b=some u->b≠D:=λb u e=>Yb e O;have r:=I.step (h':=s.heap) (H':=upd H D o) (g':=s.gens) (d':=s.drawn) (t':=s.toks) (ch:=[D])
  (λb J=>by
   have e:b=D:=by simpa using J
   subst e;exact⟨f.2.2.2.1,f.2.1,f.2.2.2.2.1,f.2.2.2.2.2⟩)
  (λb o _ _ _ e _=>e) (λb o _ _ _ e _=>⟨o.slots,e⟩) (λb o J e n=>by rw[Yg (λz=>J<|by simp[z])];exact n) (λb o _ e=>⟨o,e⟩)
  (λb M e=>by rw[Yg (G _ _ e)];exact e) (λb o u e=>by rw[Yg (G _ _ e)];exact e) (λb R e=>⟨#[],by rw[Yg (G _ _ e),e];simp⟩) (λm N=>N)
  (λb u e=>by
   by_cases J:b=D
   .subst J;rw[Yf]at e;cases e;exact L
   .rw [Yg J]at e
    exact(I.hok b u e).stay (λc v _ q=>q) (λc q=>by rw[Yg (G _ _ q)];exact q) λc M q=>by rw[Yg (G _ _ q)];exact q) I.bare
 exact r
def Ug(sc:Scope)(outer:List (Str×NameKind))(N:kC)(ix:List Nat):Bool:=
 sc.names.all (λx=>(decide (x.2≠.local) || decide (sc.names.lookup x.1=some .local)) && decide (x.2≠.cell) && (decide (x.2≠.free) || decide (outer.lookup x.1=some .cell) || decide (outer.lookup x.1=some .free))) &&
  ix.all λj=>match N[j]? with
   |some y=>decide<|sc.names.lookup y=some .free
   |none=>false
def Ug.all(Z:Ug sc outer N ix=true):
  (∀x∈sc.names,x.2=.local->sc.names.lookup x.1=some .local)/\(∀x∈sc.names,x.2≠.cell)/\(∀x∈sc.names,x.2=.free->outer.lookup x.1=some .cell\/outer.lookup x.1=some .free)/\∀j∈ix,∃y,N[j]?=some y/\sc.names.lookup y=some .free:=by
 unfold Ug at Z;rw[ZZ,qf,qf]at Z;have each:=λx J=>Z.1 x J;simp only[ZZ,Bool.or_eq_true,decide_eq_true_eq]at each;refine⟨λx J G=>(each x J).1.1.resolve_left λz=>z G,λx J=>(each x J).1.2,λx J M=>?_,λj L=>?_⟩
 .rcases (each x J).2 with(z|z)|z
  .exact Zr M z
  .exact .inl z
  .exact .inr z
 .have q:=Z.2 j L
  cases e:N[j]? with
  |none=>rw[e]at q;cases q
  |some y=>rw[e]at q;exact⟨y,Y,Zt q⟩
structure CB(X:Cx)(own:List Str)(ix:List Nat)(scope:Scope)(pins:List (Addr×Obj))(U:St)(tg:Expr)(cl:List (Str×Addr))(D C:Addr)(fp:List Addr)(it:Addr)(tn:Nat->Heap->Prop)(J:It)(H2:Hp)(s3:Shared):Prop where
 T:Turn X.prog X.w X.K tg J fp it tn
 ok:(VX X (Vs X own ix) scope cl C (D::fp) s3 H2).Ok
 nfp:∀b∈fp,b≠D
 f2:∀b∈fp,UA X pins H2 b
 fD:UA X pins H2 D
 I3:Inv X pins U H2 s3
 CD:C≠D
 fC:∀H':Hp,H' C=none->UA X pins H' C
section
def X8{rest:List Comprehension}(own:kC)(E:List Nat)(hi:PI X tg iter wi)(M:scope.kind=.function)(T4:Ug scope X.env.scope.names X.N E=true)(hs:∀x,foldedSetIterable iter X.env x=pure x)(I:Inv X G U H s)(h:wi U H R)(loop:∀(cl:List (Str×Addr))(D C:Addr)(fp:kF)(it:Addr)(tn:Nat->Heap->Prop)(J:It)(A:Hp)(s3 s5:Shared),CB X own E scope G U tg cl D C fp it tn J A s3->R J A->Inv (VX X (Vs X own E) scope cl C (D::fp) s3 A) [] (JB own.length E U) A s5->tn 0 s5.heap->s5.heap.PlainList D (List.toArray [])->
   codeAny (model X.prog X.w) X.A (.compLoop (.ListComp elt (⟨tg,iter,ifs,0⟩::rest) scope pos) 0 (.ref it) (.ref D)<|compEnvC scope cl C X.env) (compPost (model X.prog X.w) X.A X.xe use POST (.ref D) C) s5):
  wpAny (model X.prog X.w) X.A (comprehension (.ListComp elt (⟨tg,iter,ifs,0⟩::rest) scope pos) scope X.env cpos (newList []) false (eval iter X.env) use) POST X.xe s:=by
 obtain⟨G1,Q,O1,T5⟩:=Ug.all T4;have G2:∀x∈scope.names,x.2=.free->∃c,X.env.cells.lookup x.1=some c:=λx hx hf=>I.ok.has x.1<|O1 x hx hf;obtain⟨cl,T6,Z,M2⟩:=DL G2;refine wpAny_comprehension_free Y hs T6 M G1 ?_;refine thn (hi G s U H _ I h) λv s1 h1=>thn h1 λD0 w h2=>?_;obtain⟨it,fp,tn,J,A,e,O,T,R4,f2,hR⟩:=h2;subst e;refine vS<|wpAny_newFunctionEnv Q (by intro y hy;simp at hy) (λh4 J2 n=>?_) M;dsimp only at J2 n |-;generalize hh3:w.heap.push {cls:=.type "list",dict:=none,data:=.seq ([]:kB).toArray}=h3 at J2 n |-;have R6:h3.objs.size=w.heap.objs.size+1:=by rw[<-hh3,vX]
 have l:∀b u,w.heap.get? b=some u->h3.get? b=some u:=λb u q=>by rw[<-hh3];exact ZE _ q
 have D3:h3.get? w.heap.objs.size=some {cls:=.type "list",data:=.seq #[]}:=by rw[<-hh3];exact ZY _ Y
 obtain⟨D,g⟩:∃D,D=w.heap.objs.size:=⟨_,rfl⟩;obtain⟨C,hC⟩:∃C,C=h3.objs.size:=⟨_,rfl⟩;rw[<-hC]at J2 n;rw[<-g]at D3 R6;have F:C=D+1:=hC.trans R6
 let s3:Shared:={w with heap:=h3}
 have I3:Inv X G U A s3:=O.kept (t':=w.toks) l;have T3:∀b u,h3.get? b=some u->b<C:=λb u q=>by rw[hC];exact ZP q
 have L:∀b u,h3.get? b=some u->h4.get? b=some u:=λb u q=>n.extBut b u (Ze<|T3 b u q)<|ZE _ q;have T8:A D=none:=O.hok.fresh (by rw[g];exact ZG _);have T9:A C=none:=O.hok.fresh (by rw[F,g];exact qz _);have fD:UA X G A D:=O.fpOk (by rw[g];exact ZG _) T8
 have f:∀x c,X.env.cells.lookup x=some c->c<D:=λx c e=>by
  obtain⟨v,z⟩:=O.cell x c e;rw[g];exact z.lt
 have R1:∀b∈fp,b<D:=λb N=>by
  obtain⟨o,e,_⟩:=T.obj 0 _ R4 b N;rw[g];exact ZP e
 let X':Cx:=VX X (Vs X own E) scope cl C (D::fp) s3 A
 have R3:∀b∈frs X.stack,b∉D::fp:=λb N z=>by
  rcases Zd.mp z with z|z
  .have q:=O.stack
   obtain⟨_,o,e,_⟩:=q.mem N;have:=ZP e;rw[z,g]at this;exact vx _ this
  .rcases Zd.mp (O.stkSub b N)with q|q
   .exact (f2 b z).2.1 q
   .exact (f2 b z).2.2.1 q
 have R7:X'.Ok:=by
  refine⟨I.ok.mod,M,I.ok.glob,I.ok.blt,?_,λx y c h1 h2=>I.ok.inj x y c (Z x c h1)<|Z y c h2,λx hx=>M2 x<|Xq (scope:=scope) hx Q,(λx c z=>Bool.noConfusion (show false=true from z)),I.ok.hd,I.ok.frames,.inl rfl,λb N=>⟨?_,λx c h1=>?_⟩,λb o e=>?_,?_,λb o e N=>?_,λb N z=>R3 b z N,?_,λb N=>O.stkFree b N⟩
  .show h3.objs.size<=C
   rw[hC];exact ZG _
  .show b≠C
   rcases Zd.mp N with z|z
   .rw [z,F];exact Ze<|vf _
   .rw [F];exact Ze<|Nat.lt_succ_of_lt<|R1 b z
  .rcases Zd.mp N with z|z
   .rw [z];exact Ze<|f x c<|Z x c h1
   .exact (f2 b z).2.2.2.2.1 x c (Z x c h1)
  .exact I3.bs b o e
  .show X.base.objs.size<=h3.objs.size
   have:=Zb I.ok.bsz O.sz;rw[<-g]at this;rw[<-hC,F];exact qT this
  .rcases Zd.mp N with z|z
   .have:=ZP<|O.bk b o e
    rw[z,g]at this;exact vx _ this
   .rcases (f2 b z).2.2.2.1 with q|q
    .exact I.ok.noex b o e q
    .have:=Zx (ZP (I.ok.bs b o e).1) q
     exact vx _ this
  .exact I3.stack
 have R8:(JB own.length E U).length=(Vs X own E).length:=by simp[JB,Vs]
 have I4:∀t,Inv X' [] (JB own.length E U) A {w with heap:=h4,toks:=t}:=λt=>by
  refine⟨R7,Y,O.bare,Un.kept L,⟨_,J2,λi x v e1 e2 e3=>?_⟩,λx c e=>?_,T9,λx c e=>O.freeC x c<|Z x c e,λp hp=>Zr (show p∈([]:ky)from hp) (by simp),(I3.hok).kept L,R8⟩
  .-- a name of the def that the block reads
   have T2:own.length<=i:=by
    apply jR;intro T1;unfold JB at e2;rw[vd (by simpa using T1),jK,Zp T1]at e2;cases e2
   have d:(E.map λj=>X.N.getD j ("":Str))[i-own.length]?=some x:=by
    have z:(own++ E.map λj=>X.N.getD j ("":Str))[i]?=some x:=e1
    rwa [vb T2]at z
   have R5:(E.map λj=>U.getD j none)[i-own.length]?=some (some v):=by
    unfold JB at e2;rw[vb (by simpa using T2)]at e2;simpa using e2
   rw[ZH]at d R5
   cases hj:E[i-own.length]? with
   |none=>rw[hj]at d;cases d
   |some j=>
    rw[hj]at d R5;obtain⟨y,hy,P⟩:=T5 j<|ZJ hj
    have ex:x=y:=by
     have z:X.N.getD j ("":Str)=x:=ZT d;rw[<-z,jd,hy];rfl
    subst ex
    have ev:U[j]?=some (some v):=by
     have z:U.getD j none=some v:=ZT R5;rw[jd]at z
     cases q:U[j]? with
     |none=>rw[q]at z;cases z
     |some a=>rw[q]at z;exact congrArg some z
    have T0:=ji P;have G3:=O1 _ T0 rfl;obtain⟨m,hn,hl⟩:=O.loc;obtain⟨u,r,lk⟩:=hl j x v hy ev<|.inr G3;refine⟨u,r,.inr ⟨?_,?_⟩⟩
    .rcases e3 with z|z
     .exact Zr z (Wx P)
     .exact z
    .rcases lk with⟨k,_⟩|⟨_,c,T7,z⟩
     .rcases G3 with q|q
      .exact Zr (k.symm.trans q) (by simp)
      .exact Zr (k.symm.trans q) (by simp)
     .obtain ⟨c',hc'⟩:=M2 x T0
      have:=Z x c' hc';rw[T7]at this;cases this;obtain⟨o,ho,hd⟩:=z;exact⟨c,hc',o,L _ _<|l _ _ ho,hd⟩
  .obtain ⟨v,z⟩:=I3.cell x c<|Z x c e
   obtain⟨o,ho,hd⟩:=z;exact⟨v,o,L _ _ ho,hd⟩
 have B:CB X own E scope G U tg cl D C fp it tn J A s3:=⟨T,R7,λb N=>Ze<|R1 b N,f2,fD,I3,by rw[F];exact jg<|vf _,λH' hn=>O.fpOk (by rw[F,g];exact qz _) hn⟩;have S:=λt=>loop cl D C fp it tn J A s3 {w with heap:=h4,toks:=t} B hR (I4 t) (T.keep 0 _ _ R4 λb _ o e=>L _ _<|l _ _ e) ⟨_,L _ _ D3⟩;rw[<-hC,<-g];exact codeAny_compStart_list (S _)<|T.self _ 0 _ _ _ (T.keep 0 _ _ R4 λb _ o e=>L _ _<|l _ _ e)<|S _
def CB.stop(B:CB X own ix scope Z U tg cl D C fp P tn J S s3)(G:Inv (VX X (Vs X own ix) scope cl C (D::fp) s3 S) [(D,oD)] τ H5 s6)(T:M.length<sizeLine)(R:Vals M L)(A:oD={cls:=.type "list",data:=.seq L.toArray nn}):
  Inv X Z U (upd H5 D<|.lst M) s6/\UA X Z (upd H5 D<|.lst M) C/\(∃m,s6.heap.Ns C m)/\H5 D=none:=by
 obtain⟨m,O,_⟩:=id G.loc
 have I:Inv X Z U H5 s6:=B.I3.call' (ch:=D::fp) G.os G.base G.hok G.bare λb E=>by
  rcases Zd.mp E with z|z
  .subst z
   exact⟨B.fD.2.2.2.1,B.fD.2.1,B.fD.2.2.2.2.1,B.fD.2.2.2.2.2⟩
  .have f:=B.f2 b z
   exact⟨f.2.2.2.1,f.2.1,f.2.2.2.2.1,f.2.2.2.2.2⟩
 obtain⟨F,N,_⟩:=G.pin (D,oD) (by simp);subst A;exact⟨I.retrack (o:=.lst M) N ⟨N,B.fD.2⟩ ⟨Zh T,L,nn,R,F⟩,B.fC _ (by rw[Yg B.CD];exact G.free),⟨m,O⟩,N⟩
def Lk(R:Inv X Z U L s6)(J:UA X Z L C)(N:∃m,s6.heap.Ns C m)(q:Q (.ref D) L):compPost (model X.prog X.w) X.A X.xe none (EP X Z U Q) (.ref D) C (.ok .next) s6:=by
 obtain⟨m,M⟩:=N;exact⟨m,M,λT G=>⟨.ref D,_,R.turned (it:=C) (t':=s6.toks) (λb o O e=>(G.2 b O).trans e) J.1 J.2.1 J.2.2.2.1 J.2.2.2.2.1 J.2.2.2.2.2,Y,q⟩⟩
def Lj{F:Ends}(j:X.N.Nodup)(T:X.N[i0]?=some x0)(N:Loc X.env.scope x0)(P:X.fn x0=true\/X.env.scope.names.lookup x0=some .local)(t:Inv X Z U M s6)(G:UA X Z M C)(S:∃m,s6.heap.Ns C m)(q:Vo i0 (.ref D) U M F.nx):
  compPost (model X.prog X.w) X.A X.xe (some<|assign (.Name x0 py) X.env) (λ_ I=>∃E M,Inv X Z E M I/\F.nx E M) (.ref D) C (.ok .next) s6:=by
 obtain⟨m,R⟩:=S;show wpAny _ X.A (assign (.Name x0 py) X.env<|.ref D) _ _ _;refine wpAny_assign_Name<|Tw (v:=.ref D) t j T N rfl (λA y J=>?_) P;obtain⟨a,J,L⟩:=J
 have B:C≠a:=by
  rcases L with L|L
  .rw [L];exact G.2.1
  .exact λz=>G.2.2.2.2.1 x0 a L z.symm
 exact⟨m,R.sameBut J B,λg O=>⟨_,_,y.turned (it:=C) (t':=A.toks) (λb o Q e=>(O.2 b Q).trans e) G.1 G.2.1 G.2.2.2.1 G.2.2.2.2.1 G.2.2.2.2.2,q⟩⟩
def D8(J:swapsWith (.ListComp e gens scope pos) (some<|.Name x0 py) spos.line X.env=pure true)(h:wpAny (model X.prog X.w) X.A (comprehension (.ListComp e gens scope pos) scope X.env (firstIterPos gens pos) (newList []) (firstAsync gens) (firstIter gens X.env)<|some<|assign (.Name x0 py) X.env) (λ_ G=>∃L M,Inv X Z L M G/\D0.nx L M) X.xe s):
  wpAny (model X.prog X.w) X.A (exec (.Assign [.Name x0 py] (.ListComp e gens scope pos) spos) X.env) (SP X Z D0) X.xe s:=by
 rw[exec_Assign_Name_used _ _ _ _ J];refine Zl<|jn<|Zl (?_:wpAny _ X.A (do let _ <-comprehension (.ListComp e gens scope pos) scope X.env _ (newList []) _ _ (some<|assign (.Name x0 py) X.env)) _ _ s);exact Zl<|Zn h (λ_ G N=>Zm<|Zm N) λ_ _ e=>e
def CB.loop1(B:CB X own ix scope I U tg F D C M it tn J h s3)(hc:X.calm=true)(R6:GK own.length g)(hg:∀F C M s H,PG (VX X (Vs X own ix) scope F C M s H) tg g)(he:∀F C M s H,PE (VX X (Vs X own ix) scope F C M s H) elt te)(cw:Tn J g te (JB own.length ix U) Q h)(R8:∀a A O,Inv X I U (upd A D<|.lst O) a->UA X I (upd A D<|.lst O) C->(∃m,a.heap.Ns C m)->Q (.ref D) (upd A D<|.lst O)->Rs (.ok .next) a)(I4:Inv (VX X (Vs X own ix) scope F C (D::M) s3 h) [] (JB own.length ix U) h t)(O1:tn 0 t.heap)(lD:t.heap.PlainList D (List.toArray [])):
  codeAny (model X.prog X.w) X.A (.compLoop (.ListComp elt [⟨tg,iter,[],0⟩] scope pos) 0 (.ref it) (.ref D)<|compEnvC scope F C X.env) Rs t:=by
 obtain⟨W,⟨m0,w0⟩,turn⟩:=cw;have T:=B.T;have N:=B.ok;have G1:=B.nfp
 let E:Cx:=VX X (Vs X own ix) scope F C (D::M) s3 h
 have f:∀{S:Hp}{pl:ky},(∀p∈pl,p.1=D)->(∀b∈M,S b=none)->∀b∈M,UA E pl S b:=λ{S pl} R hn b L=>
  ⟨hn b L,(N.exf b<|ZM _ L).1,N.exfs b<|ZM _ L,.inl<|ZM _ L,(N.exf b<|ZM _ L).2,λp R3 z=>G1 b L (z ▸ R p (by
   have q:p∈([]:ky)++ pl:=R3;simpa using q))⟩
 have dX:D≠E.env.locals:=(N.exf D Za).1;have dF:D∉E.fs:=N.exfs D Za;refine Nf (λn s'=>∃i O Z S,Inv E [] (JB own.length ix U) S s'/\tn i s'.heap/\(∀b∈M,S b=none)/\S D=none/\s'.heap.PlainList D (List.toArray Z)/\Vals O Z/\W i n O S) ?_ m0
  ⟨0,[],[],h,I4,O1,λb L=>(B.f2 b L).1,B.fD.1,lD,.nil,w0⟩
 rintro n t ⟨i,O,Z,A,I5,J2,G3,d5,⟨nn,l5⟩,v5,w5⟩;obtain⟨hz,c⟩:=turn i n O A w5
 let oD:Obj:={cls:=.type "list",data:=.seq Z.toArray nn}
 have G:∀p∈ [((D,oD):Addr×Obj)],p.1=D:=λp R=>by
  have e:p=(D,oD):=by simpa using R
  rw[e]
 have M2:Inv E [(D,oD)] (JB own.length ix U) A t:=I5.pins_of λp R=>by
  have e:p=(D,oD):=by simpa using R
  subst e;exact⟨l5,d5,dX,dF,λv z=>nomatch z⟩
 rcases c with⟨stop,qn⟩|⟨go,step⟩
 .refine thn (T.done E rfl rfl rfl hc i _ t _ A _ M2 (f G G3) J2 stop) λr a ⟨hr,I6⟩=>?_
  subst hr;obtain⟨z1,z2,z3,nD⟩:=B.stop I6 hz v5 rfl;exact R8 a A O z1 z2 z3<|qn D nD
 .refine thn (T.item E rfl rfl rfl hc i _ t _ A _ M2 (f G G3) J2 go) λr a ⟨u,hr,h6⟩=>?_
  subst hr;refine thn h6 λ_ s7 ⟨x,H7,I7,r7,y7,P,R7⟩=>?_;have T1:=I7.pinned (f G R7)<|T.obj _ _ P;refine thn (hg F C (D::M) s3 h _ s7 _ H7 x u _ T1 r7<|R6 _ _ _ _<|step x H7 y7) λ_ s8 ⟨σ8,H8,I8,q8,l8,k8⟩=>?_;refine thn (he F C (D::M) s3 h _ s8 σ8 H8 _ I8 q8) λyv s9 ⟨y,H9,I9,r9,m',R4,w9⟩=>?_;obtain⟨gD,nD,_⟩:=I9.pin (D,oD) (by simp);have G2:Z.length=O.length:=v5.length.symm;refine wpAny_list_append_plain (l:=D) (items:=Z.toArray) ⟨nn,gD⟩ (λh' R5 R1=>?_) (by rw[ZO,G2];exact Zh hz);have kp:∀b o,b≠D->s9.heap.get? b=some o->h'.get? b=some o:=λb o L q=>(R1.2 b L).trans q
  have T0:Inv E (VU M s7.heap) σ8 H9 s9:=I9.pins_of λp R=>I9.pin p (by
   refine ZU _<|ZU _ R)
  have k:∀p∈E.pn++ VU M s7.heap,p.1≠D:=λp R=>by
   have q:p∈([]:ky)++ VU M s7.heap:=R;exact G1 _ (Wc<|by simpa using q).1
  have w:Inv E (VU M s7.heap) σ8 H9 {s9 with heap:=h',toks:=s9.toks}:=T0.turned (it:=D) kp nD dX (.inl Za) (N.exf D Za).2 k;refine⟨m',R4,i+1,O++[y],Z++[yv],H9,?_,?_,?_,nD,?_,v5.append<|.cons r9 .nil,w9⟩
  .refine Inv.weak (w.pins_of (pins':=[]) λp R=>nomatch R) (by rw[l8]) λj v hj=>?_
   by_cases hlt:j<own.length
   .unfold JB at hj
    rw[vd (by simpa using hlt),jK,Zp hlt]at hj;cases hj
   .have e:σ8[j]?=(JB own.length ix U)[j]?:=by
     have q:=congrArg (λl:List (kP)=>l[j-own.length]?) k8;simp only[List.getElem?_drop]at q
     rwa [Nat.add_sub_cancel' (jR hlt)]at q
    rw[e];exact hj
  .exact T.keep _ _ _ P λb L o e=>(w.pin (b,o)<|ZU _<|JO L e).1
  .intro b L
   obtain⟨o,e,d⟩:=T.obj _ _ P b L;exact(w.pin (b,o)<|ZU _<|JO L e).2.1
  .have e:(Z++[yv]).toArray=Z.toArray.push yv:=by simp
   rw[e];exact R5
end
abbrev two(elt tg iter tg2 iter2:Expr)(scope:Scope)(pos:Pos):Expr:=.ListComp elt [⟨tg,iter,[],0⟩,⟨tg2,iter2,[],0⟩] scope pos
section
theorem Bl:compTurn (two elt tg iter tg2 iter2 scope pos) 0 Z acc env=(standAt iter.pos >>=λ_=>pyNext Z >>=λr=>match r with
  |none=>pure<|.done .next
  |some v=>letOwnedTupleGo tg Z v >>=λ_=>assign tg env v >>=λ_=>eval iter2 env >>=λx=>standAt iter2.pos >>=λ_=>foldedSetIterable iter2 env x >>=λx=>holding [x] (pyIter x) >>=λj=>
    runOwn (.compStart (two elt tg iter tg2 iter2 scope pos) 1 j acc env) env >>=λ_=>again<|.compLoop (two elt tg iter tg2 iter2 scope pos) 0 Z acc env):=by rfl
theorem B4:compTurn (two elt tg iter tg2 iter2 scope pos) 1 Z acc env=(standAt iter2.pos >>=λ_=>pyNext Z >>=λr=>match r with
  |none=>pure<|.done .next
  |some v=>letOwnedTupleGo tg2 Z v >>=λ_=>assign tg2 env v >>=λ_=>(eval elt env >>=λx=>call (.builtin "list.append") [acc,x] >>=λ_=>pure ()) >>=λ_=>
    again (.compLoop (two elt tg iter tg2 iter2 scope pos) 1 Z acc env)):=by rfl
def LK(I:Nat->Shared->Prop)(turn:∀n s,I n s->wpAny (model prog w) A (pyNext Z) (λr s1=>match r with
   |none=>R (.ok .next) s1
   |some v=>wpAny (model prog w) A (letOwnedTupleGo tg2 Z v) (λ_ M=>wpAny (model prog w) A (assign tg2 env v) (λ_ L=>wpAny (model prog w) A (eval elt env) (λx G=>
     wpAny (model prog w) A (call (.builtin "list.append") [acc,x]) (λ_ J=>∃m,m<n/\I m J) (λ_ _=>False) G) (λ_ _=>False) L) (λ_ _=>False) M) (λ_ _=>False) s1) (λ_ _=>False) s)(n:Nat)(h:I n s):codeAny (model prog w) A (.compLoop (two elt tg iter tg2 iter2 scope pos) 1 Z acc env) R s:=by
 refine codeAny_loop Y I (λn s O=>wpAny_noted (m:=compTurn (two elt tg iter tg2 iter2 scope pos) 1 Z acc env) ?_) n h;rw[B4];refine Zl<|jn<|Zl<|Zn (turn n s O) (λr s1 N=>?_) λ_ _ z=>z.elim
 cases r with
 |none=>exact Zm N
 |some v=>
  exact Zl (Zn N (λ_ M E=>Zl (Zn E (λ_ L D=>Zl (Zl (Zn D (λx G B=>Zl (Zn B
   (λ_ J T=>Zm<|Zm ⟨rfl,T⟩) λ_ _ z=>z.elim)) λ_ _ z=>z.elim))) λ_ _ z=>z.elim)) λ_ _ z=>z.elim)
def NT(G:codeAny (model prog w) A (.compLoop (two elt tg iter tg2 iter2 scope pos) 1 Z acc env) R s)(h:wpAny (model prog w) A (pyIter Z) (λj J=>codeAny (model prog w) A (.compLoop (two elt tg iter tg2 iter2 scope pos) 1 j acc env) R J) (λ_ _=>False) s):
  codeAny (model prog w) A (.compStart (two elt tg iter tg2 iter2 scope pos) 1 Z acc env) R s:=by
 refine codeAny_of_tree<|wpAny_notedAt (m:=compStart (two elt tg iter tg2 iter2 scope pos) 1 Z acc env) (pos:=theWindowsPlace) ?_;simp only[compStart];refine Zl (m:=ask)<|wpAny_askSetting ?_
 split
 .exact Zl (Zm<|Zm ⟨rfl,G⟩)
 .exact Zl (jD<|Zl<|jn<|Zl<|Zn h (λj J L=>Zm ⟨rfl,L⟩) λ_ _ z=>z.elim)
def KQ(I:Nat->Shared->Prop)(turn:∀n s,I n s->wpAny (model prog w) A (pyNext Z) (λr s1=>match r with
   |none=>R (.ok .next) s1
   |some v=>wpAny (model prog w) A (letOwnedTupleGo tg Z v) (λ_ N=>wpAny (model prog w) A (assign tg env v) (λ_ M=>wpAny (model prog w) A (eval iter2 env) (λx L=>
     wpAny (model prog w) A (pyIter x) (λj G=>codeAny (model prog w) (A.mark none) (.compStart (two elt tg iter tg2 iter2 scope pos) 1 j acc env) (λr J=>match r with|.ok _=>∃m,m<n/\I m J|.error _=>False) G) (λ_ _=>False) L) (λ_ _=>False) M) (λ_ _=>False) N) (λ_ _=>False) s1) (λ_ _=>False) s)(B:∀x,foldedSetIterable iter2 env x=pure x)(n:Nat)(h:I n s):codeAny (model prog w) A (.compLoop (two elt tg iter tg2 iter2 scope pos) 0 Z acc env) R s:=by
 refine codeAny_loop Y I (λn s D=>wpAny_noted (m:=compTurn (two elt tg iter tg2 iter2 scope pos) 0 Z acc env) ?_) n h;rw[Bl];refine Zl<|jn<|Zl<|Zn (turn n s D) (λr s1 T=>?_) λ_ _ z=>z.elim
 cases r with
 |none=>exact Zm T
 |some v=>
  refine Zl<|Zn T (λ_ N U=>Zl<|Zn U (λ_ M S=>Zl<|Zn S (λx L F=>Zl<|jn ?_) λ_ _ z=>z.elim) λ_ _ z=>z.elim) λ_ _ z=>z.elim;rw[B x];refine Zl<|Zm<|Zl<|wpAny_holding<|Zn F (λj G E=>Zl<|wpAny_runOwn<|qG E λr J O=>?_) λ_ _ z=>z.elim
  cases r with
  |error e=>exact O.elim
  |ok f=>exact Zm ⟨Y,O⟩
end
def In2(wi2:TI)(te:TE)(W:Nat->Nat->List V->Hp->Prop)(i m:Nat)(ys:kL):kO:=λU H=>wi2 U H λN B=>∃M:Nat->Nat->List V->Hp->Prop,(∃L,M 0 L ys B)/\∀j L G J,M j L G J->
 G.length<sizeLine/\((N.stop j J/\∃O,O<m/\W (i+1) O G J) \/
  (N.go j J/\∀y R,N.yld j J y R->te (U.set 1<|some y) R λv T=>∃Z,Z<L/\M (j+1) Z (G++[v]) T))
def Dg(J:It)(wi2:TI)(te:TE)(s0:St)(Q:VK)(H1:Hp):Prop:=∃W:Nat->Nat->List V->Hp->Prop,(∃m,W 0 m [] H1)/\∀i m Z H,W i m Z H->
 Z.length<sizeLine/\((J.stop i H/\∀p,H p=none->Q (.ref p) (upd H p<|.lst Z)) \/
  (J.go i H/\∀x G,J.yld i H x G->In2 wi2 te W i m Z (s0.set 0<|some x) G))
def Fx(ix:List Nat)(wi wi2:TI)(te:TE):TE:=λU H Q=>wi U H λJ Z=>Dg J wi2 te (JB 2 ix U) Q Z
def Qv(h:Vo i x U H Q):Vo i x U H fun σ2 Z=>Q σ2 Z/\σ2=U.set i (some x):=⟨h,rfl⟩
section
def CB.loop2(B:CB X [x1,x2] ix scope G1 U (.Name x1 p1) E D C Z it tn J w s3)(hc:X.calm=true)(hg:∀E C Z s H,PG (VX X (Vs X [x1,x2] ix) scope E C Z s H) (.Name x1 p1)<|Vo 0)(I3:∀E C Z s H,PI (VX X (Vs X [x1,x2] ix) scope E C Z s H) (.Name x2 p2) iter2 wi2)(hg2:∀E C Z s H,PG (VX X (Vs X [x1,x2] ix) scope E C Z s H) (.Name x2 p2)<|Vo 1)(he:∀E C Z s H,PE (VX X (Vs X [x1,x2] ix) scope E C Z s H) elt te)(F8:∀env x,foldedSetIterable iter2 env x=pure x)(cw:Dg J wi2 te (JB 2 ix U) Q w)(fin:∀g f A,Inv X G1 U (upd f D<|.lst A) g->UA X G1 (upd f D<|.lst A) C->(∃m,g.heap.Ns C m)->Q (.ref D) (upd f D<|.lst A)->Rs (.ok .next) g)(I4:Inv (VX X (Vs X [x1,x2] ix) scope E C (D::Z) s3 w) [] (JB ([x1,x2]:kC).length ix U) w s5)(F2:tn 0 s5.heap)(lD:s5.heap.PlainList D (List.toArray [])):
  codeAny (model X.prog X.w) X.A (.compLoop (two elt (.Name x1 p1) iter (.Name x2 p2) iter2 scope pos) 0 (.ref it) (.ref D)<|compEnvC scope E C X.env) Rs s5:=by
 have S2:GK ([x1,x2]:kC).length (Vo 0):=Vm (i:=0) (by simp);obtain⟨W,⟨m0,w0⟩,turn⟩:=cw;have T:=B.T;have I:=B.ok;have T7:=B.nfp
 let N:Cx:=VX X (Vs X [x1,x2] ix) scope E C (D::Z) s3 w
 have R7:∀{R:Hp}{pl:ky},(∀p∈pl,p.1=D)->(∀b∈Z,R b=none)->∀b∈Z,UA N pl R b:=λ{R pl} M hn b G=>
  ⟨hn b G,(I.exf b<|ZM _ G).1,I.exfs b<|ZM _ G,.inl<|ZM _ G,(I.exf b<|ZM _ G).2,λp y z=>T7 b G (z ▸ M p (by
   have q:p∈([]:ky)++ pl:=y;simpa using q))⟩
 have dX:D≠N.env.locals:=(I.exf D Za).1;have dF:D∉N.fs:=I.exfs D Za;refine KQ (λn s'=>∃i A L R,Inv N [] (JB ([x1,x2]:kC).length ix U) R s'/\tn i s'.heap/\(∀b∈Z,R b=none)/\R D=none/\s'.heap.PlainList D (List.toArray L)/\Vals A L/\W i n A R) ?_ (F8 _) m0
  ⟨0,[],[],w,I4,F2,λb G=>(B.f2 b G).1,B.fD.1,lD,.nil,w0⟩
 rintro n s5 ⟨i,A,L,f,I5,T5,D2,d5,⟨nn,l5⟩,v5,w5⟩;obtain⟨hz,R5⟩:=turn i n A f w5
 let oD:Obj:={cls:=.type "list",data:=.seq L.toArray nn}
 have F:∀p∈ [((D,oD):Addr×Obj)],p.1=D:=λp M=>by
  have e:p=(D,oD):=by simpa using M
  rw[e]
 have D7:Inv N [(D,oD)] (JB ([x1,x2]:kC).length ix U) f s5:=I5.pins_of λp M=>by
  have e:p=(D,oD):=by simpa using M
  subst e;exact⟨l5,d5,dX,dF,λv z=>nomatch z⟩
 rcases R5 with⟨stop,qn⟩|⟨go,step⟩
 .refine thn (T.done N rfl rfl rfl hc i _ s5 _ f _ D7 (R7 F D2) T5 stop) λr g ⟨hr,I6⟩=>?_
  subst hr;obtain⟨z1,z2,z3,nD⟩:=B.stop I6 hz v5 rfl;exact fin g f A z1 z2 z3<|qn D nD
 .refine thn (T.item N rfl rfl rfl hc i _ s5 _ f _ D7 (R7 F D2) T5 go) λr g ⟨u,hr,h6⟩=>?_
  subst hr;refine thn h6 λ_ O ⟨x,H7,I7,r7,y7,R3,fr7⟩=>?_;have I7':=I7.pinned (R7 F fr7)<|T.obj _ _ R3;refine thn (hg E C (D::Z) s3 w _ O _ H7 x u _ I7' r7<|S2 _ _ _ _<|Qv (Q:=In2 wi2 te W i n A)<|step x H7 y7) λ_ s8 ⟨σ8,H8,I8,q8,l8,k8⟩=>?_;have e8:σ8=(JB ([x1,x2]:kC).length ix U).set 0 (some x):=by exact q8.2
  replace q8:=q8.1;refine thn (I3 E C (D::Z) s3 w _ s8 σ8 H8 _ I8 q8) λv9 s9 h9=>thn h9 λjv P h10=>?_;obtain⟨F6,S,G3,J2,T3,ej,T1,T2,a,R8,W2,⟨F5,F1⟩,G2⟩:=h10;subst ej;rw[Around.mark_none];obtain⟨gD0,F4,_⟩:=T1.pin (D,oD) (by simp);have T8:∀b∈S,b≠D:=λb G z=>(R8 b G).2.2.2.2.2 (D,oD) (by simp) z.symm
  have cut:∀{H9:Hp}{σ9:St}{s9:Shared}{more:ky},Inv N (([(D,oD)]++ VU Z O.heap)++ more) σ9 H9 s9->Inv N (VU Z O.heap) σ9 H9 s9:=λ{H9 σ9 s9 more} I9=>
   I9.pins_of λp M=>I9.pin p<|ZU _<|vT _<|ZU _ M
  have R4:∀p∈N.pn++ VU Z O.heap,p.1≠D:=λp M=>by
   have q:p∈([]:ky)++ VU Z O.heap:=M;exact T7 _ (Wc<|by simpa using q).1
  have R6:∀{H9:Hp}{o9:Obj},(∀b∈S,H9 b=none)->∀b∈S,UA N ([(D,o9)]++ VU Z O.heap) H9 b:=λ{H9 o9} hn b G=>by
   obtain⟨_,k1,k2,k3,k4,k5⟩:=R8 b G;refine⟨hn b G,k1,k2,k3,k4,λp M=>?_⟩
   have y:p=(D,o9)\/p∈VU Z O.heap:=by
    have q:p∈([]:ky)++ ([(D,o9)]++ VU Z O.heap):=M;simpa using q
   rcases y with rfl|y
   .exact (T8 b G).symm
   .exact k5 p (by
     show p∈([]:ky)++ ([(D,oD)]++ VU Z O.heap);simp[y])
  let R2:Result->Shared->Prop:=λr g=>match r with
   |.ok _=>∃m,m<n/\∃i A L R,Inv N [] (JB ([x1,x2]:kC).length ix U) R g/\tn i g.heap/\(∀b∈Z,R b=none)/\R D=none/\g.heap.PlainList D (List.toArray L)/\Vals A L/\W i m A R
   |.error _=>False
  have inner:∀(sA:Shared),(Inv N (VU Z O.heap) σ8 T3 sA/\G3 0 sA.heap/\sA.heap.PlainList D (List.toArray L))->codeAny (model X.prog X.w) X.A (.compLoop (two elt (.Name x1 p1) iter (.Name x2 p2) iter2 scope pos) 1 (.ref F6) (.ref D)<|compEnvC scope E C X.env) R2 sA:=λsA hA=>by
   refine LK (λk s'=>∃j h t R,Inv N (VU Z O.heap) σ8 R s'/\G3 j s'.heap/\(∀b∈S,R b=none)/\R D=none/\s'.heap.PlainList D (List.toArray t)/\Vals h t/\W2 j k h R) ?_ F5
    ⟨0,A,L,T3,hA.1,hA.2.1,λb G=>(R8 b G).1,F4,hA.2.2,v5,F1⟩
   rintro k sB ⟨j,h,t,HB,IB,T4,D1,dB,⟨nB,lB⟩,vB,wB⟩;obtain⟨F7,hcB⟩:=G2 j k h HB wB
   let oB:Obj:={cls:=.type "list",data:=.seq t.toArray nB}
   have D3:Inv N ([(D,oB)]++ VU Z O.heap) σ8 HB sB:=IB.pins_of λp M=>by
    rcases ZX.mp M with here|there
    .have e:p=(D,oB):=by simpa using here
     subst e;exact⟨lB,dB,dX,dF,λv z=>nomatch z⟩
    .exact IB.pin p (ZU _ there)
   rcases hcB with⟨M2,m',I1,wO⟩|⟨go2,O1⟩
   .refine thn (T2.done N rfl rfl rfl hc j _ sB _ HB _ D3 (R6 D1) T4 M2) λr sC ⟨hr,IC⟩=>?_
    subst hr
    obtain⟨gC,nC,_⟩:=IC.pin (D,oB) (by
     show(D,oB)∈([]:ky)++ ([(D,oB)]++ VU Z O.heap);simp)
    have T0:Inv N (VU Z O.heap) σ8 HB sC:=IC.pins_of λp M=>IC.pin p<|ZU _<|ZU _ M;refine⟨m',I1,i+1,h,t,HB,?_,?_,?_,nC,⟨nB,gC⟩,vB,wO⟩
    .refine Inv.weak (T0.pins_of (pins':=[]) λp M=>nomatch M) (by rw[l8]) λj v hj=>?_
     by_cases hlt:j<([x1,x2]:kC).length
     .unfold JB at hj
      rw[vd (by simpa using hlt),jK,Zp hlt]at hj;cases hj
     .have e:σ8[j]?=(JB ([x1,x2]:kC).length ix U)[j]?:=by
       have q:=congrArg (λl:List (kP)=>l[j-([x1,x2]:kC).length]?) k8;simp only[List.getElem?_drop]at q
       rwa [Nat.add_sub_cancel' (jR hlt)]at q
      rw[e];exact hj
    .exact T.keep _ _ _ R3 λb G o e=>(T0.pin (b,o)<|ZU _<|JO G e).1
    .intro b G
     obtain⟨o,e,d⟩:=T.obj _ _ R3 b G;exact(T0.pin (b,o)<|ZU _<|JO G e).2.1
   .refine thn (T2.item N rfl rfl rfl hc j _ sB _ HB _ D3 (R6 D1) T4 go2) λr sC ⟨u2,hr,hC6⟩=>?_
    subst hr;refine thn hC6 λ_ sD ⟨y2,HD,ID,rD,yD,R1,frD⟩=>?_;have ID':=ID.pinned (R6 frD)<|T2.obj _ _ R1;refine thn (hg2 E C (D::Z) s3 w _ sD _ HD y2 u2 _ ID' rD<|Qv (Q:=λU H=>te U H λv H6=>∃c,c<k/\W2 (j+1) c (h++[v]) H6)<|O1 y2 HD yD) λ_ sE ⟨σE,HE,IE,qE⟩=>?_;have eE:σE=σ8.set 1 (some y2):=by exact qE.2
    replace qE:=qE.1;refine thn (he E C (D::Z) s3 w _ sE σE HE _ IE qE) λyv sF ⟨yy,HF,IF,rF,c,T9,wF⟩=>?_
    obtain⟨gD,nD,_⟩:=IF.pin (D,oB) (by
     show(D,oB)∈([]:ky)++ (([(D,oB)]++ VU Z O.heap)++ VU S sD.heap);simp)
    have D0:t.length=h.length:=vB.length.symm;refine wpAny_list_append_plain (l:=D) (items:=t.toArray) ⟨nB,gD⟩ (λh' I2 F9=>?_) (by rw[ZO,D0];exact Zh F7);have kp:∀b o,b≠D->sF.heap.get? b=some o->h'.get? b=some o:=λb o G q=>(F9.2 b G).trans q;have IF':Inv N (VU Z O.heap) σE HF sF:=IF.pins_of λp M=>IF.pin p<|ZU _<|vT _<|ZU _ M;have IG:Inv N (VU Z O.heap) σE HF {sF with heap:=h',toks:=sF.toks}:=IF'.turned (it:=D) kp nD dX (.inl Za) (I.exf D Za).2 R4
    have at2:∀b∈S,∀o,sD.heap.get? b=some o->sF.heap.get? b=some o/\HF b=none:=λb G o q=>by
     have z:=IF.pin (b,o)<|ZU _<|ZU _<|JO G q;exact⟨z.1,z.2.1⟩
    refine⟨c,T9,j+1,h++[yy],t++[yv],HF,?_,?_,?_,nD,?_,vB.append<|.cons rF .nil,wF⟩
    .refine Inv.weak IG (by rw[eE,List.length_set]) λq v hq=>?_
     rw[eE]
     have F3:q≠1:=λz=>by
      subst z;rw[e8]at hq;simp[JB,List.getElem?_append]at hq
     rw[qy (Zs F3)];exact hq
    .exact T2.keep _ _ _ R1 λb G o q=>kp b o (T8 b G) (at2 b G o q).1
    .intro b G
     obtain⟨o,q,_⟩:=T2.obj _ _ R1 b G;exact(at2 b G o q).2
    .have e:(t++[yv]).toArray=t.toArray.push yv:=by simp
     rw[e];exact I2
  have T6:Inv N (VU Z O.heap) σ8 T3 P/\G3 0 P.heap/\P.heap.PlainList D (List.toArray L):=⟨T1.pins_of λp M=>T1.pin p<|ZU _<|ZU _ M,a,⟨nn,gD0⟩⟩;exact NT (inner P T6)<|T2.self _ 0 _ _ _ a<|inner P T6
def V6(own:kC)(G:List Nat)(j:PI X tg iter wi)(R:GK own.length g)(y:∀M C L s H,PG (VX X (Vs X own G) scope M C L s H) tg g)(z:∀M C L s H,PE (VX X (Vs X own G) scope M C L s H) elt te)(t:X.calm=true:=by rfl)(Z:scope.kind=.function:=by rfl)(O:Ug scope X.env.scope.names X.N G=true:=by rfl)(P:∀x,foldedSetIterable iter X.env x=pure x:=by intro _;rfl):
  PE X (.ListComp elt [⟨tg,iter,[],0⟩] scope pos) (QX own.length G wi g te):=by
 intro T s U H Q I h;rw[eval_ListComp];exact X8 own G j Z O P I h λM D C L v c J r u f B m k N S=>B.loop1 t R y z m (λd w p A F E q=>Lk A F E q) k N S
def MU(own:kC)(G:List Nat)(c:X.N.Nodup)(E:X.N[i0]?=some x0)(O:Loc X.env.scope x0)(z:PI X tg iter wi)(F:GK own.length g)(t:∀M C L s H,PG (VX X (Vs X own G) scope M C L s H) tg g)(k:∀M C L s H,PE (VX X (Vs X own G) scope M C L s H) elt te)(p:X.calm=true:=by rfl)(Z:scope.kind=.function:=by rfl)(T:Ug scope X.env.scope.names X.N G=true:=by rfl)(R:swapsWith (.ListComp elt [⟨tg,iter,[],0⟩] scope pos) (some<|.Name x0 py) spos.line X.env=pure true:=by rfl)(m:X.fn x0=true\/X.env.scope.names.lookup x0=some .local:=by first|exact .inl Y|exact .inr Y|assumption)(y:∀x,foldedSetIterable iter X.env x=pure x:=by intro _;rfl):
  PS X (.Assign [.Name x0 py] (.ListComp elt [⟨tg,iter,[],0⟩] scope pos) spos) (Ep (QX own.length G wi g te)<|Vo i0):=by
 intro A s U H i I h;exact D8 R<|X8 own G z Z T y I h λM D C L b v J o l r B d f N j=>B.loop1 p F t k d (λw e u Q P S q=>Lj c E O m Q P S q) f N j
def PJ(L:List Nat)(t:PI X (.Name x1 p1) iter wi)(m:∀G C Z s H,PG (VX X (Vs X [x1,x2] L) scope G C Z s H) (.Name x1 p1)<|Vo 0)(T:∀G C Z s H,PI (VX X (Vs X [x1,x2] L) scope G C Z s H) (.Name x2 p2) iter2 wi2)(E:∀G C Z s H,PG (VX X (Vs X [x1,x2] L) scope G C Z s H) (.Name x2 p2)<|Vo 1)(g:∀G C Z s H,PE (VX X (Vs X [x1,x2] L) scope G C Z s H) elt te)(k:X.calm=true:=by rfl)(M:scope.kind=.function:=by rfl)(R:Ug scope X.env.scope.names X.N L=true:=by rfl)(z:∀x,foldedSetIterable iter X.env x=pure x:=by intro _;rfl)(O:∀F x,foldedSetIterable iter2 F x=pure x:=by intro _ _;rfl):
  PE X (.ListComp elt [⟨.Name x1 p1,iter,[],0⟩,⟨.Name x2 p2,iter2,[],0⟩] scope pos) (Fx L wi wi2 te):=by
 intro A s U H Q I h;rw[eval_ListComp];exact X8 [x1,x2] L t M R z I h λG D C Z r f J b w v B p c N y=>B.loop2 k m T E g O p (λu l d j P S q=>Lk j P S q) c N y
def O5(L:List Nat)(f:X.N.Nodup)(A:X.N[i0]?=some x0)(O:Loc X.env.scope x0)(g:PI X (.Name x1 p1) iter wi)(k:∀G C Z s H,PG (VX X (Vs X [x1,x2] L) scope G C Z s H) (.Name x1 p1)<|Vo 0)(F:∀G C Z s H,PI (VX X (Vs X [x1,x2] L) scope G C Z s H) (.Name x2 p2) iter2 wi2)(S:∀G C Z s H,PG (VX X (Vs X [x1,x2] L) scope G C Z s H) (.Name x2 p2)<|Vo 1)(c:∀G C Z s H,PE (VX X (Vs X [x1,x2] L) scope G C Z s H) elt te)(d:X.calm=true:=by rfl)(M:scope.kind=.function:=by rfl)(E:Ug scope X.env.scope.names X.N L=true:=by rfl)(R:swapsWith (.ListComp elt [⟨.Name x1 p1,iter,[],0⟩,⟨.Name x2 p2,iter2,[],0⟩] scope pos) (some<|.Name x0 py) spos.line X.env=pure true:=by rfl)(p:X.fn x0=true\/X.env.scope.names.lookup x0=some .local:=by first|exact .inl Y|exact .inr Y|assumption)(m:∀x,foldedSetIterable iter X.env x=pure x:=by intro _;rfl)(T:∀P x,foldedSetIterable iter2 P x=pure x:=by intro _ _;rfl):
  PS X (.Assign [.Name x0 py] (.ListComp elt [⟨.Name x1 p1,iter,[],0⟩,⟨.Name x2 p2,iter2,[],0⟩] scope pos) spos) (Ep (Fx L wi wi2 te)<|Vo i0):=by
 intro Q s U H a I h;exact D8 R<|X8 [x1,x2] L g M E m I h λG D C Z o r J n e b B u v N t=>B.loop2 d k F S c T u (λl i w z y j q=>Lj f A O p z y j q) v N t
end
def Te(n:Nat)(L:Nat->List V->Hp->Prop)(t:L 0 [] H)(T:∀i Z H,L i Z H->Z.length<sizeLine)(A:∀i Z H,i<n->L i Z H->J.go i H)(M:∀Z H,L n Z H->J.stop n H)(X:∀i Z H x F (R:List V->Hp->Prop),i<n->L i Z H->J.yld i H x F->(∀G D,L (i+1) G D->R G D)->wi2 (s0.set 0<|some x) F λS D=>∃I:Nat->Nat->List V->Hp->Prop,(∃E,I 0 E Z D)/\∀j E G B,I j E G B->
   G.length<sizeLine/\((S.stop j B/\R G B)\/(S.go j B/\∀y U,S.yld j B y U->te ((s0.set 0<|some x).set 1<|some y) U λv g=>∃O,O<E/\I (j+1) O (G++[v]) g)))(hd:∀Z H p,L n Z H->H p=none->Q (.ref p) (upd H p<|.lst Z)):Dg J wi2 te s0 Q H:=by
 refine⟨λi m Z H=>m=n-i/\i<=n/\L i Z H,⟨n,by simp,Zc _,t⟩,λi m Z H z=>?_⟩;obtain⟨rfl,k,p⟩:=z;exists T i Z H p;rcases jB i n with N|P
 .exact .inr ⟨A i Z H N p,λx F y=>X i Z H x F _ N p y λG D C=>⟨n-(i+1),by omega,rfl,N,C⟩⟩
 .have e:i=n:=by omega
  subst e;exact .inl ⟨M Z H p,λb q=>hd Z H b p q⟩
def NU{M:It}{S:TE}{s1:St}{R:List V->Hp->Prop}(n:Nat)(J:Nat->List V->Hp->Prop)(t:J 0 C H3)(O:∀j Z H,J j Z H->Z.length<sizeLine)(A:∀j Z H,j<n->J j Z H->M.go j H)(G:∀Z H,J n Z H->M.stop n H)(Q:∀j Z H y U (T:V->Hp->Prop),j<n->J j Z H->M.yld j H y U->(∀v B,J (j+1) (Z++[v]) B->T v B)->S (s1.set 1<|some y) U T)(hd:∀Z H,J n Z H->R Z H):
  ∃I:Nat->Nat->List V->Hp->Prop,(∃E,I 0 E C H3)/\∀j E Z D,I j E Z D->
   Z.length<sizeLine/\((M.stop j D/\R Z D)\/(M.go j D/\∀y F,M.yld j D y F->S (s1.set 1<|some y) F λv B=>∃N,N<E/\I (j+1) N (Z++[v]) B)):=by
 refine⟨λj m Z H=>m=n-j/\j<=n/\J j Z H,⟨n,by simp,Zc _,t⟩,λj m Z H z=>?_⟩;obtain⟨rfl,g,p⟩:=z;exists O j Z H p;rcases jB j n with L|q
 .exact .inr ⟨A j Z H L p,λy F X=>Q j Z H y F _ L p X λv B P=>⟨n-(j+1),by omega,rfl,L,P⟩⟩
 .have e:j=n:=by omega
  subst e;exact .inl ⟨G Z H p,hd Z H p⟩
end L2
namespace L2
open PySem PySem.Spec PyProof.Rows
section
def Cg(K:W.Frag):List V->Hp->VK->Prop:=λZ H Q=>∃x T t b,Z=[x,.ty T]/\Xh K H x t/\W.kitOne K t (.type T)=some b/\Q (.bl b) H
def L3:Js X (.builtin "isinstance") (Cg X.K):=by
 intro J s U H L N Q I r h;obtain⟨x,T,t,b,rfl,ty,e,q⟩:=h;obtain⟨u,M,rfl,G,Z⟩:=vals2 r;cases Z;exact FC I G ty e λO=>⟨.bl b,H,I.tok _,Y,q⟩
theorem Tt:∀{Z:kC}{J:kB},Vals (Z.map V.str) J->StrsAre J Z
 |[],_,r=>by cases r;exact .nil
 |y::Z,_,r=>by
  cases r with
  |cons h t=>
   obtain⟨G,e⟩:=h;subst e;exact .cons _ _<|Tt t
def rJoin(K:W.Frag):V->List V->Hp->VK->Prop:=λx J H Q=>∃z p Z,x=.str z/\J=[.ref p]/\SqL K H p (Z.map V.str)/\(Z.map (·.length)).sum+Z.length*z.length<=16777216/\Q (.str<|Txt.join z Z) H
def Pm:MtR X "str.join" (rJoin X.K):=by
 intro Z s U H x B v D Q I J G h;obtain⟨z,p,T,rfl,rfl,R,O,q⟩:=h;obtain⟨t,rfl⟩:=J;obtain⟨u,rfl,L⟩:=vals1 G;cases L;obtain⟨N,r,M,F⟩:=I.list R;exact join_list M.isList (by simpa using Tt r) O λE k=>⟨.str _,H,I.tok _,⟨_,Y⟩,q⟩
def S5:V->List V->Hp->VK->Prop:=λx Z H Q=>∃z y i rest,x=.str z/\Z=[.str y]/\Builtin.Str.occurrences z y 0 z.length 1=i::rest/\Q (.int (i:Nat)) H
def K7:MtR X "str.index" S5:=by
 intro Z s U H x M v N Q I J G h;obtain⟨z,y,i,rest,rfl,rfl,L,q⟩:=h;obtain⟨t,rfl⟩:=J;obtain⟨u,rfl,O,rfl⟩:=vals1 G;exact SC.index L ⟨.int _,H,I.tok _,⟨_,Y⟩,q⟩
def yh:V->Option Int->Option Int->Hp->VK->Prop:=λx Z J H Q=>∃z,x=.str z/\z.length<=sizeLine/\Q (.str<|Txt.slice z Z J) H
def Gk:SlR X yh:=by
 intro J s U H x v g m E C sl Q I B S D T h;obtain⟨z,rfl,A,q⟩:=h;obtain⟨t,rfl⟩:=B;exists "str",_,F.slot_str_getitem.lookup,typeIs_str _ _ _
 have Z:∀(l u:Option (Int×Tok)),l.map (·.1)=E->u.map (·.1)=C->s.heap.IsSlice sl l u none->wpAny (model X.prog X.w) X.A (getItem (.str z t)<|.ref sl) (EP X J U Q) X.xe s:=λl u y P O=>by
  subst y;subst P;exact wpAny_getItem_str_slice O Y (post_val_or_str ⟨Zb (Txt.slice_le z (l.map (·.1))<|u.map (·.1)) A,λp k=>⟨.str _,H,I.tok _,⟨_,rfl⟩,q⟩⟩)
 obtain⟨o,M,L,G⟩:=S
 cases D with
 |none=>
  cases T with
  |none=>exact Z none none Y Y ⟨o,M,L,G⟩
  |int j N=>exact Z none (some (j,N)) Y Y ⟨o,M,L,G⟩
 |int i R=>
  cases T with
  |none=>exact Z (some (i,R)) none Y Y ⟨o,M,L,G⟩
  |int j N=>exact Z (some (i,R)) (some (j,N)) Y Y ⟨o,M,L,G⟩
theorem Ws:∀{Z:List Bool}{J:kB},Vals (Z.map V.bl) J->∀(i:Nat)(v:Value),J[i]?=some v->∃b,Z[i]?=some b/\v=.bool b
 |[],_,r,i,v,e=>by cases r;simp at e
 |b::Z,_,r,i,v,e=>by
  cases r with
  |cons h t=>
   cases i with
   |zero=>
    have G:some _=some v:=e;cases G;exact⟨b,Y,h⟩
   |succ j=>exact Ws t j v e
def all_range:∀(Z:List Bool),((List.range Z.length).all λi=>(Z[i]?).getD true)=Z.all id:=λZ=>by
 have e:((List.range Z.length).map λi=>(Z[i]?).getD true)=Z:=List.ext_getElem (by simp) λi G J=>by simp[J]
 have z:=List.all_map (l:=List.range Z.length) (f:=λi=>(Z[i]?).getD true) (p:=id);rw[e]at z;exact z.symm
def Nk(E:X.calm=true):Js X (.builtin "all") (λM H Q=>∃(p:Addr)(J:List Bool),M=[.ref p]/\SqL X.K H p (J.map V.bl)/\Q (.bl<|J.all id) H):=by
 intro O s U H M C Q I r h;obtain⟨p,J,rfl,T,q⟩:=h;obtain⟨u,rfl,R⟩:=vals1 r;cases R;obtain⟨Z,N,L,P⟩:=I.list T
 have B:p<s.heap.objs.size:=by
  obtain⟨o,n,e,_⟩:=L;exact ZP e
 have G:Z.length=J.length:=by
  have:=N.length;rw[ZA]at this;exact this.symm
 refine call_all_walk<|qk L.isList ?_;exists s.heap.objs.size,_,_,Z.toArray.size,_,_,λi=>(J[i]?).getD true,Y,Walks.list (A:=X.A.in1) (I.ok.hd E) _ p (Ze B) Z.toArray,?_,?_
 .exact ⟨⟨_,ZY _ rfl,rfl,rfl⟩,L.isList.push _⟩
 .intro i v s' Q' E' hP hQ
  obtain⟨b,e,rfl⟩:=Ws N i v (by simpa using hP);have F:(J[i]?).getD true=b:=by rw[e];rfl
  exact vv<|F ▸ hQ
 .intro h' tk hk
  rw[ZO,G,all_range];refine⟨.bl<|J.all id,H,I.kept λb o e=>hk b o (λD=>?_)<|ZE _ e,rfl,q⟩;have S:b=s.heap.objs.size:=by simpa using D
  rw[S]at e;exact vx _<|ZP e
theorem Ww:∀{Z:kL}{J:kB},Z.length=J.length->(∀(j:Nat)(x:V)(u:Value),Z[j]?=some x->J[j]?=some u->RelV x u)->Vals Z J
 |[],[],_,_=>.nil
 |[],_::_,h,_=>Zr h<|by simp
 |_::_,[],h,_=>Zr h<|by simp
 |x::Z,u::J,h,hr=>.cons (hr 0 x u rfl rfl)<|Ww (by simpa using h) λj a b L G=>hr (j+1) a b L G
def U1(b:X.calm=true):Js X (.type "list") (λE H Q=>∃a kvs,E=[.ref a]/\H a=some (.dK kvs)/\∀l,H l=none->Q (.ref l) (upd H l<|.lst<|kvs.map λZ=>kV Z.1)):=by
 intro S s U H E us Q I r h;obtain⟨a,kvs,rfl,e,q⟩:=h;obtain⟨u,rfl,m⟩:=vals1 r;cases m;obtain⟨C,g,F,A,hd⟩:=EX I.hok e;obtain⟨ep,R⟩:=hd.dictAt;have J:=A.length;refine W.kdl_call (W.kdl_dict (knd:=Y9 X.prog X.w) (kvs:=F) (ep:=ep) g) (I.ok.hd b) R (by rw[<-J];exact C) λh' tk D c w v L=>?_;refine⟨.ref s.heap.objs.size,_,I.laid (o:=.lst<|kvs.map λZ=>kV Z.1) w (ZG _) ⟨by rw[ZA];exact C,D.toList,c,?_,by rw[Array.toArray_toList];exact v⟩,rfl,q _<|I.hok.fresh<|ZG _⟩;obtain⟨f,d⟩:=L;refine Ww (by simp[f,J]) λj x u M e2=>?_;obtain⟨k,y,p,O⟩:=d j u (by rw[<-Array.getElem?_toList];exact e2);rw[ZH]at M
 cases hkv:kvs[j]? with
 |none=>rw[hkv]at M;cases M
 |some Z=>
  rw[hkv]at M;cases M;have G:=A.keys;have P:(kvs.map (·.1))[j]?=(F.map (·.1))[j]?:=by rw[G]
  rw[ZH,ZH,hkv,p]at P;have n:Z.1=k:=ZT P;have N:V0 Z.1 u=true:=by rw[n];exact O
  rcases VN N with⟨i,t,B,T⟩|⟨z,t,B,T⟩
  .show RelV (kV Z.1) u
   rw[B,T];exact⟨t,Y⟩
  .show RelV (kV Z.1) u
   rw[B,T];exact⟨t,Y⟩
end
end L2
namespace PySem.W
open PySem PySem.Spec PyProof.Rows
end PySem.W
namespace PySem
open Sem (wp)
section
variable{prog:Program}{w:World}{A:Around}{E:Value->Shared->Prop}{h:Heap}{g:Array GenState}{d:Drawn}{t:Nat}{os:OsState}
variable{nm q:Str}{C N:Addr}{bs bm bmB:List Value}{hdct:Bool}{sn:List Str}{sub:List Value}{ab:Bool}{col:Option Bool}{dd:Option Addr}{k0 k1 k2 k3 k5:Option Value}{B newId initId:String}
end
end PySem
namespace PySem.W
open PySem PySem.Spec PyProof.Rows PySem.Builtin PySem.Builtin.ObjectAttr
end PySem.W
namespace L2
open PySem PySem.Spec PyProof.Rows
end L2
namespace PySem.W
open PySem PySem.Spec PyProof.Rows
end PySem.W
namespace PySem
section
variable{M:Model}{A:Around}{E:Value->Shared->Prop}{env:Env}
variable{nm q:Str}{C N:Addr}{bs bm:List Value}{hdct:Bool}{sn:List Str}{sub:List Value}{ab:Bool}{col:Option Bool}{dd:Option Addr}{k0 k1 k2 k3 k5:Option Value}{newId:String}
end
end PySem
namespace L2
open PySem PySem.Spec PyProof.Rows
def SI(tp:Bool)(h:Heap)(i l:Addr)(k:Nat)(xs:kI):Prop:=match tp with
 |false=>h.IsListIter i l k/\h.IsList l xs
 |true=>h.IsTupleIter i l k/\h.IsTuple l xs
def SI.to(z:SI J h i l k G)(Z:∀b o,(b=i\/b=l)->h.get? b=some o->L.get? b=some o):SI J L i l k G:=by
 cases J with
 |false=>exact⟨let⟨o,e,r⟩:=z.1;⟨o,Z _ _ (.inl Y) e,r⟩,let⟨o,e,r⟩:=z.2;⟨o,Z _ _ (.inr Y) e,r⟩⟩
 |true=>exact⟨let⟨o,e,r⟩:=z.1;⟨o,Z _ _ (.inl Y) e,r⟩,let⟨o,e,r⟩:=z.2;⟨o,Z _ _ (.inr Y) e,r⟩⟩
def SI.but(z:SI G h i l k J)(e:Heap.ExtBut b h L)(N:i≠b)(M:l≠b):SI G L i l k J:=
 z.to λc o Z q=>e c o (by rcases Z with Z|Z <;> rw[Z] <;> assumption) q
def Di{a b:Sem α}{Q:α->Shared->Prop}(Z:c=false)(h:wpAny M A b Q E s):wpAny M A (if c=true then a else b) Q E s:=by
 subst Z
 rwa [Zq (by decide)]
section
def U9(z:SI R s.heap i l k O)(B:l≠i)(D:O[k]?=some x)(I:∀g,SI R g i l (k+1) O->Heap.SameBut i s.heap g->Q x {s with heap:=g}):wpAny (model prog w) A (Builtin.SmallTypes.nextOf<|.ref i) Q E s:=by
 cases R with
 |false=>exact wpAny_nextOf_list_item z.1 z.2 D λg a T=>I g ⟨a,z.2.extBut T.extBut B⟩ T
 |true=>
  obtain⟨G,N⟩:=z;obtain⟨C,J,M,Z⟩:=id G;obtain⟨U,L,_,X,S⟩:=id N;have sn:=F.slot_tuple_iterator_next;simp only[Builtin.SmallTypes.nextOf];refine Zl<|wpAny_callSpecial?_slot (name:=Str.ofString "__next__") G.typeIs sn<|vq sn G.typeIs F.entry_tuple_iterator_next ?_<|F.args_tuple_iterator_next_1 _;refine Zl (m:=field (.ref i) 0)<|Zo J Z (x:=.ref l) rfl (Di (c:=Value.ref l==.none) rfl ?_);refine Zl (m:=field (.ref i) 1)<|Zo J Z (x:=.int k 0) rfl (Zl (m:=seqItems?<|.ref l)<|vz L S ?_);simp only[D,vV];refine Zl<|wpAny_setField J Z (by simp)<|Zm ⟨x,rfl,Zm<|I _ ⟨?_,?_⟩<|Heap.SameBut.update ..⟩
  .refine ⟨_,Heap.get?_update_self _ J<|Obj.isFreed_of_fields<|Obj.data_mapFields Z _,(Obj.cls_mapFields ..).trans M,?_⟩
   rw[Obj.data_mapFields Z];simp[rawInt]
  .exact N.extBut (Heap.SameBut.update ..).extBut B
def ME(N:A.handled=none)(z:SI B s.heap i l k T)(M:T[k]?=none)(O:∀g e,Heap.ExtBut i s.heap g->(∃o,g.get? e=some o/\o.cls=.type "StopIteration")->E (.ref e) {s with heap:=g}):wpAny (model prog w) A (Builtin.SmallTypes.nextOf<|.ref i) Q E s:=by
 cases B with
 |false=>exact wpAny_nextOf_list_end N z.1 z.2 M O
 |true=>
  obtain⟨G,R⟩:=z;obtain⟨C,Z,S,J⟩:=id G;obtain⟨U,L,_,X,I⟩:=id R;have sn:=F.slot_tuple_iterator_next;simp only[Builtin.SmallTypes.nextOf];refine Zl<|wpAny_callSpecial?_slot (name:=Str.ofString "__next__") G.typeIs sn<|vq sn G.typeIs F.entry_tuple_iterator_next ?_<|F.args_tuple_iterator_next_1 _;refine Zl (m:=field (.ref i) 0)<|Zo Z J (x:=.ref l) rfl (Di (c:=Value.ref l==.none) rfl ?_);refine Zl (m:=field (.ref i) 1)<|Zo Z J (x:=.int k 0) rfl (Zl (m:=seqItems?<|.ref l)<|vz L I ?_);simp only[M,vV];refine Zl (jD<|Zl<|wpAny_setField Z J (by simp) ?_);refine Zl (m:=newExc (.type "StopIteration") []) ?_;simp only[newExc,newTuple];refine Zl (vS (Zl (m:=firstArgMember _ _)<|jw (a:=.none) (by simp only[firstArgMember];rfl)<|vS ?_<|by size_fits)<|by size_fits);have D:A.in1.handled=none:=N;simp only[raiseNew];refine Zl<|wpAny_handled<|?_;rw[D];exact Zl<|Zm<|wpAny_throw<|O _ _ (((Heap.SameBut.update ..).extBut.push _).push _) ⟨_,ZY _ rfl,rfl⟩
structure ZS(h:Heap)(z TI TO:Addr)(f0:Value)(t1:Bool)(i1 l1:Addr)(xs:Array Value)(t2:Bool)(i2 l2:Addr)(ys:Array Value)(k:Nat):Prop where
 zip:IsZip h z TI TO f0
 its:IsPair h TI (.ref i1) (.ref i2)
 out:∃a b,IsPair h TO a b
 one:SI t1 h i1 l1 k xs
 two:SI t2 h i2 l2 k ys
def Dh{z TI TO G J j I:Addr}(D:ZipApart z TI TO G J j I)(S:ZS s.heap z TI TO .none t1 G j d t2 J I X k)(hx:d[k]?=some x)(hy:X[k]?=some y)(hQ:∀g,ZS g z TI TO (rawInt s.heap.objs.size) t1 G j d t2 J I X (k+1)->IsPair g s.heap.objs.size x y->g.objs.size=s.heap.objs.size+1->
   (∀c o,c≠z->c≠TO->c≠G->c≠J->s.heap.get? c=some o->g.get? c=some o)->Q (some<|.ref s.heap.objs.size) {s with heap:=g}):wpAny (model prog w) A (pyNext<|.ref z) Q E s:=by
 have hT:s.TypeIs (.ref z) "zip":=⟨_,S.zip,rfl⟩;obtain⟨a,b,So⟩:=S.out;simp only[pyNext];refine Zl<|jZ<|wpAny_callSpecial?_slot (name:=Str.ofString "__next__") hT jj<|vq jj hT qA ?_<|qu _;refine Zl (m:=field (.ref z) 2)<|Zo S.zip rfl (x:=.bool false) rfl (Zl (m:=field (.ref z) 3)<|Zo S.zip rfl (x:=.ref TI) rfl (Zl<|vz S.its rfl ?_));refine Zl (m:=Builtin.SmallTypes.ownedTupleIsFree<|.ref z)<|Zl (m:=field (.ref z) 0)<|Zo S.zip rfl (x:=.none) rfl (Zm ?_);simp only[if_true];refine Zl (jD<|Zl<|Zo S.zip rfl (x:=.ref TO) rfl (Zl<|vk S.zip (by simp) λg1 p s1=>Zl ?_));replace p:IsZip g1 z TI TO .ellipsis:=p;simp only[jG,qB,List.zipIdx_cons,List.zipIdx_nil];refine Zl<|Zl<|wpAny_onRaise (?_:wpAny _ _ (Builtin.SmallTypes.nextOf (.ref G) >>=_) _ _ _);refine Zl<|U9 (S.one.but s1.extBut D.i1z D.l1z) D.l1i1 hx λg2 a2 F=>Zm ?_;have o2:IsPair g2 TO a b:=F.extBut _ _ D.TOi1<|s1.extBut _ _ D.TOz So;refine Zl<|vz o2 rfl ?_;refine Zl<|qU o2 λg3 v B=>?_;replace v:IsPair g3 TO x b:=v;refine Zl<|wpAny_letGo<|Zm<|Zl<|Zl<|wpAny_onRaise (?_:wpAny _ _ (Builtin.SmallTypes.nextOf (.ref J) >>=_) _ _ _);have b3:SI t2 g3 J I k X:=((S.two.but s1.extBut D.i2z D.l2z).but F.extBut D.i12.symm D.l2i1).but B.extBut D.TOi2.symm D.l2TO;refine Zl<|U9 b3 D.l2i2 hy λg4 b4 T=>Zm ?_;have o4:IsPair g4 TO x b:=T.extBut _ _ D.TOi2 v;refine Zl<|vz o4 rfl ?_;refine Zl<|qU o4 λZ P R=>?_;replace P:IsPair Z TO x y:=P;refine Zl<|wpAny_letGo<|Zm<|Zm<|Zl<|vz P rfl (Zl<|wpAny_newTuple ?_);have sz:Z.objs.size=s.heap.objs.size:=by rw[R.1,T.1,B.1,F.1,s1.1]
 have h:IsZip Z z TI TO .ellipsis:=R.extBut _ _ D.TOz.symm<|T.extBut _ _ D.i2z.symm<|B.extBut _ _ D.TOz.symm<|F.extBut _ _ D.i1z.symm p
 have k5:∀c o,c≠z->c≠TO->c≠G->c≠J->s.heap.get? c=some o->Z.get? c=some o:=λc o L c2 i l e=>
  R.extBut _ _ c2 (T.extBut _ _ l<|B.extBut _ _ c2<|F.extBut _ _ i<|s1.extBut _ _ L e)
 have a5:SI t1 Z G j (k+1) d:=((a2.but B.extBut D.TOi1.symm D.l1TO).but T.extBut D.i12 D.l1i2).but R.extBut D.TOi1.symm D.l1TO;have b5:SI t2 Z J I (k+1) X:=b4.but R.extBut D.TOi2.symm D.l2TO;have M:z<Z.objs.size:=ZP h;show wpAny _ _ (Builtin.SmallTypes.ownedTupleHandOut (.ref z) (.ref Z.objs.size) >>=_) _ _ _;refine Zl ?_;simp only[Builtin.SmallTypes.ownedTupleHandOut];have z6:IsZip (Z.push {cls:=.type "tuple",data:=.seq #[x,y]}) z TI TO .ellipsis:=ZE _ h;refine Zl<|vk z6 (by simp) λg7 t u=>?_;replace t:IsZip g7 z TI TO (rawInt Z.objs.size):=t;refine vk t (by simp) λU C f=>?_;replace C:IsZip U z TI TO (rawInt Z.objs.size):=C;have N:∀c o,c≠z->Z.get? c=some o->U.get? c=some o:=λc o L e=>f.extBut _ _ L<|u.extBut _ _ L<|ZE _ e;have n:IsPair U Z.objs.size x y:=f.extBut _ _ (jg M)<|u.extBut _ _ (jg M)<|ZY _ rfl;have O:U.objs.size=Z.objs.size+1:=by rw[f.1,u.1,vX]
 rw[sz]at C n O;refine Zm ⟨_,Y,Zm ?_⟩;show Q (some<|.ref Z.objs.size) _;rw[sz];refine hQ U ⟨C,N _ _ D.TIz<|k5 _ _ D.TIz D.TITO D.TIi1 D.TIi2 S.its,⟨_,_,N _ _ D.TOz P⟩,?_,?_⟩ n O λc o L c2 i l e=>N c o L<|k5 c o L c2 i l e
 .exact a5.to λc o r e=>N c o (r.elim (λq=>q ▸ D.i1z) λq=>q ▸ D.l1z) e
 .exact b5.to λc o r e=>N c o (r.elim (λq=>q ▸ D.i2z) λq=>q ▸ D.l2z) e
def Fa{z TI TO N M v C:Addr}(r:A.handled=none)(D:ZipApart z TI TO N M v C)(S:ZS s.heap z TI TO .none t1 N v d t2 M C I k)(O:d[k]?=none\/I[k]?=none)(hQ:∀g,(∀c o,c≠z->c≠TO->c≠N->c≠M->s.heap.get? c=some o->g.get? c=some o)->Q none {s with heap:=g}):wpAny (model prog w) A (pyNext<|.ref z) Q E s:=by
 have l:s.TypeIs (.ref z) "zip":=⟨_,S.zip,rfl⟩;obtain⟨a,b,So⟩:=S.out;have stop:∀(g:Heap)(e:Addr),(∀c o,c≠z->c≠TO->c≠N->c≠M->s.heap.get? c=some o->g.get? c=some o)->(∃o,g.get? e=some o/\o.cls=.type "StopIteration")->
   wpAny (model prog w) A (do if(<-isInstance (.ref e) (.type "StopIteration"))then pure none else throw (.ref e):Sem (Option Value)) Q E {s with heap:=g}:=λg e n ⟨o,ho,hc⟩=>
  Zl (jY (T:="StopIteration") (b:=true) ⟨o,ho,hc⟩ isSubtype_stop<|Zm<|hQ g n)
 simp only[pyNext];refine Zl<|jZ<|wpAny_callSpecial?_slot (name:=Str.ofString "__next__") l jj<|vq jj l qA ?_<|qu _;refine Zl (m:=field (.ref z) 2)<|Zo S.zip rfl (x:=.bool false) rfl (Zl (m:=field (.ref z) 3)<|Zo S.zip rfl (x:=.ref TI) rfl (Zl<|vz S.its rfl ?_));refine Zl (m:=Builtin.SmallTypes.ownedTupleIsFree<|.ref z)<|Zl (m:=field (.ref z) 0)<|Zo S.zip rfl (x:=.none) rfl (Zm ?_);simp only[if_true];refine Zl (jD<|Zl<|Zo S.zip rfl (x:=.ref TO) rfl (Zl<|vk S.zip (by simp) λg1 B s1=>Zl ?_));replace B:IsZip g1 z TI TO .ellipsis:=B;simp only[jG,qB,List.zipIdx_cons,List.zipIdx_nil];refine Zl<|Zl<|wpAny_onRaise (?_:wpAny _ _ (Builtin.SmallTypes.nextOf (.ref N) >>=_) _ _ _)
 cases hx:d[k]? with
 |none=>
  refine Zl<|ME r (S.one.but s1.extBut D.i1z D.l1z) hx λj e h X=>?_;obtain⟨U,Z,J⟩:=X;have p:IsZip j z TI TO .ellipsis:=h _ _ D.i1z.symm B;have G:e≠z:=λq=>by subst q;rw[p]at Z;cases Z;simp at J
  refine vk p (by simp) λP _ L=>?_;exact stop P e (λc o R _ y _ q=>L.extBut _ _ R<|h _ _ y<|s1.extBut _ _ R q) ⟨U,L.extBut _ _ G Z,J⟩
 |some x=>
  have hy:I[k]?=none:=by rcases O with q|q;rw[hx]at q;cases q;exact q
  refine Zl<|U9 (S.one.but s1.extBut D.i1z D.l1z) D.l1i1 hx λj a2 F=>Zm ?_;have u:IsPair j TO a b:=F.extBut _ _ D.TOi1<|s1.extBut _ _ D.TOz So;refine Zl<|vz u rfl ?_;refine Zl<|qU u λP o3 L=>?_;refine Zl<|wpAny_letGo<|Zm<|Zl<|Zl<|wpAny_onRaise (?_:wpAny _ _ (Builtin.SmallTypes.nextOf (.ref M) >>=_) _ _ _);have b3:SI t2 P M C k I:=((S.two.but s1.extBut D.i2z D.l2z).but F.extBut D.i12.symm D.l2i1).but L.extBut D.TOi2.symm D.l2TO;refine Zl<|ME r b3 hy λg4 e i X=>?_;obtain⟨U,Z,J⟩:=X;have t:IsZip g4 z TI TO .ellipsis:=i _ _ D.i2z.symm<|L.extBut _ _ D.TOz.symm<|F.extBut _ _ D.i1z.symm B;have G:e≠z:=λq=>by subst q;rw[t]at Z;cases Z;simp at J
  refine vk t (by simp) λg5 _ f=>?_;exact stop g5 e (λc o R c2 y c4 q=>f.extBut _ _ R<|i _ _ c4<|L.extBut _ _ c2<|F.extBut _ _ y<|s1.extBut _ _ R q) ⟨U,f.extBut _ _ G Z,J⟩
def Wk(tp:Bool)(h:Heap)(l:Addr)(xs:kI):Prop:=match tp with
 |false=>h.IsList l xs
 |true=>h.IsTuple l xs
def Ja(tp:Bool)(l:Addr):Obj:={cls:=.type<|if tp then "tuple_iterator" else "list_iterator",data:=.fields #[.ref l,.int 0 0]}
def W4(h:Wk Z s.heap l J)(q:Q (.ref s.heap.objs.size) {s with heap:=s.heap.push (Ja Z l)}):wpAny (model prog w) A (pyIter<|.ref l) Q E s:=by
 cases Z with
 |false=>exact qk h q
 |true=>exact wpAny_pyIter_tuple h q
def Wk.push(z:Wk Z h l J)(o:Obj):Wk Z (h.push o) l J:=by
 cases Z with
 |false=>exact Heap.IsList.push z o
 |true=>exact Heap.IsTuple.push z o
end
abbrev zg1(h:Heap)(t1:Bool)(l1:Addr):Heap:=h.push (Ja t1 l1)
abbrev zg2(h:Heap)(t1:Bool)(l1:Addr)(t2:Bool)(l2:Addr):Heap:=(zg1 h t1 l1).push (Ja t2 l2)
abbrev zg3(h:Heap)(t1:Bool)(l1:Addr)(t2:Bool)(l2:Addr):Heap:=(zg2 h t1 l1 t2 l2).push {cls:=.type "tuple",data:=.seq #[.ref h.objs.size,.ref (zg1 h t1 l1).objs.size]}
abbrev zg4(h:Heap)(t1:Bool)(l1:Addr)(t2:Bool)(l2:Addr):Heap:=(zg3 h t1 l1 t2 l2).push {cls:=.type "tuple",data:=.seq #[.none,.none]}
abbrev zg5(h:Heap)(t1:Bool)(l1:Addr)(t2:Bool)(l2:Addr):Heap:=(zg4 h t1 l1 t2 l2).push {cls:=.type "zip",data:=.fields #[.none,.bool false,.bool false,.ref (zg2 h t1 l1 t2 l2).objs.size,.ref (zg3 h t1 l1 t2 l2).objs.size]}
def Nu(J L:Bool)(Z G:Addr)(N M:kI):
  Meets (Builtin.«zip.__new__» ⟨[.type "zip",.ref Z,.ref G],[]⟩) (λ_ R s=>Wk J s.heap Z N/\Wk L s.heap G M/\
   R (.ok<|.ret<|.ref (zg4 s.heap J Z L G).objs.size) {s with heap:=zg5 s.heap J Z L G}):=
 .of_wp λT w A R s h=>by
  obtain⟨E,g,d,O,B⟩:=s;obtain⟨U,S,h⟩:=h;have D:=sub_zip;have I:Wk J (Shared.heap ⟨E,g,d,O,B⟩) Z N:=U;have F:Wk L (Shared.heap ⟨E.push<|Ja J Z,g,d,O,B⟩) G M:=Wk.push S _
  wp_walk using W4 I,W4 F
  exact⟨_,Y,h⟩
def SJ(tp:Bool)(h:Heap)(i l:Addr)(k:Nat):Prop:=match tp with
 |false=>h.IsListIter i l k
 |true=>h.IsTupleIter i l k
def SJ.si(z:SJ Z h i l k)(c:Wk Z h l J):SI Z h i l k J:=by
 cases Z <;> exact⟨z,c⟩
def SI.sj(z:SI Z h i l k J):SJ Z h i l k:=by
 cases Z <;> exact z.1
def SJ.to(z:SJ Z h i l k)(J:∀o,h.get? i=some o->G.get? i=some o):SJ Z G i l k:=by
 cases Z with
 |false=>exact let⟨o,e,r⟩:=z;⟨o,J _ e,r⟩
 |true=>exact let⟨o,e,r⟩:=z;⟨o,J _ e,r⟩
def SJ.obj(z:SJ Z h i l k):∃o,h.get? i=some o/\∀v,o.data≠.cell v:=by
 cases Z with
 |false=>obtain⟨o,e,_,d⟩:=z;exact⟨o,e,λv q=>by rw[d]at q;cases q⟩
 |true=>obtain⟨o,e,_,d⟩:=z;exact⟨o,e,λv q=>by rw[d]at q;cases q⟩
def SJ.new(Z:Bool)(h:Heap)(l:Addr):SJ Z (h.push<|Ja Z l) h.objs.size l 0:=by
 cases Z <;> exact⟨_,ZY _ Y,Y,Y⟩
structure ZR(h:Heap)(z TI TO:Addr)(t1:Bool)(i1 l1:Addr)(t2:Bool)(i2 l2:Addr)(k:Nat):Prop where
 zip:IsZip h z TI TO .none
 its:IsPair h TI (.ref i1) (.ref i2)
 out:∃a b,IsPair h TO a b
 one:SJ t1 h i1 l1 k
 two:SJ t2 h i2 l2 k
section
def Nj(U:Wk t1 s.heap l1 D)(S:Wk t2 s.heap l2 B)(h:∀g,ZR g (s.heap.objs.size+4) (s.heap.objs.size+2) (s.heap.objs.size+3) t1 s.heap.objs.size l1 t2 (s.heap.objs.size+1) l2 0->
   (∀c o,s.heap.get? c=some o->g.get? c=some o)->Q (.ref<|s.heap.objs.size+4) {s with heap:=g}):wpAny (model prog w) A (call (.type "zip") [.ref l1,.ref l2]) Q E s:=by
 refine callType_new F.called_zip (by decide) (F.typeCall_zip_2 _ _) (F.newCall_zip_2 _ _) (λJ=>F.args_object_init_3 J _ _) F.entry_zip_new (Nu t1 t2 l1 l2 D B) ⟨U,S,?_⟩;have M:(zg1 s.heap t1 l1).objs.size=s.heap.objs.size+1:=vX ..;have L:(zg2 s.heap t1 l1 t2 l2).objs.size=s.heap.objs.size+2:=by rw[vX,M]
 have G:(zg3 s.heap t1 l1 t2 l2).objs.size=s.heap.objs.size+3:=by rw[vX,L]
 have T:(zg4 s.heap t1 l1 t2 l2).objs.size=s.heap.objs.size+4:=by rw[vX,G]
 have Z:(zg5 s.heap t1 l1 t2 l2).get? (zg4 s.heap t1 l1 t2 l2).objs.size=some _:=ZY _ rfl;have N:(zg5 s.heap t1 l1 t2 l2).get? (zg3 s.heap t1 l1 t2 l2).objs.size=some _:=ZE _<|ZY _ rfl;have O:(zg5 s.heap t1 l1 t2 l2).get? (zg2 s.heap t1 l1 t2 l2).objs.size=some _:=ZE _<|ZE _<|ZY _ rfl;have R:SJ t2 (zg5 s.heap t1 l1 t2 l2) (zg1 s.heap t1 l1).objs.size l2 0:=(SJ.new t2 (zg1 s.heap t1 l1) l2).to λo q=>ZE _<|ZE _<|ZE _ q;have I:SJ t1 (zg5 s.heap t1 l1 t2 l2) s.heap.objs.size l1 0:=(SJ.new t1 s.heap l1).to λo q=>ZE _<|ZE _<|ZE _<|ZE _ q;show _/\_;rw[L,G,T]at Z;rw[M,L]at O;rw[G]at N;rw[M]at R;rw[T]
 exact⟨⟨_,Z,Y⟩,h _ ⟨Z,O,⟨_,_,N⟩,I,R⟩ λc o q=>
  ZE _ (ZE _<|ZE _<|ZE _<|ZE _ q)⟩
end
def Sq(K:W.Frag)(tp:Bool)(H:Hp)(l:Addr)(xs:kL):Prop:=match tp with
 |false=>SqL K H l xs
 |true=>SqT K H l xs
def Inv.sq(I:Inv X G U H s)(h:Sq X.K J H l L):∃Z:kB,Vals L Z/\Wk J s.heap l Z.toArray:=by
 cases J with
 |false=>
  obtain⟨Z,r,p,_⟩:=I.list h;exact⟨Z,r,p.isList⟩
 |true=>
  obtain⟨Z,r,p,_⟩:=I.tuple h;exact⟨Z,r,p⟩
def Inv.sq_inj(I:Inv X J U H s)(h:Sq X.K Z H l M)(G:Sq X.K Z H l L):M=L:=by
 cases Z with
 |false=>exact I.list_inj h G
 |true=>exact I.tuple_inj h G
def Wk.lt(z:Wk Z h l J):l<h.objs.size:=by
 cases Z with
 |false=>obtain⟨_,e,_⟩:=z;exact ZP e
 |true=>obtain⟨_,e,_⟩:=z;exact ZP e
def Itz(K:W.Frag)(t1:Bool)(l1:Addr)(t2:Bool)(l2:Addr):It:=
  ⟨λi H=>∃J Z x y,Sq K t1 H l1 J/\Sq K t2 H l2 Z/\J[i]?=some x/\Z[i]?=some y,
   λi H v G=>∃p x y,v=.ref p/\H p=none/\G=upd H p (.tup [x,y])/\(∀J,Sq K t1 H l1 J->J[i]?=some x)/\∀Z,Sq K t2 H l2 Z->Z[i]?=some y,
   λi H=>∃J Z,Sq K t1 H l1 J/\Sq K t2 H l2 Z/\(J.length<=i\/Z.length<=i)⟩
def RS:bootBuiltins "zip"=some (.type "zip"):=by decide +kernel
def Inv.turnedL{ch:kF}(I:Inv X Z U H s)(k:∀b o,b∉ch->s.heap.get? b=some o->O.get? b=some o)(f:∀b∈ch,UA X Z H b):
  Inv X Z U H {s with heap:=O,toks:=t'}:=by
 have L:∀b u,H b=some u->b∉ch:=λb u e z=>by rw[(f b z).1]at e;cases e
 have M:X.env.locals∉ch:=λz=>(f _ z).2.1 rfl;refine I.step (g':=s.gens) (d':=s.drawn) (ch:=ch) (λb G=>⟨(f b G).2.2.2.1,(f b G).2.1,(f b G).2.2.2.2.1,(f b G).2.2.2.2.2⟩) (λb o _ _ J e _=>k b o J e) (λb o _ _ J e _=>⟨o.slots,k b o J e⟩) (λ_ _ _ _ n=>n)
  (λb o J e=>⟨o,k b o J e⟩) (λ_ _ e=>e) (λ_ _ _ e=>e) (λb R e=>⟨#[],by rw[e];simp⟩) (λm N=>?_) (λb u e=>?_) I.bare
 .obtain ⟨o,es,ep,ho,r⟩:=N
  exact⟨o,es,ep,k _ o M ho,r⟩
 .refine (I.hok b u e).stay (λc v J q=>k c v ?_ q) (λ_ q=>q) λ_ _ q=>q
  rcases J with z|z
  .rw [z];exact L b u e
  .exact L c _ z
def zJ{a b c d x:Addr}(h:x∈ [a,b,c,d]):x=a\/x=b\/x=c\/x=d:=by simpa using h
def Fs{P:Program}{w:World}{K:W.Frag}{B:kW}{x1}{r:Pos}{z TI TO L G l1 l2:Addr}{t1 t2:Bool}(D:ZipApart z TI TO L G l1 l2):
  Turn P w K (.Tuple B x1 r) (Itz K t1 l1 t2 l2) [z,TO,L,G,TI] z (λi h=>ZR h z TI TO t1 L l1 t2 G l2 i) where
 mem:=by simp
 obj:=λi h st b Z=>by
  have q:b=z\/b=TO\/b=L\/b=G\/b=TI:=by simpa using Z
  rcases q with q|q|q|q|q <;> rw[q]
  .exact ⟨_,st.zip,λv e=>nomatch e⟩
  .obtain ⟨a,b,e⟩:=st.out
   exact⟨_,e,λv e=>nomatch e⟩
  .exact st.one.obj
  .exact st.two.obj
  .exact ⟨_,st.its,λv e=>nomatch e⟩
 keep:=λi h h' st k=>⟨k z (by simp) _ st.zip,k TI (by simp) _ st.its,let⟨a,b,e⟩:=st.out;⟨a,b,k TO (by simp) _ e⟩,st.one.to λo e=>k L (by simp) o e,st.two.to λo e=>k G (by simp) o e⟩
 item:=by
  intro X hP hw hK hc i J s U H E I C st hg;subst hP hw hK;obtain⟨xs,ys,x,y,S,A,hx,hy⟩:=hg;obtain⟨R,u,j⟩:=I.sq S;obtain⟨O,d,Q⟩:=I.sq A;obtain⟨m,G2,c⟩:=u.get hx;obtain⟨t,G1,p⟩:=d.get hy;refine Dh D ⟨st.zip,st.its,st.out,st.one.si j,st.two.si Q⟩ (x:=m) (y:=t) (by simpa using G2) (by simpa using G1) λg F hp sz kp=>?_
  have f:∀b∈ [z,TO,L,G],UA X J H b:=λb Z=>C b (by
   rcases zJ Z with q|q|q|q <;> rw[q] <;> simp)
  have J2:∀b o,b ∉ [z,TO,L,G]->s.heap.get? b=some o->g.get? b=some o:=λb o Z e=>kp b o (λq=>Z<|by simp[q]) (λq=>Z<|by simp[q]) (λq=>Z<|by simp[q]) (λq=>Z<|by simp[q]) e;have I1:Inv X J U H {s with heap:=g}:=I.turnedL (t':=s.toks) J2 f;have hn:H s.heap.objs.size=none:=I.hok.fresh<|ZG _;have N:z<s.heap.objs.size:=ZP st.zip;exists _,Y;refine wpAny_letOwnedTupleGo_zip (s:={s with heap:=g}) F.zip λg2 z2 M=>?_
  have I2:Inv X J U H {s with heap:=g2}:=I1.turnedL (s:={s with heap:=g}) (t':=s.toks) (ch:=[z]) (λb o Z e=>M.extBut b o (λq=>Z<|by simp[q]) e) λb Z=>by
   have q:b=z:=by simpa using Z
   rw[q];exact f z<|by simp
  have l:IsPair g2 s.heap.objs.size m t:=M.extBut _ _ (jg N) hp;have I3:Inv X J U (upd H s.heap.objs.size<|.tup [x,y]) {s with heap:=g2}:=I2.retrack hn (I.fpOk (ZG _) hn) ⟨sl 2,[m,t],.cons c<|.cons p .nil,⟨_,l,rfl,rfl,_,rfl⟩⟩
  have n:∀b∈ [z,TO,L,G,TI],b<s.heap.objs.size:=λb Z=>by
   have q:b=z\/b=TO\/b=L\/b=G\/b=TI:=by simpa using Z
   rcases q with q|q|q|q|q <;> rw[q]
   .exact N
   .obtain ⟨a,b,e⟩:=st.out
    exact ZP e
   .obtain ⟨o,e,_⟩:=st.one.obj
    exact ZP e
   .obtain ⟨o,e,_⟩:=st.two.obj
    exact ZP e
   .exact ZP st.its
  refine⟨.ref s.heap.objs.size,_,I3,Y,⟨_,x,y,Y,hn,Y,λzs h=>by rw[I.sq_inj h S];exact hx,λzs h=>by rw[I.sq_inj h A];exact hy⟩,?_,λb Z=>?_⟩
  .refine ⟨z2,M.extBut _ _ D.TIz F.its,let⟨a,b,e⟩:=F.out;⟨a,b,M.extBut _ _ D.TOz e⟩,F.one.sj.to λo e=>M.extBut _ _ D.i1z e,F.two.sj.to λo e=>M.extBut _ _ D.i2z e⟩
  .rw [Yg (Ze<|n b Z)]
   exact(C b Z).1
 done:=by
  intro X hP hw hK hc i J s U H E I C st hg;subst hP hw hK;obtain⟨xs,ys,S,A,T⟩:=hg;obtain⟨R,u,j⟩:=I.sq S;obtain⟨O,d,Q⟩:=I.sq A;have e1:=u.length;have e2:=d.length;refine Fa (I.ok.hd hc) D ⟨st.zip,st.its,st.out,st.one.si j,st.two.si Q⟩ ?_ λg kp=>⟨Y,?_⟩
  .rcases T with q|q
   .exact .inl (by simp;omega)
   .exact .inr (by simp;omega)
  .refine I.turnedL (t':=s.toks) (ch:=[z,TO,L,G]) (λb o Z e=>kp b o (λq=>Z<|by simp[q]) (λq=>Z<|by simp[q]) (λq=>Z<|by simp[q]) (λq=>Z<|by simp[q]) e) λb Z=>C b (by
    rcases zJ Z with q|q|q|q <;> rw[q] <;> simp)
 self:=λ_ _ _ _ _ st h=>wpAny_pyIter_zip st.zip h
def zap(n J Z:Nat)(M:J<n)(L:Z<n):ZipApart (n+4) (n+2) (n+3) n (n+1) J Z:=by
 constructor <;> (intro q;have G:(_:Nat)=_:=q;omega)
def yw(K:W.Frag)(ta:TA):TI:=λU H R=>ta U H λN Z=>∃a b G J M L,N=[.ref a,.ref b]/\Sq K G Z a M/\Sq K J Z b L/\R (Itz K G a J b) Z
def S8(d:Gl X "zip")(c:X.mg "zip"=none)(v:PA X [a,b] ta)(k:starEach [a,b] X.env=[(false,eval a X.env),(false,eval b X.env)]:=by rfl)(J:starEach [b] X.env=[(false,eval b X.env)]:=by rfl):PI X (.Tuple elts x1 tpos) (.Call (.Name "zip" p) [a,b] [] pos) (yw X.K ta):=by
 intro Z s U H R I h;refine Call_ (UN I d c RS<|vo (thn (v pos Z s U H _ I h) λn s1 ⟨i,F,L,Q,N⟩=>?_) (by rw[k,J]) (by rw[J];rfl));obtain⟨l1,l2,t1,x,l,r,e,N,j,q⟩:=N;subst e;obtain⟨u,o,rfl,A,M⟩:=vals2 Q;cases A;cases M;obtain⟨E,P,T⟩:=L.sq N;obtain⟨B,C,O⟩:=L.sq j;have t:=T.lt;have y:=O.lt;refine Nj T O λg S m=>?_;refine wpAny_pyIter_zip (s:={s1 with heap:=g}) S.zip ?_;have D:=zap _ _ _ t y;have w:Inv X Z U F {s1 with heap:=g}:=L.kept (t':=s1.toks) m;refine⟨_,[s1.heap.objs.size+4,s1.heap.objs.size+3,s1.heap.objs.size,s1.heap.objs.size+1,s1.heap.objs.size+2],_,_,F,Y,w,Fs D,S,λb f=>?_,q⟩
 have G:s1.heap.objs.size<=b:=by
  have z:b=s1.heap.objs.size+4\/b=s1.heap.objs.size+3\/b=s1.heap.objs.size\/b=s1.heap.objs.size+1\/b=s1.heap.objs.size+2:=by simpa using f
  rcases z with z|z|z|z|z <;> rw[z] <;> first|exact ZG _|exact vU _ _
 exact L.fpOk G<|L.hok.fresh G
inductive Dat where
 |non|bl (b:Bool)|int (i:Int)|str (x:Str)|tup (ds:List Dat)|lst (ds:List Dat)
abbrev kQ:=List Dat
mutual
def Has(H:Hp):V->Dat->Prop
 |v,.non=>v=.non
 |v,.bl b=>v=.bl b
 |v,.int i=>v=.int i
 |v,.str x=>v=.str x
 |v,.tup ds=>∃a xs,v=.ref a/\H a=some (.tup xs)/\HasL H xs ds
 |v,.lst ds=>∃a xs,v=.ref a/\H a=some (.lst xs)/\HasL H xs ds
def HasL(H:Hp):List V->List Dat->Prop
 |[],[]=>True
 |x::xs,d::ds=>Has H x d/\HasL H xs ds
 |_::_,[]=>False
 |[],_::_=>False
end
mutual
theorem Has.mono{H M:Hp}(e:Same H M):∀(d:Dat){v:V},Has H v d->Has M v d
 |.non,_,h=>by unfold Has at h |-;exact h
 |.bl _,_,h=>by unfold Has at h |-;exact h
 |.int _,_,h=>by unfold Has at h |-;exact h
 |.str _,_,h=>by unfold Has at h |-;exact h
 |.tup ds,_,h=>by
  unfold Has at h |-;obtain⟨a,Z,L,G,J⟩:=h;exact⟨a,Z,L,e _ _ G,HasL.mono e ds J⟩
 |.lst ds,_,h=>by
  unfold Has at h |-;obtain⟨a,Z,L,G,J⟩:=h;exact⟨a,Z,L,e _ _ G,HasL.mono e ds J⟩
theorem HasL.mono{H G:Hp}(e:Same H G):∀(Z:kQ){J:kL},HasL H J Z->HasL G J Z
 |[],[],h=>by unfold HasL;trivial
 |[],_::_,h=>by unfold HasL at h;exact h.elim
 |_::_,[],h=>by unfold HasL at h;exact h.elim
 |d::Z,x::J,h=>by
  unfold HasL at h |-;exact⟨Has.mono e d h.1,HasL.mono e Z h.2⟩
end
theorem HasL.length:∀{J:kQ}{Z:kL},HasL H Z J->Z.length=J.length
 |[],[],h=>rfl
 |[],_::_,h=>by unfold HasL at h;exact h.elim
 |_::_,[],h=>by unfold HasL at h;exact h.elim
 |d::J,x::Z,h=>by
  unfold HasL at h;rw[Zf,Zf,HasL.length h.2]
theorem HasL.get:∀{J:kQ}{Z:kL}{i:Nat}{x:V},HasL H Z J->Z[i]?=some x->∃d,J[i]?=some d/\Has H x d
 |[],[],i,x,h,e=>by simp at e
 |[],_::_,_,_,h,_=>by unfold HasL at h;exact h.elim
 |_::_,[],_,_,h,_=>by unfold HasL at h;exact h.elim
 |d::J,y::Z,0,x,h,e=>by
  unfold HasL at h;have G:some y=some x:=e;cases G;exact⟨d,Y,h.1⟩
 |d::J,y::Z,i+1,x,h,e=>by
  unfold HasL at h;exact HasL.get (i:=i) h.2 e
theorem HasL.append:∀{L G:kQ}{J Z:kL},HasL H J L->HasL H Z G->HasL H (J++ Z) (L++ G)
 |[],_,[],_,_,h=>h
 |[],_,_::_,_,h,_=>by unfold HasL at h;exact h.elim
 |_::_,_,[],_,h,_=>by unfold HasL at h;exact h.elim
 |d::L,G,x::J,Z,h,h'=>by
  unfold HasL at h;show HasL H (x::(J++ Z)) (d::(L++ G));unfold HasL;exact⟨h.1,HasL.append h.2 h'⟩
abbrev Z7:=@HasL.append
def HasL.one(h:Has H x d):HasL H [x] [d]:=by
 unfold HasL;exact⟨h,by unfold HasL;trivial⟩
abbrev Z5:=@HasL.one
def HasL.nil:HasL H [] []:=by unfold HasL;trivial
abbrev Z6:=@HasL.nil
def HasL.cons(h:Has H x d)(t:HasL H Z J):HasL H (x::Z) (d::J):=by
 unfold HasL;exact⟨h,t⟩
abbrev Z4:=@HasL.cons
mutual
theorem Has.inj{H:Hp}:∀(d Z:Dat){v:V},Has H v d->Has H v Z->d=Z
 |.non,Z,_,h,h'=>by
  unfold Has at h;subst h;cases Z <;> unfold Has at h' <;> first|(obtain⟨_,_,q,_⟩:=h';cases q;done)|rfl|(cases h';done)
 |.bl _,Z,_,h,h'=>by
  unfold Has at h;subst h;cases Z <;> unfold Has at h' <;> first|(obtain⟨_,_,q,_⟩:=h';cases q;done)|(cases h';done)|(cases h';rfl)
 |.int _,Z,_,h,h'=>by
  unfold Has at h;subst h;cases Z <;> unfold Has at h' <;> first|(obtain⟨_,_,q,_⟩:=h';cases q;done)|(cases h';done)|(cases h';rfl)
 |.str _,Z,_,h,h'=>by
  unfold Has at h;subst h;cases Z <;> unfold Has at h' <;> first|(obtain⟨_,_,q,_⟩:=h';cases q;done)|(cases h';done)|(cases h';rfl)
 |.tup ds,Z,_,h,h'=>by
  unfold Has at h;obtain⟨a,B,T,L,R⟩:=h;subst T
  cases Z with
  |tup M=>
   unfold Has at h';obtain⟨b,O,G,J,N⟩:=h';cases G;rw[L]at J;cases J;rw[HasL.inj ds M R N]
  |lst M=>
   unfold Has at h';obtain⟨b,O,G,J,N⟩:=h';cases G;rw[L]at J;cases J
  |_=>unfold Has at h';cases h'
 |.lst ds,Z,_,h,h'=>by
  unfold Has at h;obtain⟨a,B,T,L,R⟩:=h;subst T
  cases Z with
  |lst M=>
   unfold Has at h';obtain⟨b,O,G,J,N⟩:=h';cases G;rw[L]at J;cases J;rw[HasL.inj ds M R N]
  |tup M=>
   unfold Has at h';obtain⟨b,O,G,J,N⟩:=h';cases G;rw[L]at J;cases J
  |_=>unfold Has at h';cases h'
theorem HasL.inj{H:Hp}:∀(G J:kQ){Z:kL},HasL H Z G->HasL H Z J->G=J
 |[],[],_,_,_=>rfl
 |[],_::_,Z,h,h'=>by
  cases Z <;> unfold HasL at h h'
  .exact h'.elim
  .exact h.elim
 |_::_,[],Z,h,h'=>by
  cases Z <;> unfold HasL at h h'
  .exact h.elim
  .exact h'.elim
 |d::G,e::J,Z,h,h'=>by
  cases Z with
  |nil=>unfold HasL at h;exact h.elim
  |cons x Z=>
   unfold HasL at h h';rw[Has.inj d e h.1 h'.1,HasL.inj G J h.2 h'.2]
end
theorem LV{K:W.Frag}:∀{d:Dat},Has H v d->Xh K H v (.type<|match d with|.non=>"NoneType"|.bl _=>"bool"|.int _=>"int"|.str _=>"str"|.tup _=>"tuple"|.lst _=>"list")
 |.non,h=>by unfold Has at h;subst h;exact .non
 |.bl _,h=>by unfold Has at h;subst h;exact .bl _
 |.int _,h=>by unfold Has at h;subst h;exact .int _
 |.str _,h=>by unfold Has at h;subst h;exact .str _
 |.tup _,h=>by unfold Has at h;obtain⟨a,Z,rfl,e,_⟩:=h;exact .tup e
 |.lst _,h=>by unfold Has at h;obtain⟨a,Z,rfl,e,_⟩:=h;exact .lst e
end L2
namespace L2
open PySem
def P4{K:PySem.W.Frag}{a:Addr}{xs:kL}{g:TG}{L:TS}{D:Ends}{U:St}{H:Hp}(Z:kM)(I:Z 0 U H)(A:∀i U H,i<=xs.length->Z i U H->SqL K H a xs)(F:∀(B:kO)(R:VK) i x U H,xs[i]?=some x->Z i U H->g x U H fun σ2 G=>L {nx:=Z<|i+1,rt:=R,bk:=B,ct:=Z (i+1)} σ2 G)(hd:∀U H,Z xs.length U H->D.nx U H):
  ∃W:Nat->Nat->St->Hp->Prop,(∃m,W 0 m U H)/\∀i m U H,W i m U H->
   ((Itl K a).stop i H/\D.nx U H)\/((Itl K a).go i H/\∃N:kO,(∀O J,N O J->∃M,M<m/\W (i+1) M O J)/\∀x J,(Itl K a).yld i H x J->g x U J fun σ2 G=>L {D with nx:=N,ct:=N,bk:=D.nx} σ2 G):=
 Li Z I A (λi x U H E p=>F _ _ i x U H E p) hd
def TY{K:PySem.W.Frag}{a:Addr}{xs:kL}{g:TG}{L:TS}{D:Ends}{U:St}{H:Hp}(Z:kM)(I:Z 0 U H)(A:∀i U H,i<=xs.length->Z i U H->SqT K H a xs)(F:∀(B:kO)(R:VK) i x U H,xs[i]?=some x->Z i U H->g x U H fun σ2 G=>L {nx:=Z<|i+1,rt:=R,bk:=B,ct:=Z (i+1)} σ2 G)(hd:∀U H,Z xs.length U H->D.nx U H):
  ∃W:Nat->Nat->St->Hp->Prop,(∃m,W 0 m U H)/\∀i m U H,W i m U H->
   ((Itt K a).stop i H/\D.nx U H)\/((Itt K a).go i H/\∃N:kO,(∀O J,N O J->∃M,M<m/\W (i+1) M O J)/\∀x J,(Itt K a).yld i H x J->g x U J fun σ2 G=>L {D with nx:=N,ct:=N,bk:=D.nx} σ2 G):=
 EV Z I A (λi x U H E p=>F _ _ i x U H E p) hd
def X1{G:Int}{n:Nat}{g:TG}{M:TS}{D:Ends}{U:St}{H:Hp}(Z:kM)(I:Z 0 U H)(F:∀(B:kO)(R:VK) i U H,i<n->Z i U H->g (.int<|G+i) U H fun σ2 L=>M {nx:=Z<|i+1,rt:=R,bk:=B,ct:=Z (i+1)} σ2 L)(hd:∀U H,Z n U H->D.nx U H):
  ∃W:Nat->Nat->St->Hp->Prop,(∃m,W 0 m U H)/\∀i m U H,W i m U H->
   ((Itr G n).stop i H/\D.nx U H)\/((Itr G n).go i H/\∃N:kO,(∀T J,N T J->∃O,O<m/\W (i+1) O T J)/\∀x J,(Itr G n).yld i H x J->g x U J fun σ2 L=>M {D with nx:=N,ct:=N,bk:=D.nx} σ2 L):=
 FH Z I (λi U H A p=>F _ _ i U H A p) hd
def Ye.none{P:Program}{w:World}{K:W.Frag}{M:Str->Option Value}{base:Heap}{O:CXT}{k:Nat}{f:Addr}{N:FuncData}{L:kC}{G:Sp}(h:∀Z H Q E,G Z H Q E->False):Ye P w K M base O k f N L G:=
 ⟨λZ H Q E q=>(h _ _ _ _ q).elim,λA J s H args R Z Q E _ _ _ _ q=>(h _ _ _ _ q).elim⟩
def Y2{N P:kC}{Z:Scope}(h:Z.kind=.function/\Z.isCoroutine=false/\Z.isGenerator=false/\N.Nodup/\N.take P.length=P/\(∀x∈P,Z.names.lookup x=some .local\/Z.names.lookup x=some .cell)/\∀y∈Z.names,y.2≠.free:=by decide +kernel):Yh N P Z:=
 ⟨h.1,h.2.1,h.2.2.1,h.2.2.2.1,h.2.2.2.2.1,h.2.2.2.2.2.1,h.2.2.2.2.2.2⟩
end L2
namespace K4
open PySem L2
def top(i:Nat):Stmt:=PySem.Challenge.pw_wantway_k62_shared_once.main.body.getD i<|.Pass ⟨0,0,0,0⟩
abbrev BH:Stmt:=top 2
abbrev Gr:Stmt:=top 3
abbrev sKP:Stmt:=top 5
abbrev Ic:Stmt:=top 6
abbrev BQ:Stmt:=top 7
abbrev BP:Stmt:=top 8
abbrev Id:Stmt:=top 9
abbrev ML:Stmt:=top 10
abbrev BO:Stmt:=top 11
abbrev Gu:Stmt:=top 12
abbrev Ig:Stmt:=top 13
abbrev Ie:Stmt:=top 14
abbrev MN:Stmt:=top 26
abbrev BR:Stmt:=top 27
abbrev BF:Stmt:=top 28
abbrev MK:Stmt:=top 30
abbrev UO:Stmt:=top 36
abbrev Ih:Stmt:=inClass UO 0
abbrev BN:Stmt:=inClass UO 1
abbrev Ib:Stmt:=inClass UO 2
abbrev BJ:Stmt:=inClass UO 3
abbrev BK:Stmt:=inClass UO 4
abbrev WQ:Stmt:=inClass UO 5
abbrev Gq:Stmt:=inClass UO 7
abbrev MM:Stmt:=inClass UO 9
abbrev Gs:Stmt:=inClass UO 10
abbrev Xp:Stmt:=inClass UO 11
abbrev XT:Stmt:=top 42
abbrev BX:Stmt:=inClass XT 0
abbrev BU:Stmt:=inClass XT 1
abbrev BY:Stmt:=inClass XT 2
abbrev MR:Stmt:=inClass XT 3
abbrev MQ:Stmt:=inClass XT 4
abbrev MP:Stmt:=inClass XT 5
abbrev BV:Stmt:=inClass XT 6
abbrev BW:Stmt:=inClass XT 7
abbrev BZ:Stmt:=inClass XT 8
abbrev BS:Stmt:=inClass XT 10
abbrev WU:Stmt:=top 43
abbrev UZ:Stmt:=top 44
abbrev Bb:Stmt:=top 45
abbrev WT:Stmt:=top 46
abbrev XZ:Stmt:=top 47
abbrev WR:Stmt:=top 48
abbrev Ga:Stmt:=top 50
abbrev UP:Stmt:=top 51
abbrev U2:Stmt:=top 54
abbrev RQ:Stmt:=top 63
abbrev Lf:Stmt:=inClass Ga 0
abbrev DB:Stmt:=inClass Ga 1
abbrev Xf:Stmt:=inClass Ga 7
abbrev Xg:Stmt:=inClass Ga 8
abbrev Kx:Stmt:=inClass UP 0
abbrev Bu:Stmt:=inClass UP 1
abbrev Wd:Stmt:=inClass UP 2
abbrev Ky:Stmt:=inClass UP 3
abbrev Wf:Stmt:=inClass UP 4
abbrev Xd:Stmt:=inClass UP 5
abbrev We:Stmt:=inClass UP 6
abbrev G6:Stmt:=inClass UP 7
abbrev Xu:Stmt:=inClass UP 8
abbrev XE:Stmt:=inClass UP 9
abbrev Lx:Stmt:=inClass U2 0
abbrev X6:Stmt:=inClass U2 1
abbrev X5:Stmt:=inClass U2 2
abbrev XI:Stmt:=inClass U2 4
abbrev Lw:Stmt:=inClass U2 5
abbrev GZ:Stmt:=inClass U2 6
abbrev Ar:Stmt:=inClass U2 7
abbrev X7:Stmt:=inClass U2 8
abbrev Fl:Stmt:=inClass RQ 0
abbrev Gb:Stmt:=inClass RQ 1
abbrev Fm:Stmt:=inClass RQ 2
abbrev Fk:Stmt:=inClass RQ 3
abbrev SG:Stmt:=inClass RQ 4
abbrev WE:Stmt:=inClass RQ 5
abbrev BL:Stmt:=top 52
abbrev Xa:Stmt:=top 55
abbrev Ba:Stmt:=top 61
abbrev MI:Stmt:=top 62
abbrev BM:Stmt:=top 65
abbrev MJ:Stmt:=top 66
abbrev Ia:Stmt:=top 67
abbrev BE:Stmt:=top 68
abbrev BG:Stmt:=top 69
abbrev Gv:Stmt:=top 58
abbrev Ma:Stmt:=top 70
abbrev LF:Stmt:=top 71
abbrev LE:Stmt:=top 72
abbrev B0:Stmt:=top 73
abbrev B1:Stmt:=top 74
def IQ:Yh ["stream","many","number"] ["stream","many"] (Yd Ia):=Y2
end K4
namespace L2
open PySem PySem.Spec PyProof.Rows
def G9(K:W.Frag)(T:String):W.kitOne K (.type T) (.type T)=some true:=by
 unfold W.kitOne;rw[Zp (by simp)]
def yu{K:W.Frag}:∀{a b:String},(a,b)∈ [("NoneType","bool"),("NoneType","str"),("NoneType","int"),("NoneType","tuple"),("NoneType","list"),("int","bool"),("int","str"),("int","tuple"),("int","list"),("str","bool"),("str","int"),("str","tuple"),("str","list"),("bool","str"),("bool","tuple"),("bool","list"),("tuple","bool"),("tuple","str"),("tuple","int"),("tuple","list"),("list","bool"),("list","str"),("list","int"),("list","tuple")]->W.kitOne K (.type a) (.type b)=some false:=by
 intro a b h;simp only[Zd,Prod.mk.injEq,jS,or_false]at h;rcases h with⟨rfl,rfl⟩|⟨rfl,rfl⟩|⟨rfl,rfl⟩|⟨rfl,rfl⟩|⟨rfl,rfl⟩|⟨rfl,rfl⟩|⟨rfl,rfl⟩|⟨rfl,rfl⟩|⟨rfl,rfl⟩|⟨rfl,rfl⟩|⟨rfl,rfl⟩|⟨rfl,rfl⟩|⟨rfl,rfl⟩|⟨rfl,rfl⟩|⟨rfl,rfl⟩|⟨rfl,rfl⟩|⟨rfl,rfl⟩|⟨rfl,rfl⟩|⟨rfl,rfl⟩|⟨rfl,rfl⟩|⟨rfl,rfl⟩|⟨rfl,rfl⟩|⟨rfl,rfl⟩|⟨rfl,rfl⟩ <;> kernel_rfl
def JC:bootBuiltins "tuple"=some (.type "tuple"):=by decide +kernel
def Jg:bootBuiltins "list"=some (.type "list"):=by decide +kernel
def Wr:bootBuiltins "str"=some (.type "str"):=by decide +kernel
def RT:bootBuiltins "int"=some (.type "int"):=by decide +kernel
def Ui:bootBuiltins "dict"=some (.type "dict"):=by decide +kernel
def FW:bootBuiltins "isinstance"=some (.builtin "isinstance"):=by decide +kernel
def RV:bootBuiltins "all"=some (.builtin "all"):=by decide +kernel
def FV:bootBuiltins "max"=some (.builtin "max"):=by decide +kernel
def WW(R:Gl X "isinstance")(O:X.mg "isinstance"=none)(J:Gl X x)(Z:X.mg x=none)(M:bootBuiltins x=some (.type T))(he:PE X e te)(N:x≠"__name__":=by decide)(G:(x==("__debug__":Str))=false:=by decide)(L:starEach [e,.Name x p'] X.env=(false,eval e X.env)::starEach [.Name x p'] X.env:=by rfl):
  PE X (.Call (.Name "isinstance" p) [e,.Name x p'] [] pos) (tCB (Cg X.K)<|JT te<|JT (tC<|.ty T) Rn):=
 VB L3 R O FW (pa2 he (PK J Z M rfl N G) L) (he:=L)
def tyD:Dat->String
 |.non=>"NoneType"|.bl _=>"bool"|.int _=>"int"|.str _=>"str"|.tup _=>"tuple"|.lst _=>"list"
def Mh{K:W.Frag}(h:Has H v d):Xh K H v (.type<|tyD d):=by
 have q:=LV (K:=K) h;cases d <;> exact q
def isD(T:String)(d:Dat):Bool:=decide (tyD d=T) || (T=="int" && decide (tyD d="bool"))
def Mb(K:W.Frag)(d:Dat)(Z:T∈ ["bool","str","int","tuple","list"]):W.kitOne K (.type<|tyD d) (.type T)=some (isD T d):=by
 simp only[Zd,jS,or_false]at Z;rcases Z with rfl|rfl|rfl|rfl|rfl <;> cases d <;> kernel_rfl
end L2
namespace L2
open PySem
mutual
def Dat.dep:Dat->Nat
 |.tup ds=>1+Dat.deps ds
 |.lst ds=>1+Dat.deps ds
 |_=>0
def Dat.deps:List Dat->Nat
 |[]=>0
 |d::ds=>max d.dep<|Dat.deps ds
end
theorem Dat.deps_get:∀{ds:kQ}{i:Nat}{d:Dat},ds[i]?=some d->d.dep<=Dat.deps ds
 |[],i,d,e=>by simp at e
 |a::ds,0,d,e=>by
  have Z:some a=some d:=e;cases Z;unfold Dat.deps;exact jf _ _
 |a::ds,i+1,d,e=>by
  have q:=Dat.deps_get (ds:=ds) (i:=i) e;unfold Dat.deps;exact Zb q<|jb _ _
def VF{c A B:Prop}[Decidable c](Z:c)(h:A):if c then A else B:=by
 rw[Zp Z];exact h
def Y1{c A B:Prop}[Decidable c](Z:¬c)(h:B):if c then A else B:=by
 rw[Zq Z];exact h
def Va(n:Nat)(S:n<sizeLine)(G:Nat->List V->Hp->Prop)(A:G 0 [] H)(M:∀i Z H,G i Z H->Z.length=i)(O:∀i Z H,i<n->G i Z H->J.go i H)(L:∀Z H,G n Z H->J.stop n H)(E:∀i Z H x N (R:V->Hp->Prop),i<n->G i Z H->J.yld i H x N->(∀v T,G (i+1) (Z++[v]) T->R v T)->g x s0 N λB I=>te B I R)(hd:∀Z H p,G n Z H->H p=none->Q (.ref p) (upd H p<|.lst Z)):
  Tn J g te s0 Q H:=by
 refine⟨λi m Z H=>m=n-i/\i<=n/\G i Z H,⟨n,by simp,Zc _,A⟩,?_⟩;rintro i m Z H ⟨rfl,C,p⟩;have U:=M i Z H p;exists by omega
 by_cases hlt:i<n
 .exact .inr ⟨O i Z H hlt p,λx N y=>E i Z H x N _ hlt p y λv T D=>⟨n-(i+1),by omega,rfl,hlt,D⟩⟩
 .have e:i=n:=by omega
  subst e;exact .inl ⟨L Z H p,λa F=>hd Z H a p F⟩
def Yq(h:H p=none)(o:HO):Same H (upd H p o):=λb u q=>by rw[Yg (Yb q h)];exact q
@[elab_as_elim] theorem up_in {motive:Hp->Prop}(h:H l=none) (o:HO) (k:∀H',Same H H'->H' l=some o->motive H'):motive (upd H l o):=k _ (Yq h o) Yf
def Gz{α:Type}(f:Nat->α)(i:Nat):(List.range i).map f++[f i]=(List.range<|i+1).map f:=by
 rw[js,ZK];rfl
structure Blt(mg:Str->Option Value):Prop where
 len:mg "len"=none
 isi:mg "isinstance"=none
 bool:mg "bool"=none
 str:mg "str"=none
 int:mg "int"=none
 tuple:mg "tuple"=none
 list:mg "list"=none
 dict:mg "dict"=none
 all:mg "all"=none
 zip:mg "zip"=none
 max:mg "max"=none
 range:mg "range"=none
 sorted:mg "sorted"=none
end L2
namespace K4
open PySem L2
section
def Mm:GK 2 (NY K 2<|Jc (Vo 0)<|Jc (Vo 1) TV):=
 B7 (XG (Vm (i:=0)<|by decide) (XG (Vm (i:=1)<|by decide) B8 (λ_ _ _ _ _ h z=>h _ _ z) (λx _ _ _ _ h z=>by
  match x,z with
  |[],z=>exact h _ _ z)) (λ_ _ _ _ _ h z=>h _ _ z) (λx _ _ _ _ h z=>by
  match x,z with
  |[v],z=>exact h _ _ z))
end
end K4
namespace L2
open PySem
inductive W where
 |non|tag (x:Str)|pair (a b:W)
def W.dat:W->Dat
 |.non=>.non
 |.tag x=>.str x
 |.pair a b=>.tup [a.dat,b.dat]
def W.part:W->List Int->W
 |w,[]=>w
 |.pair a b,i::r=>if i=0 then a.part r else b.part r
 |.non,_::_=>.non
 |.tag _,_::_=>.non
def X0(h:Has H v (W.pair a b).dat):∃p x y,v=.ref p/\H p=some (.tup [x,y])/\Has H x a.dat/\Has H y b.dat:=by
 unfold W.dat Has at h;obtain⟨p,L,rfl,M,Z⟩:=h
 match L,Z with
 |[x,y],Z=>
  unfold HasL at Z;obtain⟨N,J⟩:=Z;unfold HasL at J;exact⟨p,x,y,Y,M,N,J.1⟩
 |[],Z=>unfold HasL at Z;exact Z.elim
 |[x],Z=>unfold HasL at Z;obtain⟨_,J⟩:=Z;unfold HasL at J;exact J.elim
 |_::_::_::_,Z=>
  unfold HasL at Z;obtain⟨_,J⟩:=Z;unfold HasL at J;obtain⟨_,G⟩:=J;unfold HasL at G;exact G.elim
def GS:Has H .non W.non.dat:=by unfold W.dat Has;rfl
def Way(ws:kE):Prop:=∀i∈ws,i=0\/i=1
def RL{Z:kE}(h:(Z.map V.int)[i]?=some x):∃n r,x=.int n/\Z.drop i=n::r/\Z.drop (i+1)=r/\n∈Z:=by
 rw[ZH]at h
 cases e:Z[i]? with
 |none=>rw[e]at h;cases h
 |some n=>
  rw[e]at h;cases h;obtain⟨J,q⟩:=ZF.mp e;exact⟨n,Z.drop<|i+1,rfl,by rw[List.drop_eq_getElem_cons J,q],rfl,ZJ e⟩
def PL{a b:V}(h:n=0\/n=1):atI [a,b] n=some (if n=0 then a else b):=by
 rcases h with rfl|rfl <;> rfl
def Jt(ws:kE):Dat:=.tup<|ws.map Dat.int
def W.dep:W->Nat
 |.non=>0
 |.tag _=>0
 |.pair a b=>1+max a.dep b.dep
theorem NW:∀{J:kE}{Z:kL},HasL H Z (J.map Dat.int)->Z=J.map V.int
 |[],[],_=>rfl
 |[],_::_,h=>by unfold HasL at h;exact h.elim
 |_::_,[],h=>by rw[ZV]at h;unfold HasL at h;exact h.elim
 |n::J,x::Z,h=>by
  rw[ZV]at h;unfold HasL at h;obtain⟨G,L⟩:=h;unfold Has at G;rw[G,NW L];rfl
theorem TJ:∀(Z:kE),HasL H (Z.map V.int)<|Z.map Dat.int
 |[]=>Z6
 |n::Z=>Z4 (by unfold Has;rfl)<|TJ Z
def Ji(h:Has H v (Jt J)):∃a,v=.ref a/\H a=some (.tup<|J.map V.int):=by
 unfold Jt Has at h;obtain⟨a,L,rfl,Z,G⟩:=h;rw[NW G]at Z;exact⟨a,Y,Z⟩
def JL(h:H a=some (.tup<|Z.map V.int)):Has H (.ref a) (Jt Z):=by
 unfold Jt Has;exact⟨a,_,Y,h,TJ Z⟩
def Pp(h:H a=some (.lst Z))(t:HasL H Z J):Has H (.ref a) (.lst J):=by unfold Has;exact⟨a,Z,Y,h,t⟩
def J9(H:Hp)(p:Addr):Prop:=∃(a:Int)(b:Bool)(c d:Int),H p=some (.lst [.int a,.bl b,.int c,.int d])
def But(p:Addr)(H H':Hp):Prop:=∀b,b≠p->H' b=H b
def But.trans(a:But p H J)(b:But p J Z):But p H Z:=λc h=>(b c h).trans<|a c h
def But.upd{p:Addr}{H:Hp}(o:HO):But p H (upd H p o):=λ_ h=>Yg h
end L2
namespace K4
open PySem L2
def MH:Yh ["cell","k","number"] ["cell","k"] (Yd BM):=Y2
def IS:Yh ["cell"] ["cell"] (Yd MJ):=Y2
section
variable{K:W.Frag}
def Ds:Sp:=λZ H Q _=>∃(c k:Int),Z=[.int c,.int k]/\∀r:Int,0<=r->r<2147483563->Q (.int r) H
def Kg(F:Fun K "_law_mixed" "_law_mixed" BM f J):Ye P w K T base CX0 (n+1) f J ["cell","k"] Ds:=by
 refine F.oq MH λG A Z s H R Q E I h=>?_;obtain⟨c,k,rfl,q⟩:=h;refine⟨_,YY (Yx 2 MH.nd<|Y7 Jf (Y7 Vk (Y7 Vk (Y7 Uy (Y7 Jf (pv 0) Ya) Ya)<|Y7 Uy Ya<|pv 1) Ya) Ya)
  (YY (Yx 2 MH.nd<|Y7 Jf (Y7 Vk (Y7 Vk (Y7 Uy (pv 2)<|pv 2)<|Y7 Uy Ya<|pv 1) Ya) Ya)
  (YZ<|Yi<|Y7 Jf (Y7 Uy (pv 2)<|Y7 Vk (pv 2) Ya) Ya)),?_⟩
 show let a:=_;let b:=Yk _ a;Yk _ b _ _ _
 intros
 have D:=jH c (show(2147483647:Int)≠0 by decide);have B:=jp c (show(0:Int)<2147483647 by decide);refine⟨(by show(0:Int)<_;decide),.inl ⟨by omega,by omega⟩,.inl ⟨by decide,by decide⟩,(by show(0:Int)<_;decide),?_⟩;generalize hx:(c % 2147483647*48271+69621*k+7919) % 2147483629=x;have O:0<=x:=by rw[<-hx];exact jH _<|by decide
 have N:x<2147483629:=by rw[<-hx];exact jp _<|by decide
 refine⟨.inl ⟨by omega,by omega⟩,.inl ⟨by decide,by decide⟩,(by show(0:Int)<_;decide),?_⟩;generalize hy:(x*x+31*k+5) % 2147483587=y;have M:0<=y:=by rw[<-hy];exact jH _<|by decide
 have L:y<2147483587:=by rw[<-hy];exact jp _<|by decide
 refine⟨.inl ⟨by omega,by omega⟩,(by show(0:Int)<_;decide),?_⟩;exact q _ (jH _<|by decide)<|jp _<|by decide
def M9:Sp:=λJ H Q _=>∃(c:Int),J=[.int c]/\∀p Z,H p=none->But p H Z->J9 Z p->Q (.ref p) Z
def E4(F:Fun K "_law_stream" "_law_stream" MJ f L):Ye P w K O base CX0 (n+1) f L ["cell"] M9:=by
 refine F.oq IS λM A Z s H N Q E R h=>?_;obtain⟨c,rfl,q⟩:=h;exists _,YZ<|Yi<|JJ<|pa4 (pv 0) (Cj (JF Qf (pv 0) (Y7 KU Ya Ya)<|Y0 _)<|Xb<|JF XO (pv 0) (NF Gc<|Y7 KU Ya Ya)<|Y0 _) Ya<|Y7 Jf (pv 0) Ya;have G:yF 10 18:=⟨by decide,by decide,by decide⟩;exists G,_,Y;refine Ac (λ_=>?_) λ_=>?_
 .refine ⟨(by show(0:Int)<_;decide),sl 4,λp J=>?_⟩
  exact q p _ J (But.upd _) ⟨_,_,_,_,Yf⟩
 .refine ⟨G,_,rfl,?_⟩
  refine⟨(by show(0:Int)<_;decide),sl 4,λp J=>?_⟩;exact q p _ J (But.upd _) ⟨_,_,_,_,Yf⟩
def Rq:Sp:=λJ H Q _=>∃(p:Addr)(many:Int),J=[.ref p,.int many]/\J9 H p/\0<many/\many<1073741824/\∀(r:Int)(Z:Hp),0<=r->r<many->But p H Z->J9 Z p->Q (.int r) Z
def PU(F:Fun K "_law_take" "_law_take" Ia f C)(G:Ye P w K R base CX0 n g U ["cell","k"] Ds)(j:Binds K U ["cell","k"] [])(D:W.keepIn K (.ref g)=true)(T:R "_law_mixed"=some (.ref g)):
  Ye P w K R base CX0 (n+1) f C ["stream","many"] Rq:=by
 refine F.oq IQ λX A O s H y Q E I h=>?_;obtain⟨p,many,rfl,⟨a,b,c,d,J⟩,L,B,q⟩:=h;refine⟨_,YY (Y5 (Vv<|Yr VH (pv 0) Ya)
   (YY (Yx 2 IQ.nd<|Y7 Jf (Yr VH (pv 0) Ya)<|pv 1)
   (YY (Jq (Y7 EC (Yr VH (pv 0) Ya)<|pv 1)<|MV (pv 0) Ya set_list)
   (YY (Jq (WX (JF UR (Yr VH (pv 0) Ya) Ya<|Y0 _)<|Xb<|JF UR (Yr VH (pv 0) Ya) (NF Gc Ya)<|Y0 _)<|MV (pv 0) Ya set_list)
   (YZ<|Yi<|pv 2)))) Yp)
  (YY (Jq (Y7 Vk (Yr VH (pv 0) Ya) Ya)<|MV (pv 0) Ya set_list)
  (YZ<|Yi<|Y7 Jf (Y7 EC (JW G I rfl T D j .nil Y3 (pa2 (Yr VH (pv 0) Ya)<|Yr VH (pv 0) Ya)) Ya)<|pv 1)),?_⟩
 show let a:=_;let b:=Yk _ a;let c:=_;let d:=Yk _ c;let e:=Yk _ d;let f:=Yk _ e;Yk (VE _ f _) b _ _ _
 intros
 exists _,_,Z3 J,Y,_,Y;refine Ac (λS=>?_) λS=>?_
 .refine ⟨_,_,Z3 J,rfl,L,?_⟩
  exists _,_,Z3 J,Y,⟨L,B⟩,p,_,0,0,Y,Y,J,Y;have Z:upd H p (.lst [.int (a / many),.bl b,.int c,.int d]) p=some (.lst [.int (a / many),.bl b,.int c,.int d]):=Yf;exists _,_,Z3 Z,Y,Y,_,Y;have N:=jH a (show many≠0 by omega);have M:=jp a L;refine Ac (λ_=>?_) λ_=>?_
  .refine ⟨_,_,Z3 Z,rfl,_,rfl,rfl,p,_,1,1,rfl,rfl,Z,rfl,?_⟩
   exact q _ _ N M ((But.upd _).trans<|But.upd _) ⟨_,_,_,_,Yf⟩
  .refine ⟨p,_,1,1,rfl,rfl,Z,rfl,?_⟩
   exact q _ _ N M ((But.upd _).trans<|But.upd _) ⟨_,_,_,_,Yf⟩
 .refine ⟨_,_,Z3 J,rfl,p,_,2,2,rfl,rfl,J,rfl,?_⟩
  have Z:upd H p (.lst [.int a,.bl b,.int<|c+1,.int d]) p=some (.lst [.int a,.bl b,.int<|c+1,.int d]):=Yf;refine⟨_,_,Z3 Z,Y,_,_,Z3 Z,Y,_,_,Y,λr N M=>?_⟩;exists ⟨by decide,by decide⟩,L;exact q _ _ (jH _<|by omega) (jp _ L) (But.upd _) ⟨_,_,_,_,Yf⟩
end
end K4
namespace L2
open PySem
def alpha(o:Nat):Str:=⟨((List.range 26).map (o + ·)).toArray⟩
def one(c:Nat):Str:=⟨#[c]⟩
def txt(cs:List Nat):Str:=⟨cs.toArray⟩
def Wt(o:Nat):(alpha o).length=26:=by show((List.range 26).map (o + ·)).toArray.size=26;simp
def Np(o:Nat)(j:Int)(J:0<=j)(Z:j<26):atI (alpha o).cps.toList j=some (o+j.toNat):=by
 obtain⟨n,rfl⟩:∃n:Nat,j=n:=⟨j.toNat,by omega⟩;refine VD ?_;show(((List.range 26).map (o + ·)).toArray.toList)[n]?=_;rw[List.toList_toArray,ZH,qK (by omega)]
 rfl
def Kw(G:o=97\/o=65)(h:o<=c/\c<o+26):∃i rest,Builtin.Str.occurrences (alpha o) (one c) 0 (alpha o).length 1=i::rest:=by
 have J:∀j<26,(Builtin.Str.occurrences (alpha 97) (one<|97+j) 0 26 1).isEmpty=false/\(Builtin.Str.occurrences (alpha 65) (one<|65+j) 0 26 1).isEmpty=false:=by decide +kernel
 rw[Wt]
 have Z:(Builtin.Str.occurrences (alpha o) (one c) 0 26 1).isEmpty=false:=by
  have a:=J (c-o) (by omega);rcases G with rfl|rfl
  .have e:97+(c-97)=c:=by omega
   rw[e]at a;exact a.1
  .have e:65+(c-65)=c:=by omega
   rw[e]at a;exact a.2
 cases q:Builtin.Str.occurrences (alpha o) (one c) 0 26 1 with
 |nil=>rw[q]at Z;cases Z
 |cons i r=>exact⟨i,r,Y⟩
def EW{Z:List Nat}(h:Z.length=8):∃a b c d e f g i,Z=[a,b,c,d,e,f,g,i]:=by
 match Z,h with
 |[a,b,c,d,e,f,g,i],_=>exact⟨a,b,c,d,e,f,g,i,Y⟩
def zO(h:cs.length=8):Txt.join (Str.ofString "") (cs.map one)=txt cs:=by
 obtain⟨a,b,c,d,e,f,g,i,rfl⟩:=EW h
 rfl
def Mr(h:cs.length=8)(j:Nat)(Z:j<=8):Txt.slice (txt cs) none (some (j:Int))=txt (cs.take j):=by
 obtain⟨a,b,c,d,e,f,g,i,rfl⟩:=EW h
 match j,Z with
 |0,_|1,_|2,_|3,_|4,_|5,_|6,_|7,_|8,_=>rfl
def Lz(h:cs.length=8)(j:Nat)(Z:j<=8):Txt.slice (txt cs) (some (j:Int)) none=txt (cs.drop j):=by
 obtain⟨a,b,c,d,e,f,g,i,rfl⟩:=EW h
 match j,Z with
 |0,_|1,_|2,_|3,_|4,_|5,_|6,_|7,_|8,_=>
  unfold Txt.slice;rw[show(txt [a,b,c,d,e,f,g,i]).length=8 from rfl]
  first
   |(rw[Zp (by decide +kernel)];rfl)
   |(rw[Zq (by decide +kernel)];rfl)
def Rl(a b:List Nat):txt a++ txt b=txt (a++ b):=by
 show(⟨a.toArray++ b.toArray⟩:Str)=⟨(a++ b).toArray⟩;simp
def OT(h:txt a=txt b):a=b:=by
 have q:a.toArray=b.toArray:=congrArg Str.cps h;simpa using q
def Rk(a:List Nat):(txt a).length=a.length:=by show a.toArray.size=a.length;simp
def wd(o:Nat)(cs:List Nat)(at' way i k:Nat):List Nat:=
 if way=0 then cs.take at'++[o+(i+5*k) % 26]++ cs.drop (at'+1)
 else if way=1 then[o+(i+5*k) % 26]++ cs.take ((3*k+at') % 8)
 else if way=2 then cs.take (k % 8+1)
 else cs.take (8-k % 8)
def Oa(Z:k<l)(h:l<24):(i+5*k) % 26≠(i+5*l) % 26:=λe=>by
 have q:=Nat.sub_mod_eq_zero_of_mod_eq e.symm;have f:∀d:Fin 24,d.val≠0->5*d.val % 26≠0:=by decide
 refine f ⟨l-k,by omega⟩ (by show l-k≠0;omega) ?_;show 5*(l-k) % 26=0;rw[Nat.mul_sub,<-Nat.add_sub_add_left i (5*l) (5*k)];exact q
def A5(O:cs.length=8)(G:at'<8)(N:way<2/\l<24\/l<8)(Z:k<l):wd o cs at' way i k≠wd o cs at' way i l:=by
 intro e;have d:=Oa (i:=i) Z (N.elim (·.2) λz=>qS z<|by decide);unfold wd at e
 by_cases w0:way=0
 .rw [Zp w0,Zp w0]at e
  have L:(cs.take at').length=at':=by rw[ZN,O];exact vR<|Zh G
  have q:=congrArg (λx:List Nat=>x[at']?) e
  have g:∀x:Nat,(cs.take at'++[x]++ cs.drop (at'+1))[at']?=some x:=λx=>by
   rw[vZ,vb<|qg L,L];simp
  exact d<|Nat.add_left_cancel<|ZT<|(g _).symm.trans<|q.trans<|g _
 rw[Zq w0,Zq w0]at e
 by_cases w1:way=1
 .rw [Zp w1,Zp w1]at e
  exact d<|Nat.add_left_cancel (List.cons.inj e).1
 rw[Zq w1,Zq w1]at e;have J:l<8:=N.elim (λz=>by omega) id;have M:=qS Z J;rw[Nat.mod_eq_of_lt J,Nat.mod_eq_of_lt M]at e
 have q:∀{a b:Nat},cs.take a=cs.take b->a<=8->b<=8->a=b:=λz G R=>by
  have:=congrArg List.length z;rw[ZN,ZN,O,vR G,vR R]at this;exact this
 by_cases w2:way=2
 .rw [Zp w2,Zp w2]at e
  exact Zr (Nat.succ.inj<|q e M J)<|Ze Z
 rw[Zq w2,Zq w2]at e;have:=q e (Nat.sub_le _ _)<|Nat.sub_le _ _;omega
def SF(J:cs.length=8)(G:at'<8):1<=(wd o cs at' way i k).length/\(wd o cs at' way i k).length<=8:=by
 have t:∀{n:Nat},n<=8->(cs.take n).length=n:=λh=>by rw[ZN,J];exact vR h
 unfold wd
 split
 .rw [ZL,ZL,t<|Zh G,jk,J,vc];omega
 split
 .rw [ZL,t<|Zh<|qi _<|by decide,vc]
  have:=qi (3*k+at') (show 8 > 0 by decide);omega
 have Z:=qi k (show 8 > 0 by decide)
 split
 .rw [t Z];exact⟨Nat.succ_pos _,Z⟩
 .rw [t (Nat.sub_le _ _)];exact⟨Nat.sub_pos_of_lt Z,Nat.sub_le _ _⟩
def A6(Z:∀c∈cs,o<=c/\c<o+26):∀c∈wd o cs at' way i k,o<=c/\c<o+26:=by
 have z:o<=o+(i+5*k) % 26/\o+(i+5*k) % 26<o+26:=by omega
 intro c h;unfold wd at h
 split at h
 .simp only[ZX,ZQ]at h
  rcases h with(h|h)|h
  .exact Z c (Zk h)
  .rw [h];exact z
  .exact Z c (jW h)
 split at h
 .simp only[ZX,ZQ]at h
  rcases h with h|h
  .rw [h];exact z
  .exact Z c (Zk h)
 split at h
 .exact Z c (Zk h)
 .exact Z c (Zk h)
structure Wds(o:Nat)(ys:List Str):Prop where
 nd:ys.Nodup
 len:∀y∈ys,1<=y.length/\y.length<=8
 abc:∀y∈ys,∀c∈y.cps.toList,o<=c/\c<o+26
def SE(M:cs.length=8)(L:at'<8)(T:way<2/\m<=24\/m<=8)(N:∀c∈cs,o<=c/\c<o+26):Wds o ((List.range m).map λk=>txt<|wd o cs at' way i k):=by
 refine⟨?_,λy Z=>?_,λy Z c J=>?_⟩
 .show List.Pairwise _ _
  rw[qV];refine List.Pairwise.imp_of_mem ?_<|List.pairwise_lt_range (n:=m);intro a b R O G e;exact A5 (i:=i) M L (by have:=j0.mp O;omega) G<|OT e
 .obtain ⟨k,_,rfl⟩:=ZW.mp Z
  rw[Rk];exact SF M L
 .obtain ⟨k,_,rfl⟩:=ZW.mp Z
  exact A6 N c<|by simpa[txt]using J
def SameB(p:Addr)(H H':Hp):Prop:=∀b o,b≠p->H b=some o->H' b=some o
def SameB.refl(p:Addr)(H:Hp):SameB p H H:=λ_ _ _ h=>h
def SameB.trans(a:SameB p H J)(b:SameB p J Z):SameB p H Z:=λc o n h=>b c o n<|a c o n h
def But.sb(a:But p H Z):SameB p H Z:=λb o n h=>(a b n).trans h
def Same.sb(a:Same H Z):SameB p H Z:=λb o _ h=>a b o h
def SameB.free(a:SameB p H Z)(n:r≠p)(h:Z r=none):H r=none:=by
 cases e:H r with
 |none=>rfl
 |some o=>rw[a r o n e]at h;cases h
def SameB.put(a:SameB p H Z)(h:H r=none):SameB p H (upd Z r o):=λb u n e=>by
 rw[Yg (Yb e h)];exact a b u n e
def J9.ne(s:J9 H p)(h:H r=none):r≠p:=λe=>by
 obtain⟨a,b,c,d,q⟩:=s;rw[<-e,h]at q;cases q
def J9.keep(s:J9 H p)(e:Z p=H p):J9 Z p:=by
 obtain⟨a,b,c,d,q⟩:=s;exact⟨a,b,c,d,e.trans q⟩
def M8(a b:Str):(a++ b).length=a.length+b.length:=by
 show(a.cps++ b.cps).size=a.cps.size+b.cps.size;simp
def As(h:cs.length=8)(Z J:kD):(Txt.slice (txt cs) Z J).length<=8:=by
 have q:=Txt.slice_le (txt cs) Z J;rw[Rk,h]at q;exact q
def Ci{J Z i k:Nat}(h:Z<4):atI [V.str (txt<|cs.take J++[o+(i+5*k) % 26]++ cs.drop (J+1)),V.str<|txt<|[o+(i+5*k) % 26]++ cs.take ((3*k+J) % 8),V.str<|txt<|cs.take<|k % 8+1,V.str (txt<|cs.take<|8-k % 8)] (Z:Int)=some (V.str<|txt<|wd o cs J Z i k):=by
 match Z,h with
 |0,_|1,_|2,_|3,_=>rfl
end L2
namespace K4
open PySem L2
def UC:Yh ["stream","many","letters","ways","k","base","at","way","words","sign","some"] ["stream","many","letters","ways"] (Yd BE):=Y2
def AU:List.Nodup [("k":Str),"letters","stream"]:=by decide +kernel
section
def W5:Sp:=λL H Q _=>∃(p:Addr)(many:Nat)(o:Nat)(Z:Nat),L=[.ref p,.int many,.str<|alpha o,.int Z]/\J9 H p/\(o=97\/o=65)/\0<Z/\(Z<=2/\many<=24\/Z<=4/\many<=8)/\
 ∀(r:Addr)(G:kC)(J:Hp),SameB p H J->J9 J p->H r=none->r≠p->J r=some (.lst<|G.map V.str)->G.length=many->Wds o G->Q (.ref r) J
def KW(B:Blt mg)(F:Fun K "_law_words" "_law_words" BE f fd)(G:Ye P w K mg base CX0 n g gd ["stream","many"] Rq)(bG:Binds K gd ["stream","many"] [])(kG:W.keepIn K (.ref g)=true)(mG:mg "_law_take"=some (.ref g)):
  Ye P w K mg base CX0 (n+1) f fd ["stream","many","letters","ways"] W5:=by
 refine F.oq UC λR7 A R3 s H u Q E hr h=>?_;obtain⟨p,many,o,T,rfl,hs,ho,hw,hm,q⟩:=h;refine⟨_,YY (Yx 5 UC.nd (Uw PySem.F.plainAttrs_str PySem.F.slot_str_join PySem.F.type_str_join Pm Yw (pa1 (V6 ["k"] [2,0] (JP Y B.range (pa1 Ya)) (Vm (i:=0)<|by decide)
   (λcl C fp s H=>Yl 0 AU rfl (Or.inl rfl) (Or.inr rfl)) (λcl C fp s H=>Yr (r:=Cf) B3 (pv 1) (JW G hr rfl mG kG bG .nil Y3 (pa2 (pv 2) Ya)) λ_ _=>rfl)))))
  (YY (Yx 6 UC.nd<|JW G hr rfl mG kG bG .nil Y3 (pa2 (pv 0) Ya))
  (YY (Yx 7 UC.nd<|JW G hr rfl mG kG bG .nil Y3 (pa2 (pv 0)<|pv 3))
  (YY (Yx 8 UC.nd<|JJ VR)
  (YY (V9 Zv rfl (JP rfl B.range (pa1<|pv 1)) (Yl 4 UC.nd)
   (YY (Yx 9 UC.nd<|Yr B3 (pv 2) (Y7 Jf (Y7 Vk (Uw PySem.F.plainAttrs_str PySem.F.slot_str_index PySem.F.type_str_index K7 (pv 2)<|pa1<|Yr B3 (pv 5) (pv 6) λ_ _=>rfl)<|Y7 Uy Ya<|pv 4) Ya) λ_ _=>rfl)
   (YY (Yx 10 UC.nd<|JJ<|pa4 (Y7 Xc (Y7 Xc (Vy Gk (pv 5) JV<|JE<|pv 6)<|pv 9)<|Vy Gk (pv 5) (JE<|Y7 Vk (pv 6) Ya) JV) (Y7 Xc (pv 9)<|Vy Gk (pv 5) JV<|JE<|Y7 Jf (Y7 Vk (Y7 Uy Ya<|pv 4)<|pv 6) Ya) (Vy Gk (pv 5) JV<|JE<|Y7 Vk (Y7 Jf (pv 4) Ya) Ya)<|Vy Gk (pv 5) JV<|JE<|Y7 KS Ya<|Y7 Jf (pv 4) Ya)
   (YZ<|VS<|Uw Zz Z0 Z1 JR (pv 8)<|pa1<|Yr VH (pv 10) (pv 7) λ_ _=>rfl))))
  (YZ<|Yi<|pv 8))))),?_⟩
 show let a:=_;let b:=_;let c:=Yk _ b;let d:=Yk _ c;let e:=Yk (Uq _ _ d) a;let f:=Yk _ e;let g:=Yk _ f;let h:=Yk _ g;Yk _ h _ _ _
 intros
 have em:((many:Nat):Int).toNat=many:=vV _;refine⟨Y,8,Y,by decide,by decide,?_⟩;refine Va 8 (Yu<|by decide) (λi u L=>SameB p H L/\J9 L p/\∃Z:List Nat,u=Z.map (λc=>V.str<|one c)/\Z.length=i/\∀c∈Z,o<=c/\c<o+26) ⟨SameB.refl _ _,hs,[],rfl,rfl,λc h=>nomatch h⟩
  (λi u L z=>by obtain⟨_,_,Z,e,l,_⟩:=z;rw[e,ZA,l]) (λi u L X z=>X) (λu L z=>ZG _) ?_ ?_
 .intro i u L x H'' R X z yl hR
  obtain⟨rfl,rfl⟩:=yl;obtain⟨j,O,Z,rfl,zl,zc⟩:=z;refine⟨p,26,Y,O,by decide,by decide,λr H3 r0 r1 b s3=>?_⟩;refine⟨alpha o,r,o+r.toNat,Y,Y,by rw[Wt];decide,Np o r r0 r1,hR _ _ ⟨j.trans b.sb,s3,Z++[o+r.toNat],by rw[ZK];rfl,by rw[ZL,zl];rfl,λc hc=>?_⟩⟩;rcases ZX.mp hc with h|h
  .exact zc c h
  .rw [ZQ.mp h];omega
 intro u H1 pl z G3;obtain⟨j,O,Z,rfl,M,zc⟩:=z;have R4:pl≠p:=O.ne G3;have e1:Z.map (λc=>V.str<|one c)=(Z.map one).map V.str:=by rw[ve];rfl
 exists _,pl,Z.map one,Y,Y,Z3 (by rw[Yf,e1]),?_
 .obtain ⟨a,b,c,d,e,f,g,i,rfl⟩:=EW M
  show(8:Nat)+8*0<=16777216
  decide
 rw[zO M];have s1:J9 (upd H1 pl<|.lst<|Z.map λc=>V.str<|one c) p:=O.keep<|Yg<|Zs R4;have b1:SameB p H (upd H1 pl<|.lst<|Z.map λc=>V.str<|one c):=j.trans (Yq G3 _).sb;generalize upd H1 pl (.lst<|Z.map λc=>V.str<|one c)=H2 at s1 b1;refine⟨p,8,Y,s1,by decide,by decide,λR1 H3 a0 a1 b3 s3=>?_⟩;refine⟨p,T,Y,s3,by omega,by omega,λJ2 H4 w0 w1 b4 s4=>?_⟩;refine⟨sl 0,λy G2=>?_⟩;have b5:SameB p H H4:=(b1.trans b3.sb).trans b4.sb;have N:y≠p:=s4.ne G2;have v:H y=none:=b5.free N G2;obtain⟨at1,rfl⟩:∃n:Nat,R1=n:=⟨R1.toNat,by omega⟩;obtain⟨D,rfl⟩:∃n:Nat,J2=n:=⟨J2.toNat,by omega⟩;have R5:at1<8:=by omega
 obtain⟨c0,O1⟩:∃c0,Z[at1]?=some c0:=⟨Z[at1],ZD<|by omega⟩;obtain⟨J,rest,M2⟩:=Kw ho<|zc c0<|ZJ O1;exists many,Y,by omega,by omega
 let I:kM:=λi U L=>SameB p H L/\J9 L p/\L y=some (.lst<|((List.range i).map λk=>txt<|wd o Z at1 D J k).map V.str)/\
  ∃j O z3,U=[some (.ref p),some<|.int many,some<|.str<|alpha o,some<|.int T,j,some<|.str<|txt Z,some<|.int at1,some<|.int D,some<|.ref y,O,z3]
 refine X1 (n:=((many:Nat):Int).toNat) I ?_ ?_ ?_
 .exact ⟨b5.put v,s4.keep<|Yg<|Zs N,Yf,_,_,_,rfl⟩
 .rintro BB RR i U L X ⟨y1,y2,y3,j,O,z3,rfl⟩
  rw[em]at X;have tl:(txt Z).length<=sizeLine:=by rw[Rk,M];decide
  have e0:((J:Int)+5*(0+(i:Int))) % 26=(((J+5*i) % 26:Nat):Int):=by rw[show(J:Int)+5*(0+(i:Int))=((J+5*i:Nat):Int) by omega];rfl
  have S:(0:Int)<=((J:Int)+5*(0+(i:Int))) % 26/\((J:Int)+5*(0+(i:Int))) % 26<26:=by rw[e0];exact⟨Int.natCast_nonneg _,Int.ofNat_lt.mpr<|qi _<|by decide⟩
  have R6:(((J:Int)+5*(0+(i:Int))) % 26).toNat=(J+5*i) % 26:=by rw[e0];rfl
  refine⟨Y,txt Z,at1,c0,Y,Y,tl,VD<|by simpa[txt]using O1,_,_,J,rest,rfl,rfl,M2,.inl ⟨by decide,by decide⟩,(by show(0:Int)<_;decide),?_⟩;exists alpha o,_,_,Y,Y,by rw[Wt];decide,Np o _ S.1 S.2;rw[R6];have sg:(⟨#[o+(J+5*i) % 26]⟩:Str)=txt [o+(J+5*i) % 26]:=rfl;rw[sg]
  have eA:Txt.slice (txt Z) none (some (at1:Int))++ txt [o+(J+5*i) % 26]++ Txt.slice (txt Z) (some<|(at1:Int)+1) none=txt (Z.take at1++[o+(J+5*i) % 26]++ Z.drop (at1+1)):=by
   have z:((at1:Int)+1)=((at1+1:Nat):Int):=by omega
   rw[z,Mr M at1<|by omega,Lz M (at1+1)<|by omega,Rl,Rl]
  have eB:txt [o+(J+5*i) % 26]++ Txt.slice (txt Z) none (some<|(3*(0+(i:Int))+(at1:Int)) % 8)=txt ([o+(J+5*i) % 26]++ Z.take ((3*i+at1) % 8)):=by
   have z:(3*(0+(i:Int))+(at1:Int)) % 8=(((3*i+at1) % 8:Nat):Int):=by rw[show 3*(0+(i:Int))+(at1:Int)=((3*i+at1:Nat):Int) by omega];rfl
   rw[z,Mr M _<|Zh<|qi _<|by decide,Rl]
  have eC:Txt.slice (txt Z) none (some<|(0+(i:Int)) % 8+1)=txt (Z.take<|i % 8+1):=by
   have z:(0+(i:Int)) % 8+1=((i % 8+1:Nat):Int):=by rw[Int.zero_add];rfl
   rw[z,Mr M _ (by omega)]
  have eD:Txt.slice (txt Z) none (some<|8-(0+(i:Int)) % 8)=txt (Z.take<|8-i % 8):=by
   have z:8-(0+(i:Int)) % 8=((8-i % 8:Nat):Int):=by omega
   rw[z,Mr M _ (by omega)]
  have small:∀m:Nat,m<=100->m<=sizeLine:=λm h=>Zh (Yu<|by omega);have k1:∀lo X,(Txt.slice (txt Z) lo X).length<=8:=λlo X=>As M lo X;have x1:(txt [o+(J+5*i) % 26]).length=1:=rfl;refine⟨_,Y,txt Z,Y,tl,_,_,Y,Y,small _ (by have:=k1 none<|some (at1:Int);omega),_,Y,txt Z,Y,tl,_,_,Y,Y,small _ (by have:=k1 none<|some (at1:Int);have:=k1 (some<|(at1:Int)+1) none;rw[M8];omega),?_⟩;refine⟨.inl ⟨by decide,by decide⟩,(by show(0:Int)<_;decide),_,Y,txt Z,Y,tl,_,_,Y,Y,small _ (by have:=k1 none<|some<|(3*(0+(i:Int))+(at1:Int)) % 8;omega),?_⟩;exists (by show(0:Int)<_;decide),_,Y,txt Z,Y,tl;refine⟨(by show(0:Int)<_;decide),_,Y,txt Z,Y,tl,sl 4,λt ht=>?_⟩;rw[eA,eB,eC,eD];have nt:t≠p:=y2.ne ht;have G1:y≠t:=Yb y3 ht;exists .inl ⟨Y,_,Z3<|(Yg G1).trans y3⟩,_,_,Z3 Yf,Ci<|by omega,y,_,_,rfl,rfl,(Yg G1).trans y3,?_
  .rw [ZA,ZA,List.length_range]
   exact Yu<|by omega
  .have ft:H t=none:=y1.free nt ht
   refine⟨(y1.put ft).put v,y2.keep<|(Yg<|Zs N).trans<|Yg<|Zs nt,?_,_,_,_,rfl⟩;rw[Yf,<-Gz,ZK]
   rfl
 .rintro U L ⟨y1,y2,y3,j,O,z3,rfl⟩
  rw[em]at y3;refine q y _ L y1 y2 v N y3 (by simp)<|SE M R5 ?_ zc;omega
end
end K4
namespace L2
open PySem PySem.Spec PyProof.Rows SeqAt
mutual
def Dat.pq:Dat->Dat->Bool
 |.non,.non=>true
 |.bl a,.bl b=>a==b
 |.bl a,.int b=>(if a then 1 else 0)==b
 |.int a,.bl b=>a==(if b then 1 else 0)
 |.int a,.int b=>a==b
 |.str a,.str b=>a==b
 |.tup a,.tup b=>Dat.pqs a b
 |.lst a,.lst b=>Dat.pqs a b
 |_,_=>false
def Dat.pqs:List Dat->List Dat->Bool
 |[],[]=>true
 |a::as,b::bs=>Dat.pq a b && Dat.pqs as bs
 |_,_=>false
end
mutual
theorem Dat.pq_self:∀a:Dat,a.pq a=true
 |.non=>by unfold Dat.pq;rfl
 |.bl b=>by unfold Dat.pq;exact beq_self_eq_true b
 |.int i=>by unfold Dat.pq;exact beq_self_eq_true i
 |.str x=>by unfold Dat.pq;exact beq_self_eq_true x
 |.tup ds=>by unfold Dat.pq;exact Dat.pqs_self ds
 |.lst ds=>by unfold Dat.pq;exact Dat.pqs_self ds
theorem Dat.pqs_self:∀a:kQ,Dat.pqs a a=true
 |[]=>by unfold Dat.pqs;rfl
 |a::as=>by unfold Dat.pqs;rw[Dat.pq_self a,Dat.pqs_self as];rfl
end
theorem GE:∀(J Z:kQ),((List.range<|min J.length Z.length).all (λi=>((J[i]?).getD .non).pq<|(Z[i]?).getD .non) && J.length==Z.length)=Dat.pqs J Z
 |[],[]=>by unfold Dat.pqs;rfl
 |[],_::_=>by unfold Dat.pqs;simp
 |_::_,[]=>by unfold Dat.pqs;simp
 |a::J,b::Z=>by
  have ih:=GE J Z;have e:min (a::J).length (b::Z).length=min J.length Z.length+1:=by simp only[Zf];omega
  rw[e,qj,qO,List.all_map];unfold Dat.pqs;rw[<-ih];have G:((a::J).length==(b::Z).length)=(J.length==Z.length):=by simp
  rw[G,Bool.and_assoc]
  rfl
def O6(h:Z.length=J.length):(List.range Z.length).all (λi=>((Z[i]?).getD .non).pq<|(J[i]?).getD .non)=Dat.pqs Z J:=by
 rw[<-GE Z J,h];simp
def S6(h:J.length≠Z.length):Dat.pqs J Z=false:=by
 rw[<-GE J Z];simp[h]
def UY{s:Shared}(G:HOk P w H s.heap)(h:H a=some (.tup J)):∃Z:kB,Vals J Z/\s.heap.IsTuple a Z.toArray:=by
 obtain⟨_,Z,r,p⟩:=(show VO P w H s.heap a (.tup J)from G a _ h);exact⟨Z,r,p.is⟩
def Uc{s:Shared}(G:HOk P w H s.heap)(h:H a=some (.lst J)):∃Z:kB,Vals J Z/\s.heap.IsList a Z.toArray:=by
 obtain⟨_,Z,n,r,p⟩:=(show VO P w H s.heap a (.lst J)from G a _ h);exact⟨Z,r,_,p,Y,n,Y⟩
structure Cmp(A:Around)(s:Shared)(u v:Value)(b:Bool):Prop where
 eq:EqAt A s u v b
 rc:RcAt A s u v b
 ne:RcNeAt A s u v (!b)
def Ef{A:Around}{F Q:kQ}{L G:kL}{J Z:kB}(ih:∀(I q:Dat){x y:V}{u v:Value},I.dep<=m->Has H x I->Has H y q->RelV x u->RelV y v->EqAt A s u v (I.pq q))(b:Dat.deps F<=m)(R:HasL H L F)(O:HasL H G Q)(r:Vals L J)(S:Vals G Z):∀j (P:j<J.toArray.size) (X:j<Z.toArray.size),EqAt A s J.toArray[j] Z.toArray[j] ((λi=>((F[i]?).getD .non).pq<|(Q[i]?).getD .non) j):=by
 intro j P X;have l:=r.length;have w:=S.length;rw[ZO]at P X;have C:j<L.length:=by omega
 have U:j<G.length:=by omega
 obtain⟨d,hd,c⟩:=R.get<|ZD C;obtain⟨f,E,D⟩:=O.get<|ZD U;obtain⟨g,B,N⟩:=r.get<|ZD C;obtain⟨t,T,M⟩:=S.get<|ZD U;have p:J.toArray[j]=g:=by have z:=(ZF.mp B).2;simpa using z
 have k:Z.toArray[j]=t:=by have z:=(ZF.mp T).2;simpa using z
 dsimp only;rw[p,k,hd,E];have e:=Dat.deps_get hd;exact ih d f (by omega) c D N M
def Nh(U:HOk P w H s.heap)(n:Nat)(ih:∀m,n=m+1->∀(C S:Dat)(A:Around){x y:V}{u v:Value},C.dep<=m->Has H x C->Has H y S->RelV x u->RelV y v->Vr (m+1) A->Cmp A s u v (C.pq S))(C S:Dat)(A:Around){x y:V}{u v:Value}(hn:C.dep<=n)(B:Has H x C)(Z:Has H y S)(j:RelV x u)(L:RelV y v)(i:Vr (n+1) A):Cmp A s u v (C.pq S):=by
 have G:=i.units0
 cases C with
 |non=>
  unfold Has at B;subst B;cases j
  cases S with
  |non=>unfold Has at Z;subst Z;cases L;unfold Dat.pq;exact⟨.same _,.none_none,.none_none⟩
  |bl b=>unfold Has at Z;subst Z;cases L;unfold Dat.pq;exact⟨.none_bool _,.none_bool _,.none_bool _⟩
  |int b=>unfold Has at Z;subst Z;obtain⟨Q,rfl⟩:=L;unfold Dat.pq;exact⟨.none_int _ _,.none_int _ _,.none_int _ _⟩
  |str b=>unfold Has at Z;subst Z;obtain⟨Q,rfl⟩:=L;unfold Dat.pq;exact⟨.none_str _ _,.none_str _ _,.none_str _ _⟩
  |tup O=>unfold Has at Z;obtain⟨p,X,rfl,R,_⟩:=Z;cases L;obtain⟨N,r,J⟩:=UY U R;unfold Dat.pq;exact⟨.none_tuple J G,.none_tuple J G,.none_tuple J G⟩
  |lst O=>unfold Has at Z;obtain⟨p,X,rfl,R,_⟩:=Z;cases L;obtain⟨N,r,J⟩:=Uc U R;unfold Dat.pq;exact⟨.none_list J G,.none_list J G,.none_list J G⟩
 |bl a=>
  unfold Has at B;subst B;cases j
  cases S with
  |non=>unfold Has at Z;subst Z;cases L;unfold Dat.pq;exact⟨.bool_none _,.bool_none _,.bool_none _⟩
  |bl b=>unfold Has at Z;subst Z;cases L;unfold Dat.pq;exact⟨.bool_bool _ _,.bool_bool _ _,.bool_bool _ _⟩
  |int b=>unfold Has at Z;subst Z;obtain⟨Q,rfl⟩:=L;unfold Dat.pq;exact⟨.bool_int _ _ _,.bool_int _ _ _,.bool_int _ _ _⟩
  |str b=>unfold Has at Z;subst Z;obtain⟨Q,rfl⟩:=L;unfold Dat.pq;exact⟨.bool_str _ _ _,.bool_str _ _ _,.bool_str _ _ _⟩
  |tup O=>unfold Has at Z;obtain⟨p,X,rfl,R,_⟩:=Z;cases L;obtain⟨N,r,J⟩:=UY U R;unfold Dat.pq;exact⟨.bool_tuple _ J G,.bool_tuple _ J G,.bool_tuple _ J G⟩
  |lst O=>unfold Has at Z;obtain⟨p,X,rfl,R,_⟩:=Z;cases L;obtain⟨N,r,J⟩:=Uc U R;unfold Dat.pq;exact⟨.bool_list _ J G,.bool_list _ J G,.bool_list _ J G⟩
 |int a=>
  unfold Has at B;subst B;obtain⟨t,rfl⟩:=j
  cases S with
  |non=>unfold Has at Z;subst Z;cases L;unfold Dat.pq;exact⟨.int_none _ _,.int_none _ _,.int_none _ _⟩
  |bl b=>unfold Has at Z;subst Z;cases L;unfold Dat.pq;exact⟨.int_bool _ _ _,.int_bool _ _ _,.int_bool _ _ _⟩
  |int b=>unfold Has at Z;subst Z;obtain⟨Q,rfl⟩:=L;unfold Dat.pq;exact⟨.int_int _ _ _ _,.int_int _ _ _ _,.int_int _ _ _ _⟩
  |str b=>unfold Has at Z;subst Z;obtain⟨Q,rfl⟩:=L;unfold Dat.pq;exact⟨.int_str _ _ _ _,.int_str _ _ _ _,.int_str _ _ _ _⟩
  |tup O=>unfold Has at Z;obtain⟨p,X,rfl,R,_⟩:=Z;cases L;obtain⟨N,r,J⟩:=UY U R;unfold Dat.pq;exact⟨.int_tuple _ _ J G,.int_tuple _ _ J G,.int_tuple _ _ J G⟩
  |lst O=>unfold Has at Z;obtain⟨p,X,rfl,R,_⟩:=Z;cases L;obtain⟨N,r,J⟩:=Uc U R;unfold Dat.pq;exact⟨.int_list _ _ J G,.int_list _ _ J G,.int_list _ _ J G⟩
 |str a=>
  unfold Has at B;subst B;obtain⟨t,rfl⟩:=j
  cases S with
  |non=>unfold Has at Z;subst Z;cases L;unfold Dat.pq;exact⟨.str_none _ _,.str_none _ _,.str_none _ _⟩
  |bl b=>unfold Has at Z;subst Z;cases L;unfold Dat.pq;exact⟨.str_bool _ _ _,.str_bool _ _ _,.str_bool _ _ _⟩
  |int b=>unfold Has at Z;subst Z;obtain⟨Q,rfl⟩:=L;unfold Dat.pq;exact⟨.str_int _ _ _ _,.str_int _ _ _ _,.str_int _ _ _ _⟩
  |str b=>unfold Has at Z;subst Z;obtain⟨Q,rfl⟩:=L;unfold Dat.pq;exact⟨.str_str _ _ _ _,.str_str _ _ _ _,.str_str _ _ _ _⟩
  |tup O=>unfold Has at Z;obtain⟨p,X,rfl,R,_⟩:=Z;cases L;obtain⟨N,r,J⟩:=UY U R;unfold Dat.pq;exact⟨.str_tuple _ _ J G,.str_tuple _ _ J G,.str_tuple _ _ J G⟩
  |lst O=>unfold Has at Z;obtain⟨p,X,rfl,R,_⟩:=Z;cases L;obtain⟨N,r,J⟩:=Uc U R;unfold Dat.pq;exact⟨.str_list _ _ J G,.str_list _ _ J G,.str_list _ _ J G⟩
 |tup D=>
  unfold Has at B;obtain⟨p,xs,rfl,R,F⟩:=B;cases j;obtain⟨N,r,J⟩:=UY U R
  cases S with
  |non=>unfold Has at Z;subst Z;cases L;unfold Dat.pq;exact⟨.tuple_none J G,.tuple_none J G,.tuple_none J G⟩
  |bl b=>unfold Has at Z;subst Z;cases L;unfold Dat.pq;exact⟨.tuple_bool _ J G,.tuple_bool _ J G,.tuple_bool _ J G⟩
  |int b=>unfold Has at Z;subst Z;obtain⟨Q,rfl⟩:=L;unfold Dat.pq;exact⟨.tuple_int _ _ J G,.tuple_int _ _ J G,.tuple_int _ _ J G⟩
  |str b=>unfold Has at Z;subst Z;obtain⟨Q,rfl⟩:=L;unfold Dat.pq;exact⟨.tuple_str _ _ J G,.tuple_str _ _ J G,.tuple_str _ _ J G⟩
  |lst O=>unfold Has at Z;obtain⟨q,X,rfl,h,_⟩:=Z;cases L;obtain⟨T,g,M⟩:=Uc U h;unfold Dat.pq;exact⟨.tuple_list J M G,.tuple_list J M G,.tuple_list J M G⟩
  |tup O=>
   unfold Has at Z;obtain⟨c,X,rfl,I,E⟩:=Z;cases L;obtain⟨T,g,M⟩:=UY U I;have l1:=F.length;have l2:=E.length;have l3:=r.length;have l4:=g.length;have dd:Dat.deps D+1<=n:=by unfold Dat.dep at hn;omega
   obtain⟨m,rfl⟩:∃m,n=m+1:=⟨n-1,by omega⟩;have d:=Ef (A:=A.in1) (λC S {x y u v} z B Z j L=>(ih m rfl C S A.in1 z B Z j L i.in1).eq) (show Dat.deps D<=m by omega) F E r g;have f:N.toArray.size=D.length:=by rw[ZO];omega
   have o:T.toArray.size=O.length:=by rw[ZO];omega
   have q:=RcAt.tuples (A:=A) J M G d;have k:=RcNeAt.tuples (A:=A) J M G d;rw[f,o,GE]at q k;have e0:(Dat.tup D).pq (Dat.tup O)=Dat.pqs D O:=by conv=>lhs;unfold Dat.pq
   rw[e0];refine⟨?_,q,k⟩
   by_cases e:p=c
   .subst e
    rw[R]at I;cases I;rw[HasL.inj D O F E,Dat.pqs_self];exact EqAt.same _
   .exact EqAt.of_refs e q
 |lst D=>
  unfold Has at B;obtain⟨p,xs,rfl,R,F⟩:=B;cases j;obtain⟨N,r,J⟩:=Uc U R
  cases S with
  |non=>unfold Has at Z;subst Z;cases L;unfold Dat.pq;exact⟨.list_none J G,.list_none J G,.list_none J G⟩
  |bl b=>unfold Has at Z;subst Z;cases L;unfold Dat.pq;exact⟨.list_bool _ J G,.list_bool _ J G,.list_bool _ J G⟩
  |int b=>unfold Has at Z;subst Z;obtain⟨Q,rfl⟩:=L;unfold Dat.pq;exact⟨.list_int _ _ J G,.list_int _ _ J G,.list_int _ _ J G⟩
  |str b=>unfold Has at Z;subst Z;obtain⟨Q,rfl⟩:=L;unfold Dat.pq;exact⟨.list_str _ _ J G,.list_str _ _ J G,.list_str _ _ J G⟩
  |tup O=>unfold Has at Z;obtain⟨q,X,rfl,h,_⟩:=Z;cases L;obtain⟨T,g,M⟩:=UY U h;unfold Dat.pq;exact⟨.list_tuple J M G,.list_tuple J M G,.list_tuple J M G⟩
  |lst O=>
   unfold Has at Z;obtain⟨c,X,rfl,I,E⟩:=Z;cases L;obtain⟨T,g,M⟩:=Uc U I;have l1:=F.length;have l2:=E.length;have l3:=r.length;have l4:=g.length;have dd:Dat.deps D+1<=n:=by unfold Dat.dep at hn;omega
   obtain⟨m,rfl⟩:∃m,n=m+1:=⟨n-1,by omega⟩;have d:=Ef (A:=A.in1) (λC S {x y u v} z B Z j L=>(ih m rfl C S A.in1 z B Z j L i.in1).eq) (show Dat.deps D<=m by omega) F E r g;have f:N.toArray.size=D.length:=by rw[ZO];omega
   have o:T.toArray.size=O.length:=by rw[ZO];omega
   have e0:(Dat.lst D).pq (Dat.lst O)=Dat.pqs D O:=by conv=>lhs;unfold Dat.pq
   rw[e0]
   have l:RcAt A s (.ref p) (.ref c) (Dat.pqs D O)/\RcNeAt A s (.ref p) (.ref c) (!Dat.pqs D O):=by
    by_cases e:D.length=O.length
    .have q:=RcAt.lists (A:=A) J M (by omega) G d
     have k:=RcNeAt.lists (A:=A) J M (by omega) G d;rw[f,O6 e]at q k;exact⟨q,k⟩
    .have z:(N.toArray.size !=T.toArray.size)=true:=by rw[f,o];simp[e]
     rw[S6 e];exact⟨RcAt.lists_lengths (A:=A) J M z G,RcNeAt.lists_lengths (A:=A) J M z G⟩
   refine⟨?_,l.1,l.2⟩
   by_cases e:p=c
   .subst e
    rw[R]at I;cases I;rw[HasL.inj D O F E,Dat.pqs_self];exact EqAt.same _
   .exact EqAt.of_refs e l.1
theorem Ms(G:HOk P w H s.heap):∀(n:Nat)(Z J:Dat)(A:Around){x y:V}{u v:Value},Z.dep<=n->Has H x Z->Has H y J->RelV x u->RelV y v->Vr (n+1) A->Cmp A s u v (Z.pq J)
 |0,Z,J,A,_,_,_,_,hn,hx,hy,ru,rv,hr=>Nh G 0 (λ_ e=>nomatch e) Z J A hn hx hy ru rv hr
 |n+1,Z,J,A,_,_,_,_,hn,hx,hy,ru,rv,hr=>Nh G (n+1) (λ_ e Z J A {_ _ _ _}=>by cases e;exact Ms G n Z J A) Z J A hn hx hy ru rv hr
section
def yn(k:Nat):R2:=λx y H Q=>∃d e,Has H x d/\Has H y e/\d.dep<=k/\Q (.bl<|d.pq e) H
def yk(k:Nat):R2:=λx y H Q=>∃d e,Has H x d/\Has H y e/\d.dep<=k/\Q (.bl<|!d.pq e) H
def Bo(L:Vr (k+1) X.A):OpR X (compareOp .Eq) (yn k):=by
 intro Z s U H x y v u Q I G J h;obtain⟨d,e,hd,N,M,q⟩:=h;exact(Ms I.hok k d e X.A M hd N G J L).rc _ _ _ _ ⟨.bl _,H,I,rfl,q⟩
def Bn(L:Vr (k+1) X.A):OpR X (compareOp .NotEq) (yk k):=by
 intro Z s U H x y v u Q I G J h;obtain⟨d,e,hd,N,M,q⟩:=h;exact(Ms I.hok k d e X.A M hd N G J L).ne _ _ _ _ ⟨.bl _,H,I,rfl,q⟩
end
end L2
namespace L2
open PySem PySem.Spec PyProof.Rows
mutual
def Dat.st:Dat->Bool
 |.str _=>true
 |.tup ds=>Dat.sts ds
 |_=>false
def Dat.sts:List Dat->Bool
 |[]=>true
 |d::ds=>d.st && Dat.sts ds
end
end L2
namespace L2
open PySem
inductive Shp where
 |tags (ts:List Str)
 |pair (a b:Str)
abbrev kS:=List (Str×Shp)
def Shp.dat:Shp->Dat
 |.tags ts=>.tup [.str "tags",.tup (ts.map Dat.str)]
 |.pair a b=>.tup [.str "pair",.str a,.str b]
def M0(s:J9 H p)(h:H a=some (.tup Z)):a≠p:=λe=>by
 obtain⟨_,_,_,_,q⟩:=s;rw[<-e,h]at q;cases q
end L2
namespace K4
open PySem L2
def Of:Yh ["stream","many"] ["stream","many"] (Yd BG):=Y2
def Tz:(Str.ofString "abcdefghijklmnopqrstuvwxyz")=alpha 97:=by decide +kernel
def RJ:(Str.ofString "ABCDEFGHIJKLMNOPQRSTUVWXYZ")=alpha 65:=by decide +kernel
section
variable{K:W.Frag}
def Rt:Sp:=λG H Q _=>∃(p:Addr)(many:Nat),G=[.ref p,.int many]/\J9 H p/\many<=8/\
 ∀(r:Addr)(J:kC)(Z:Hp),SameB p H Z->J9 Z p->H r=none->r≠p->Z r=some (.lst<|J.map V.str)->J.length=many->Wds 97 J->Q (.ref r) Z
def Kc(F:Fun K "_law_small" "_law_small" BG f B)(G:Ye P w K J base CX0 n g T ["stream","many","letters","ways"] W5)(I:Binds K T ["stream","many","letters","ways"] [])(M:W.keepIn K (.ref g)=true)(L:J "_law_words"=some (.ref g)):
  Ye P w K J base CX0 (n+1) f B ["stream","many"] Rt:=by
 refine F.oq Of λD A Z s H S Q E O h=>?_;obtain⟨p,many,rfl,N,R,q⟩:=h;exists _,YZ<|Yi<|JW G O rfl L M I .nil Y3 (pa4 (pv 0) (pv 1) Yw Ya);refine⟨p,many,97,4,?_,N,.inl Y,by decide,.inr ⟨by decide,R⟩,q⟩;rw[<-Tz];rfl
end
end K4
namespace L2
open PySem
def TK(H H':Hp):Prop:=∀b Z,H b=some (.tup Z)->H' b=some (.tup Z)
def Ny(h:H a=some u)(J:∀Z,u≠.tup Z):TK H (upd H a o):=λb Z e=>by
 rw[Yg (JQ e h λz=>J Z z.symm)];exact e
mutual
theorem B5{H Z:Hp}(b:TK H Z):∀(d:Dat){v:V},d.st=true->Has H v d->Has Z v d
 |.str _,_,_,h=>by unfold Has at h |-;exact h
 |.tup ds,_,t,h=>by
  unfold Has at h |-;obtain⟨a,J,M,L,G⟩:=h;unfold Dat.st at t;exact⟨a,J,M,b _ _ L,GU b ds t G⟩
 |.non,_,t,_=>by unfold Dat.st at t;cases t
 |.bl _,_,t,_=>by unfold Dat.st at t;cases t
 |.int _,_,t,_=>by unfold Dat.st at t;cases t
 |.lst _,_,t,_=>by unfold Dat.st at t;cases t
theorem GU{H L:Hp}(b:TK H L):∀(Z:kQ){J:kL},Dat.sts Z=true->HasL H J Z->HasL L J Z
 |[],[],_,h=>Z6
 |[],_::_,_,h=>by unfold HasL at h;exact h.elim
 |_::_,[],_,h=>by unfold HasL at h;exact h.elim
 |d::Z,x::J,t,h=>by
  unfold HasL at h;unfold Dat.sts at t;have G:=Bool.and_eq_true_iff.mp t;exact Z4 (B5 b d G.1 h.1)<|GU b Z G.2 h.2
end
def NS(k:Str×Shp):Dat:=.tup [.str k.1,k.2.dat]
def KK1(top:Nat)(c d:kT)(ahead:kC)(y:Str):Shp->Prop
 |.tags ts=>1<=ts.length/\ts.length<=4/\c y=1+ts.length/\d y=0/\ts.Nodup
 |.pair a b=>a∈ahead/\b∈ahead/\c y=1+c a*c b/\c y<=top/\d y=1+max (d a) (d b)/\d y<=2
def KK(top:Nat)(c d:kT)(ks:kS):Prop:=∀(i:Nat)(y:Str)(s:Shp),ks[i]?=some (y,s)->KK1 top c d ((ks.take i).map (·.1)) y s
structure KG(ks:List (Str×Shp)):Prop where
 nm:Wds 97 (ks.map (·.1))
 tg:∃tgs,Wds 65 tgs/\∀(i':Nat)(y:Str)(ts:List Str),ks[i']?=some (y,.tags ts)->∃r,r<4/\ts=(tgs.drop (4*i')).take (1+r)
 pr:∀(i1 i2:Nat)(y1 y2 a b:Str),ks[i1]?=some (y1,.pair a b)->ks[i2]?=some (y2,.pair a b)->i1=i2
def KG.tags(g:KG M)(h:(y,Shp.tags L)∈M):Wds 65 L:=by
 obtain⟨Z,w,q⟩:=g.tg;obtain⟨i,N,e⟩:=vY.mp h;obtain⟨r,_,rfl⟩:=q i y L (by rw[ZD N,e]);have J:∀z,z∈(Z.drop<|4*i).take (1+r)->z∈Z:=λz G=>jW<|Zk G;exact⟨w.nd.sublist<|(ju _ _).trans<|List.drop_sublist _ _,λz G=>w.len z<|J z G,λz G=>w.abc z<|J z G⟩
def take_snoc{α:Type}{l:List α}{a:α}(h:l[i]?=some a):l.take (i+1)=l.take i++[a]:=by
 have Z:=(ZF.mp h).1;rw[List.take_succ_eq_append_getElem Z,(ZF.mp h).2]
def OC(h:u D (U.set k<|some v) H):Yk (Ep (tC v)<|Vo k) u D U H:=h
def Ly(Z:kL)(k:Nat)(h:k<=Z.length):UW Z none (some (k:Int))=Z.take k:=by
 unfold UW;rw[HT.sIx_none,HT.sIx_nat,List.drop_zero,qW,vR h]
def LW(h:Has H x (NS (y,s))):∃a v,x=.ref a/\H a=some (.tup [.str y,v])/\Has H v s.dat:=by
 unfold NS Has at h;obtain⟨a,M,rfl,N,Z⟩:=h
 match M,Z with
 |[u,v],Z=>
  unfold HasL at Z;obtain⟨L,J⟩:=Z;unfold HasL at J;unfold Has at L;subst L;exact⟨a,v,Y,N,J.1⟩
 |[],Z=>unfold HasL at Z;exact Z.elim
 |[x],Z=>unfold HasL at Z;obtain⟨_,J⟩:=Z;unfold HasL at J;exact J.elim
 |_::_::_::_,Z=>unfold HasL at Z;obtain⟨_,J⟩:=Z;unfold HasL at J;obtain⟨_,G⟩:=J;unfold HasL at G;exact G.elim
def XA(Z:kO)(G:∀s1 J,Z s1 J->u D s1 J)(main:∀N:kO,(∀s1 J,Z s1 J->N s1 J)->t {D with nx:=N} U H):Yk t u D U H:=main _ G
end L2
namespace K4
open PySem L2
end K4
namespace L2
open PySem
def Ve(ks:kS)(y:Str):Option Shp:=(ks.find? λk=>decide<|k.1=y).map (·.2)
def Y6(ks:kS):Nat->Str->List W
 |0,_=>[]
 |n+1,y=>match Ve ks y with
  |none=>[]
  |some (.tags ts)=>.non::ts.map W.tag
  |some (.pair a b)=>.non::(Y6 ks n a).flatMap λu=>(Y6 ks n b).map λv=>.pair u v
def Xn(h:Ve Z y=some s):(y,s)∈Z:=by
 unfold Ve at h
 cases e:Z.find? λk=>decide (k.1=y)with
 |none=>rw[e]at h;cases h
 |some k=>
  rw[e]at h;have J:k.2=s:=ZT h;have q:=List.find?_some e;have m:=vm e;have z:k.1=y:=Zt q;rw[<-J,<-z];exact m
def JM(h:y∈Z.map (·.1)):∃s,Ve Z y=some s:=by
 obtain⟨k,J,rfl⟩:=ZW.mp h;unfold Ve
 cases e:Z.find? λz=>decide (z.1=k.1)with
 |none=>
  have q:=j5.mp e k J;simp at q
 |some z=>exact⟨z.2,Y⟩
def KK.at(h:KK top c d J)(e:Ve J y=some s):KK1 top c d (J.map (·.1)) y s:=by
 obtain⟨i,M,N⟩:=vY.mp<|Xn e;have q:=h i y s<|by rw[ZD M,N]
 have Z:∀z,z∈(J.take i).map (·.1)->z∈J.map (·.1):=λz G=>by
  obtain⟨k,L,rfl⟩:=ZW.mp G;exact ZW.mpr ⟨k,Zk L,Y⟩
 cases s with
 |tags O=>exact q
 |pair a b=>exact⟨Z a q.1,Z b q.2.1,q.2.2⟩
theorem NZ{α:Type}(f:α->List W)(k:Nat):∀(l:List α),(∀a∈l,(f a).length=k)->(l.flatMap f).length=l.length*k
 |[],_=>by simp
 |a::l,h=>by
  rw[qX,ZL,h a (by simp),NZ f k l λb Z=>h b (by simp[Z]),Zf,jq,Nat.add_comm]
theorem UQ(h:KK top c d J):∀(n:Nat)(y:Str),y∈J.map (·.1)->d y<n->(Y6 J n y).length=c y/\0<c y/\∀u∈Y6 J n y,u.dep<=d y
 |0,y,_,hd=>Zr hd<|Zw _
 |n+1,y,hy,hd=>by
  obtain⟨s,N⟩:=JM hy;have M:=h.at N;unfold Y6;rw[N]
  cases s with
  |tags L=>
   obtain⟨R,O,U,S,_⟩:=M;refine⟨?_,by omega,λu G=>?_⟩
   .show (W.non::L.map W.tag).length=c y
    rw[Zf,ZA];omega
   .have Z:u=.non\/u∈L.map W.tag:=Zd.mp G
    rcases Z with rfl|Z
    .exact Zc _
    .obtain ⟨x,_,rfl⟩:=ZW.mp Z
     exact Zc _
  |pair a b=>
   obtain⟨R,O,U,S,q,j⟩:=M;have E:=jf (d a)<|d b;have D:=jb (d a)<|d b;obtain⟨A,Q,X⟩:=UQ h n a R (by omega);obtain⟨F,P,C⟩:=UQ h n b O (by omega);refine⟨?_,by omega,λu G=>?_⟩
   .show (W.non::(Y6 J n a).flatMap λu=>(Y6 J n b).map λv=>.pair u v).length=c y
    rw[Zf,NZ _ (c b) _ (λa _=>by rw[ZA,F]),A];omega
   .have Z:u=.non\/u∈(Y6 J n a).flatMap λu=>(Y6 J n b).map λv=>.pair u v:=Zd.mp G
    rcases Z with rfl|Z
    .exact Zc _
    .obtain ⟨x,hx,hu2⟩:=List.mem_flatMap.mp Z
     obtain⟨z,I,rfl⟩:=ZW.mp hu2;have B:=X x hx;have T:=C z I;show 1+max x.dep z.dep<=d y;have:=Nat.max_le.mpr ⟨Zb B E,Zb T D⟩;omega
theorem UB(h:KK top c d Z):∀(n m:Nat)(y:Str),y∈Z.map (·.1)->d y<n->d y<m->Y6 Z n y=Y6 Z m y
 |0,_,_,_,h1,_=>Zr h1<|Zw _
 |_+1,0,_,_,_,h2=>Zr h2<|Zw _
 |n+1,m+1,y,hy,h1,h2=>by
  obtain⟨s,J⟩:=JM hy;have M:=h.at J;unfold Y6;rw[J]
  cases s with
  |tags N=>rfl
  |pair a b=>
   obtain⟨L,G,B,T,R,O⟩:=M;have E:=jf (d a)<|d b;have D:=jb (d a)<|d b;show(W.non::_)=(W.non::_);rw[UB h n m a L (by omega) (by omega),UB h n m b G (by omega) (by omega)]
theorem WI:∀{J:kC}{Z:kL},HasL H Z (J.map Dat.str)->Z=J.map V.str
 |[],[],_=>rfl
 |[],_::_,h=>by rw[jo]at h;unfold HasL at h;exact h.elim
 |_::_,[],h=>by rw[ZV]at h;unfold HasL at h;exact h.elim
 |t::J,z::Z,h=>by
  rw[ZV]at h;unfold HasL at h;obtain⟨G,L⟩:=h;unfold Has at G;rw[G,WI L];rfl
def wOf(ks:kS)(n:Nat):Shp->List W
 |.tags ts=>.non::ts.map W.tag
 |.pair a b=>.non::(Y6 ks n a).flatMap λu=>(Y6 ks n b).map λv=>.pair u v
def WD(h:Ve Z y=some s):Y6 Z (n+1) y=wOf Z n s:=by
 conv=>lhs;unfold Y6
 rw[h];cases s <;> rfl
def FI{α:Type}(f:α->List W){l:List α}{a:α}(h:l[i]?=some a):(l.take<|i+1).flatMap f=(l.take i).flatMap f++ f a:=by
 rw[take_snoc h,List.flatMap_append];simp
def Xz(h:Has H v (Shp.tags M).dat):∃p l,v=.ref p/\H p=some (.tup [.str "tags",.ref l])/\H l=some (.tup<|M.map V.str):=by
 unfold Shp.dat Has at h;obtain⟨p,T,rfl,B,Z⟩:=h
 match T,Z with
 |[u,v],Z=>
  unfold HasL at Z;obtain⟨O,J⟩:=Z;unfold HasL at J;unfold Has at O;subst O;have G:=J.1;unfold Has at G;obtain⟨l,R,rfl,N,L⟩:=G;have e:R=M.map V.str:=WI L;rw[e]at N;exact⟨p,l,Y,B,N⟩
 |[],Z=>unfold HasL at Z;exact Z.elim
 |[x],Z=>unfold HasL at Z;obtain⟨_,J⟩:=Z;unfold HasL at J;exact J.elim
 |_::_::_::_,Z=>unfold HasL at Z;obtain⟨_,J⟩:=Z;unfold HasL at J;obtain⟨_,G⟩:=J;unfold HasL at G;exact G.elim
def Ud(h:Has H v (Shp.pair a b).dat):∃p,v=.ref p/\H p=some (.tup [.str "pair",.str a,.str b]):=by
 unfold Shp.dat Has at h;obtain⟨p,N,rfl,O,Z⟩:=h
 match N,Z with
 |[u,v,w],Z=>
  unfold HasL at Z;obtain⟨M,J⟩:=Z;unfold HasL at J;obtain⟨J,G⟩:=J;unfold HasL at G;have G:=G.1;unfold Has at M J G;subst M J G;exact⟨p,Y,O⟩
 |[],Z=>unfold HasL at Z;exact Z.elim
 |[x],Z=>unfold HasL at Z;obtain⟨_,J⟩:=Z;unfold HasL at J;exact J.elim
 |[x,y],Z=>unfold HasL at Z;obtain⟨_,J⟩:=Z;unfold HasL at J;obtain⟨_,G⟩:=J;unfold HasL at G;exact G.elim
 |_::_::_::_::_,Z=>unfold HasL at Z;obtain⟨_,J⟩:=Z;unfold HasL at J;obtain⟨_,G⟩:=J;unfold HasL at G;obtain⟨_,L⟩:=G;unfold HasL at L;exact L.elim
theorem M5:∀Z:kC,HasL H (Z.map V.str)<|(Z.map W.tag).map W.dat
 |[]=>Z6
 |t::Z=>Z4 (by show Has H (.str t) (W.dat<|.tag t);unfold W.dat Has;rfl)<|M5 Z
end L2
namespace L2
open PySem PySem.Spec PyProof.Rows
section
def J3(K:W.Frag):R2:=λx y H Q=>∃a b Z,x=.ref a/\y=.ref b/\SqT K H a []/\SqT K H b Z/\Q (.ref b) H
def PP:OpR X (binaryOp .Add) (J3 X.K):=by
 intro O s U H x y v u Q I D B h;obtain⟨a,b,t,rfl,rfl,j,P,q⟩:=h;cases D;cases B;obtain⟨C,E,A,_⟩:=I.tuple j;obtain⟨Z,m,F,_⟩:=I.tuple P;cases E;obtain⟨⟨k,z,data,sl⟩,R,T,n,hd⟩:=id A;obtain⟨⟨g,N,data2,M⟩,J,L,S,G⟩:=id F;simp only at T hd L G;subst T hd L G;exact concat_meets ⟨_,R,Y⟩ ⟨_,J,Y⟩ noFill_tuple_add seq_tuple_add qh qd (qa _ _)
  (tuple_addW0 a b _ Z.toArray n S z N sl M rfl) ⟨R,J,.ref b,H,I,rfl,q⟩
def Jh:OpR X (binaryOp .Add) (λx y H Q=>J3 X.K x y H Q\/J1 X.K x y H Q):=PP.or MZ
end
def Jo:plainId "dict.update.loop"=true:=by decide +kernel
def X2:entryFor table "dict.update.loop"=some Builtin.«dict.update.loop»:=entryFor_of_fast<|by kernel_rfl
def vO{prog:Program}{w:World}(h₀:Heap)(vs:List (Key×Value))(i:Nat)(v:Value):Prop:=
 ∃a k J Z,v=.ref a/\vs[i]?=some (k,Z)/\h₀.IsTuple a #[J,Z]/\(Y9 prog w).is k J=true
def RM(Z:List (Key×Value))(T:(Z.map (·.1)).Nodup)(e:Z[i]?=some (k,u)):stored (Z.take i) k u=Z.take (i+1):=by
 obtain⟨A,F⟩:=ZF.mp e
 have L:(Z.take i).any (λG=>decide<|G.1=k)=false:=by
  rw[qY];intro J;obtain⟨G,B,D⟩:=jT.mp J;have M:G.1=k:=Zt D;obtain⟨j,E,R⟩:=vY.mp B;rw[ZN]at E;rw[List.getElem_take]at R;have N:j<(Z.map (·.1)).length:=by rw[ZA];omega
  have O:i<(Z.map (·.1)).length:=by rw[ZA];omega
  have q:(Z.map (·.1))[j]=(Z.map (·.1))[i]:=by
   rw[jC,jC,R,F,M]
  exact vW.mp T j i N O (by omega) q
 unfold stored;rw[L,List.take_add_one,e]
 rfl
section
variable{St:Nat->Heap->Prop}
def QC(W:Walks prog w A.in1 I fp wr n P St)(E:vs.length=n)(hsz:vs.length<=sizeLine)(hn:(vs.map (·.1)).Nodup)(hP:∀i v,P i v->vO (prog:=prog) (w:=w) h₀ vs i v)(d:Addr)(U:d∉fp)(hw:∀b o,h₀.get? b=some o->b∉wr/\b≠d)(O:Value):
  ∀(k i:Nat)(s:Shared)(j:Int)(t:Tok),n-i=k->i<=n->St i s.heap->s.heap.DictOf (Y9 prog w) d (vs.take i)->(∀b o,h₀.get? b=some o->s.heap.get? b=some o)->
  (∀J N,J.DictOf (Y9 prog w) d vs->(∀b o,b∉wr->b≠d->s.heap.get? b=some o->J.get? b=some o)->R (.ok<|.ret O) {s with heap:=J,toks:=N})->
  codeAny (model prog w) A (.builtin "dict.update.loop" ⟨[.ref d,.ref I,.int j t,O],[]⟩) R s:=by
 have S:d∉wr:=λh=>U<|W.sub _ h;intro k
 induction k with
 |zero=>
  intro i s j t hk hi G hd h0 r;have c:i=n:=by omega
  subst c;refine j7 X2 ?_;rw[Around.under_plainId Jo _];refine Zl (m:=pyNext<|.ref I)<|W.done s _ _ G λJ N Z=>Zl<|Zm<|Zm ?_;refine r J N ?_ λb o M _ e=>Z b o M e;rw[<-E,ka]at hd;obtain⟨o,x,ep,g,rest⟩:=hd;exact⟨o,x,ep,Z d o S g,rest⟩
 |succ k ih=>
  intro i s j t hk hi G hd h0 r;have D:i<n:=by omega
  refine j7 X2 ?_;rw[Around.under_plainId Jo _];refine Zl (m:=pyNext<|.ref I)<|W.item i s _ _ D G λv J N l T Z=>?_;obtain⟨a,J2,ku,vu,rfl,ev,ht,F⟩:=hP i v l;have Q:∀b o,h₀.get? b=some o->J.get? b=some o:=λb o e=>Z b o (hw b o e).1<|h0 b o e;obtain⟨o,g,hc,m,hdat⟩:=ht;have B:=Q a o g;have hT:({s with heap:=J,toks:=N}:Shared).TypeIs (.ref a) "tuple":=⟨o,B,hc⟩;refine Zl<|wpAny_holding<|Zl<|wpAny_tryCatch ?_;simp only[Builtin.Dict.pairItems];refine Zl (m:=typeOf<|.ref a)<|qI hT ?_;rw[Zp (by decide)];refine Zl<|vz B hdat<|Zm ?_;show wpAny _ A.in1 (holding [ku,vu]<|dictSet d ku vu) _ _ _
  have u:Heap.DictOf (Y9 prog w) J d (vs.take i):=by
   obtain⟨o1,x,ep,q,rest⟩:=hd;exact⟨o1,x,ep,Z d o1 S q,rest⟩
  refine wpAny_holding<|wpAny_dictSet_pairs (hsz:=by rw[ZN];omega) F u λh2 C L=>?_;rw[RM vs hn ev]at C;refine Zm ⟨qw Jo _,ih (i+1) _ (j+1) 0 (by omega) D (W.frame _ _ _ T λb M o e=>?_) C (λb o e=>?_) λh3 y f p=>?_⟩
  .exact (L.2 b λz=>U<|z ▸ M).trans e
  .exact (L.2 b (hw b o e).2).trans (Q b o e)
  .refine r h3 y f λb o M X e=>p b o M X<|(L.2 b X).trans<|Z b o M e
end
section
def OL(K:W.Frag)(H:Hp)(ts:kF)(kvs:kJ):Prop:=ts.length=kvs.length/\∀(i:Nat)(a:Addr)(k:Key)(y:V),ts[i]?=some a->kvs[i]?=some (k,y)->SqT K H a [kV k,y]
theorem NE(h:Heap):∀(L:kF)(Z:kJ),L.length=Z.length->(∀(i:Nat)(a:Addr)(k:Key)(y:V),L[i]?=some a->Z[i]?=some (k,y)->∃G J,h.IsTuple a #[G,J]/\RelV (kV k) G/\RelV y J)->
  ∃M,KV Z M/\∀(i:Nat)(a:Addr),L[i]?=some a->∃k G J,M[i]?=some (k,J)/\h.IsTuple a #[G,J]/\RelV (kV k) G
 |[],[],_,_=>⟨[],.nil,λi a e=>by simp at e⟩
 |[],_::_,e,_=>by simp at e
 |_::_,[],e,_=>by simp at e
 |t::L,kv::Z,e,hp=>by
  obtain⟨G,J,D,B,T⟩:=hp 0 t kv.1 kv.2 rfl rfl;obtain⟨M,r,R⟩:=NE h L Z (by simpa using e) λi a k y F E=>hp (i+1) a k y F E;refine⟨(kv.1,J)::M,.cons ⟨Y,T⟩ r,λi a O=>?_⟩
  cases i with
  |zero=>
   have N:some t=some a:=O;cases N;exact⟨kv.1,G,J,Y,D,B⟩
  |succ i=>exact R i a O
end
end L2
namespace L2
open PySem
def SameB.same(a:SameB p H Z)(f:H p=none):Same H Z:=λb o e=>a b o (Yb e f) e
def KK.small(h:KK 30 c d G)(L:y∈G.map (·.1)):d y<=2/\c y<=30:=by
 obtain⟨s,M⟩:=JM L;have Z:=h.at M
 cases s with
 |tags B=>obtain⟨T,R,O,J⟩:=Z;omega
 |pair a b=>obtain⟨T,R,O,J,D,N⟩:=Z;exact⟨N,J⟩
end L2
namespace L2
open PySem PySem.Spec PyProof.Rows
section
def P7{i:Nat}{Q:kz}(t:IsEnum s.heap e Z i old)(z:SI tp s.heap Z l i xs)(nl:l≠Z)(hx:xs[i]?=some x)(G:e≠Z)(hQ:∀g,IsEnumOut g e Z ((i:Int)+1) x s.heap.objs.size->SJ tp g Z l (i+1)->g.get? s.heap.objs.size=some {cls:=.type "tuple",data:=.seq #[.int i s.toks,x]}->g.objs.size=s.heap.objs.size+1->
   (∀b o,b≠e->b≠Z->s.heap.get? b=some o->g.get? b=some o)->Q (.ref s.heap.objs.size) {s with heap:=g,toks:=s.toks+1}):
  wpAny (model prog w) A (Builtin.«enumerate.__next__» ⟨[.ref e],[]⟩) (λf s'=>∃v,f=.done (.ret v)/\Q v s') E s:=by
 obtain⟨J,g,d,R,os⟩:=s;refine Zl (m:=field (.ref e) 2)<|Zo t rfl (x:=.ref Z) rfl ?_;refine Zl<|U9 z nl hx λU a s1=>?_;replace s1:Heap.SameBut Z J U:=s1;have j:IsEnum U e Z i old:=(s1.2 e G).trans t;refine Zl (m:=field (.ref e) 3)<|Zo j rfl (x:=rawInt i) rfl ?_;refine Zl (m:=field (.ref e) 4)<|Zo j rfl (x:=.none) rfl ?_;refine Zl (m:=mkInt i)<|wpAny_mkInt ?_;refine Zl (m:=setField (.ref e) 3<|rawInt<|(i:Int)+1)<|vk j (by simp) λS P N=>?_;replace N:Heap.SameBut e U S:=N;replace P:IsEnum S e Z ((i:Int)+1) old:=P;refine Zl (m:=setField (.ref e) 4 .none)<|vk P (by simp) λO X M=>?_;replace M:Heap.SameBut e S O:=M;replace X:IsEnum O e Z ((i:Int)+1) old:=X;refine Zl (m:=newTuple [.int i R,x])<|wpAny_newTuple ?_;have C:IsEnum (O.push {cls:=.type "tuple",data:=.seq #[.int i R,x]}) e Z ((i:Int)+1) old:=ZE _ X;generalize q4:O.push {cls:=.type "tuple",data:=.seq #[.int i R,x]}=g4 at C;have T:O.objs.size=J.objs.size:=by rw[M.1,N.1,s1.1]
 have el:e<J.objs.size:=ZP t;have t4:g4.get? J.objs.size=some {cls:=.type "tuple",data:=.seq #[.int i R,x]}:=by rw[<-q4,<-T];exact ZY _ Y
 have z4:g4.objs.size=J.objs.size+1:=by rw[<-q4,vX,T]
 have k4:∀b o,b≠e->b≠Z->J.get? b=some o->g4.get? b=some o:=λb o L n k=>by
  rw[<-q4];exact ZE _<|M.extBut b o L<|N.extBut b o L<|s1.extBut b o n k
 have j4:SJ tp g4 Z l (i+1):=by
  rw[<-q4];exact a.sj.to λo ho=>ZE _<|M.extBut _ o (Zs G)<|N.extBut _ o (Zs G) ho
 show wpAny _ _ (Builtin.SmallTypes.ownedTupleIsFree (.ref e) >>=_) _ _ ⟨g4,g,d,R+1,os⟩;rw[T];clear q4 X M P N j s1 a T O S U;refine Zl (m:=Builtin.SmallTypes.ownedTupleIsFree<|.ref e)<|Zl (m:=field (.ref e) 0)<|Zo C rfl (x:=.none) rfl (Zm ?_);simp only[if_true];refine Zl (jD<|Zl<|Zo C rfl (x:=old) rfl (Zl<|vk C (by simp) λc h F=>?_));replace F:Heap.SameBut e g4 c:=F;replace h:IsEnum c e Z ((i:Int)+1) x:=h;refine Zl (m:=Builtin.SmallTypes.ownedTupleHandOut (.ref e)<|.ref J.objs.size) ?_;simp only[Builtin.SmallTypes.ownedTupleHandOut];refine Zl<|vk h (by simp) λp r D=>?_;replace D:Heap.SameBut e c p:=D;replace r:IsEnumOut p e Z ((i:Int)+1) x J.objs.size:=r;refine vk r (by simp) λI u B=>?_;replace B:Heap.SameBut e p I:=B;replace u:IsEnumOut I e Z ((i:Int)+1) x J.objs.size:=u;have y:∀b o,b≠e->g4.get? b=some o->I.get? b=some o:=λb o L q=>B.extBut b o L<|D.extBut b o L<|F.extBut b o L q;refine Zl<|wpAny_letGo<|Zm ⟨_,rfl,hQ I u (j4.to λo q=>y _ o (Zs G) q) (y _ _ (jg el) t4) (by rw[B.1,D.1,F.1,z4]) λb o L n k=>y b o L<|k4 b o L n k⟩
def Pj{i:Nat}(G:IsEnum s.heap e Z i old)(z:SI N s.heap Z l i M)(O:l≠Z)(R:M[i]?=some x)(J:e≠Z)(T:∀g,IsEnumOut g e Z ((i:Int)+1) x s.heap.objs.size->SJ N g Z l (i+1)->g.get? s.heap.objs.size=some {cls:=.type "tuple",data:=.seq #[.int i s.toks,x]}->g.objs.size=s.heap.objs.size+1->
   (∀b o,b≠e->b≠Z->s.heap.get? b=some o->g.get? b=some o)->Q (some<|.ref s.heap.objs.size) {s with heap:=g,toks:=s.toks+1}):wpAny (model prog w) A (pyNext<|.ref e) Q E s:=by
 have L:s.TypeIs (.ref e) "enumerate":=⟨_,G,rfl⟩;simp only[pyNext];exact Zl (jZ (wpAny_callSpecial?_slot (name:=Str.ofString "__next__") L jX (vq jX L F.entry_enumerate_next
   (P7 G z O R J λg a b c d k=>Zm<|T g a b c d k) (F.args_enumerate_next_1 _))))
def Ap{i:Nat}(O:A.handled=none)(J:IsEnum s.heap e Z i old)(z:SI I s.heap Z l i L)(M:L[i]?=none)(B:∀g,Heap.ExtBut Z s.heap g->Q none {s with heap:=g}):wpAny (model prog w) A (pyNext<|.ref e) Q E s:=by
 have G:s.TypeIs (.ref e) "enumerate":=⟨_,J,rfl⟩;simp only[pyNext];refine Zl<|jZ<|wpAny_callSpecial?_slot (name:=Str.ofString "__next__") G jX<|vq jX G F.entry_enumerate_next ?_<|F.args_enumerate_next_1 _;refine Zl (m:=field (.ref e) 2)<|Zo J rfl (x:=.ref Z) rfl (Zl<|ME O z M λg y D ⟨o,N,R⟩=>?_);exact Zl<|jY (T:="StopIteration") (b:=true) ⟨o,N,R⟩ isSubtype_stop<|Zm<|B _ D
set_option tactic.hygienic true in
def FJ(J:Bool)(l:Addr)(N:kI):Meets (Builtin.«enumerate.__new__» ⟨[.type "enumerate",.ref l],[]⟩) (λ_ R s=>Wk J s.heap l N/\
   R (.ok<|.ret<|.ref (s.heap.push<|Ja J l).objs.size) {s with heap:=(s.heap.push<|Ja J l).push {cls:=.type "enumerate",data:=.fields #[.none,.bool false,.ref s.heap.objs.size,rawInt 0,.none,.none]}}):=
 .of_wp λO w A R s h=>by
  obtain⟨D,g,d,F,I⟩:=s;obtain⟨L,h⟩:=h;have B:=sub_enumerate;have T:Wk J (Shared.heap ⟨D,g,d,F,I⟩) l N:=L
  obtain⟨G,Z,S⟩:∃G,D.get? l=some G/\(∃E n,G.data=.seq E n):=by
   cases J with
   |false=>obtain⟨o,e,_,n,M⟩:=L;exact⟨o,e,_,n,M⟩
   |true=>obtain⟨o,e,_,n,M⟩:=L;exact⟨o,e,_,n,M⟩
  wp_walk using AutoSeq1.wpAny_loadPart' Z
  refine wpAny_stack_any λst=>Zm ?_
  split
  .rename_i c _ _ _ _ _
   cases(c==Value.type "enumerate") <;> (wp_walk using AutoSeq1.wpAny_loadPart' Z,W4 T;exact⟨_,Y,h⟩)
  .wp_walk using AutoSeq1.wpAny_loadPart' Z,W4 T
   exact⟨_,Y,h⟩
def QK(N:Wk Z s.heap l L)(h:∀g,IsEnum g (s.heap.objs.size+1) s.heap.objs.size 0 .none->SJ Z g s.heap.objs.size l 0->(∀c o,s.heap.get? c=some o->g.get? c=some o)->Q (.ref<|s.heap.objs.size+1) {s with heap:=g}):
  wpAny (model prog w) A (call (.type "enumerate") [.ref l]) Q E s:=by
 refine callType_new F.called_enumerate (by decide) (F.typeCall_enumerate_1 _) (F.newCall_enumerate_1 _) (λG=>F.args_object_init_2 G _) F.entry_enumerate_new (FJ Z l L) ⟨N,?_⟩;have O:(s.heap.push<|Ja Z l).objs.size=s.heap.objs.size+1:=vX ..;have J:((s.heap.push<|Ja Z l).push {cls:=.type "enumerate",data:=.fields #[.none,.bool false,.ref s.heap.objs.size,rawInt 0,.none,.none]}).get? (s.heap.push<|Ja Z l).objs.size=some _:=ZY _ rfl;have M:SJ Z ((s.heap.push<|Ja Z l).push {cls:=.type "enumerate",data:=.fields #[.none,.bool false,.ref s.heap.objs.size,rawInt 0,.none,.none]}) s.heap.objs.size l 0:=(SJ.new Z s.heap l).to λo q=>ZE _ q;show _/\_;rw[O]at J |-;exact⟨⟨_,J,Y⟩,h _ J M λc o q=>ZE _<|ZE _ q⟩
end
structure ER(h:Heap)(e it:Addr)(tp:Bool)(l:Addr)(k:Nat):Prop where
 enu:∃old,IsEnum h e it k old
 one:SJ tp h it l k
def Ite(K:W.Frag)(tp:Bool)(l:Addr):It:=
 ⟨λi H=>∃Z x,Sq K tp H l Z/\Z[i]?=some x,λi H v J=>∃r x,v=.ref r/\H r=none/\J=upd H r (.tup [.int (i:Nat),x])/\∀Z,Sq K tp H l Z->Z[i]?=some x,λi H=>∃Z,Sq K tp H l Z/\Z.length<=i⟩
def OU{P:Program}{w:World}{K:W.Frag}{O:kW}{x1}{Q:Pos}{e G l:Addr}{tp:Bool}(n1:e≠G)(n2:l≠G):Turn P w K (.Tuple O x1 Q) (Ite K tp l) [e,G] e (λi h=>ER h e G tp l i) where
 mem:=by simp
 obj:=λi h st b Z=>by
  have q:b=e\/b=G:=by simpa using Z
  rcases q with q|q <;> rw[q]
  .obtain ⟨L,N⟩:=st.enu
   exact⟨_,N,λv e=>nomatch e⟩
  .exact st.one.obj
 keep:=λi h h' st k=>⟨let⟨L,N⟩:=st.enu;⟨L,k e (by simp) _ N⟩,st.one.to λo q=>k G (by simp) o q⟩
 item:=by
  intro X r c n hc i J s U H E I M st u;subst r c n;obtain⟨xs,x,T,hx⟩:=u;obtain⟨p,C,D⟩:=I.sq T;obtain⟨F,d,S⟩:=C.get hx;obtain⟨L,B⟩:=st.enu;have R:e<s.heap.objs.size:=ZP B;refine Pj B (st.one.si D) n2 (x:=F) (by simpa using d) n1 λg ho hj ht sz m=>?_;have t:∀b o,b ∉ [e,G]->s.heap.get? b=some o->g.get? b=some o:=λb o Z q=>m b o (λz=>Z<|by simp[z]) (λz=>Z<|by simp[z]) q;have I1:Inv X J U H {s with heap:=g,toks:=s.toks+1}:=I.turnedL (t':=s.toks+1) t M;have f:H s.heap.objs.size=none:=I.hok.fresh<|ZG _;exists _,Y;refine wpAny_letOwnedTupleGo_enum (s:={s with heap:=g,toks:=s.toks+1}) ho λa e2 A=>?_
  have I2:Inv X J U H {s with heap:=a,toks:=s.toks+1}:=I1.turnedL (s:={s with heap:=g,toks:=s.toks+1}) (t':=s.toks+1) (ch:=[e]) (λb o Z q=>A.extBut b o (λz=>Z<|by simp[z]) q) λb Z=>by
   have q:b=e:=by simpa using Z
   rw[q];exact M e<|by simp
  have j:a.get? s.heap.objs.size=some {cls:=.type "tuple",data:=.seq #[.int i s.toks,F]}:=A.extBut _ _ (jg R) ht;have I3:Inv X J U (upd H s.heap.objs.size<|.tup [.int (i:Nat),x]) {s with heap:=a,toks:=s.toks+1}:=I2.retrack f (I.fpOk (ZG _) f) ⟨sl 2,[.int i s.toks,F],.cons ⟨_,rfl⟩<|.cons S .nil,⟨_,j,rfl,rfl,_,rfl⟩⟩
  have y:∀b∈ [e,G],b<s.heap.objs.size:=λb Z=>by
   have q:b=e\/b=G:=by simpa using Z
   rcases q with q|q <;> rw[q]
   .exact R
   .obtain ⟨o,q,_⟩:=st.one.obj
    exact ZP q
  refine⟨.ref s.heap.objs.size,_,I3,Y,⟨_,x,Y,f,Y,λzs h=>by rw[I.sq_inj h T];exact hx⟩,?_,λb Z=>?_⟩
  .exact ⟨⟨_,e2⟩,hj.to λo q=>A.extBut _ o (Zs n1) q⟩
  .rw [Yg (Ze<|y b Z)]
   exact(M b Z).1
 done:=by
  intro X r c n hc i J s U H E I M st u;subst r c n;obtain⟨xs,T,J2⟩:=u;obtain⟨p,C,D⟩:=I.sq T;have e1:=C.length;obtain⟨L,B⟩:=st.enu;refine Ap (I.ok.hd hc) B (st.one.si D) (by simp;omega) λg m=>⟨Y,?_⟩
  exact I.turnedL (t':=s.toks) (ch:=[G]) (λb o Z q=>m b o (λz=>Z<|by simp[z]) q) λb Z=>M b (by
   have q:b=G:=by simpa using Z
   rw[q];simp)
 self:=λ_ _ _ _ _ st h=>let⟨_,N⟩:=st.enu;wpAny_pyIter_enum N h
def DX:bootBuiltins "enumerate"=some (.type "enumerate"):=by decide +kernel
def zR(K:W.Frag)(ta:TA):TI:=λU H R=>ta U H λL J=>∃a Z G,L=[.ref a]/\Sq K Z J a G/\R (Ite K Z a) J
def XC(Q:Gl X "enumerate")(C:X.mg "enumerate"=none)(y:PA X [a] ta)(S:starEach [a] X.env=[(false,eval a X.env)]:=by rfl):PI X (.Tuple elts x1 tpos) (.Call (.Name "enumerate" p) [a] [] pos) (zR X.K ta):=by
 intro Z s U H R I h;refine Call_ (UN I Q C DX<|vo (thn (y pos Z s U H _ I h) λc s1 ⟨k,O,G,D,L⟩=>?_) (by rw[S];rfl)<|by rfl);obtain⟨l,d,m,e,L,q⟩:=L;subst e;obtain⟨u,rfl,T⟩:=vals1 D;cases T;obtain⟨A,B,M⟩:=G.sq L;have E:=M.lt;refine QK M λg N P F=>?_;refine wpAny_pyIter_enum (s:={s1 with heap:=g}) N ?_;have t:Inv X Z U O {s1 with heap:=g}:=G.kept (t':=s1.toks) F;refine⟨_,[s1.heap.objs.size+1,s1.heap.objs.size],_,_,O,Y,t,OU (Nat.succ_ne_self _)<|Ze E,⟨⟨_,N⟩,P⟩,λb j=>?_,q⟩
 have J:s1.heap.objs.size<=b:=by
  have z:b=s1.heap.objs.size+1\/b=s1.heap.objs.size:=by simpa using j
  rcases z with z|z <;> rw[z] <;> first|exact ZG _|exact vU _ _
 exact G.fpOk J<|G.hok.fresh J
end L2
namespace L2
open PySem PySem.Spec PyProof.Rows PySem.W PySem.Calls
end L2
namespace L2
open PySem PySem.Spec PyProof.Rows PySem.MeetsSeq
section
def DV:Js X (.type "dict") (λL H Q=>∃a Z,L=[.ref a]/\H a=some (.dK Z)/\∀l,H l=none->Q (.ref l) (upd H l<|.dK Z)):=by
 intro N s U H L F Q I r h;obtain⟨a,Z,rfl,D,q⟩:=h;obtain⟨u,rfl,T⟩:=vals1 r;cases T;obtain⟨O,B,E,M,hd⟩:=EX I.hok D;have J:=M.length;refine kt_call_dict (knd:=Y9 X.prog X.w) B hd (by rw[<-J];exact O) λA G R=>?_;refine⟨.ref s.heap.objs.size,_,I.laid (a:=s.heap.objs.size) (o:=.dK Z) (λb o e=>?_) (ZG _)<|Wn O (beq_eq_false_iff_ne.mpr<|Zs<|Ze I.big) M G,rfl,q _<|I.hok.fresh<|ZG _⟩;exact(R.2 b<|Ze<|ZP e).trans<|ZE _ e
end
end L2
namespace L2
open PySem PySem.Spec PyProof.Rows
def Its(x:Str):It:=⟨λi _=>i<x.cps.size,λi H v Z=>Z=H/\∃c,x.cps[i]?=some c/\v=.str ⟨#[c]⟩,λi _=>x.cps.size<=i⟩
def SIt(it:Addr)(x:Str)(i:Nat)(h:Heap):Prop:=∃ty t,(ty="str_ascii_iterator" \/ ty="str_iterator")/\h.IsStrIter it ty x t i
def LZ(h:Q () s):wpAny M A (letOwnedTupleGo tg Z<|.str y t) Q E s:=by
 unfold letOwnedTupleGo;cases tg <;> cases Z <;> exact Zm h
def Ft{P:Program}{w:World}{K:W.Frag}{a:Expr}(J:Addr)(x:Str):Turn P w K a (Its x) [J] J (SIt J x) where
 mem:=by simp
 obj:=λi h ⟨ty,t,_,o,p,_,hd⟩ b N=>by
  cases ZQ.mp N;exact⟨o,p,λv z=>by rw[hd]at z;cases z⟩
 keep:=λi h M ⟨ty,t,Z,o,p,r⟩ k=>⟨ty,t,Z,o,k J (by simp) o p,r⟩
 item:=by
  intro X d g f D i O s U H E I S ⟨ty,t,Z,st⟩ A;subst d g f;obtain⟨m,q,_,j,Q,C⟩:=S J (by simp);have F:∀(v:Value)(M:Heap)(R:Nat),SignAt x i v->SIt J x (i+1) M->(∀b o,b ∉ [J]->s.heap.get? b=some o->M.get? b=some o)->
    (∃u,some v=some u/\wpAny (model X.prog X.w) X.A (letOwnedTupleGo a (.ref J) u) (λ_ s2=>∃y n,Inv X O U n s2/\RelV y u/\(Its x).yld i H y n/\SIt J x (i+1) s2.heap/\∀b∈ [J],n b=none) E {s with heap:=M,toks:=R}):=λv M R B G T=>by
   obtain⟨c,u,hx,rfl⟩:=B;exact⟨_,Y,LZ ⟨.str ⟨#[c]⟩,H,I.turned (λb o N e=>T b o (by simpa using N) e) m q j Q C,⟨_,Y⟩,⟨Y,c,hx,Y⟩,G,λb N=>(S b N).1⟩⟩
  rcases Z with rfl|rfl
  .exact (Walks.strAscii (I.ok.hd D) J x t).item i s _ _ A st λv M R B G T=>F v M R B ⟨_,t,.inl rfl,G⟩ T
  .exact (Walks.strWide (I.ok.hd D) J x t).item i s _ _ A st λv M R B G T=>F v M R B ⟨_,t,.inr rfl,G⟩ T
 done:=by
  intro X d g f D i O s U H E I S ⟨ty,t,Z,st⟩ A;subst d g f;obtain⟨m,q,_,j,Q,C⟩:=S J<|by simp
  have L:x.cps[i]?=none:=by
   have z:x.cps.size<=i:=A;simp[z]
  rcases Z with rfl|rfl
  .exact wpAny_pyNext_ascii_end (I.ok.hd D) st L λM l=>⟨rfl,I.turned (t':=s.toks) (λb o N e=>l b o N e) m q j Q C⟩
  .exact wpAny_pyNext_wide_end (I.ok.hd D) st L λM l=>⟨rfl,I.turned (t':=s.toks) (λb o N e=>l b o N e) m q j Q C⟩
 self:=λ_ _ _ _ _ ⟨ty,t,Z,st⟩ h=>by
  rcases Z with rfl|rfl
  .exact wpAny_pyIter_striter_ascii st h
  .exact wpAny_pyIter_striter_wide st h
section
def yz(tl:TE):TI:=λU H R=>tl U H λv Z=>∃x,v=.str x/\R (Its x) Z
def S9(N:PE X l tl):PI X tg l (yz tl):=by
 intro Z s U H R I h;refine thn (N Z s U H _ I h) λv s1 ⟨y,L,G,M,x,e,q⟩=>?_;subst e;obtain⟨t,rfl⟩:=M
 have T:∀b∈ [s1.heap.objs.size],UA X Z L b:=λb O=>by
  cases ZQ.mp O;exact G.fpOk (ZG _)<|G.hok.fresh<|ZG _
 have go:∀(ty:String),(ty="str_ascii_iterator" \/ ty="str_iterator")->PIE X Z U tg R (.ref s1.heap.objs.size) {s1 with heap:=s1.heap.push {cls:=.type ty,data:=.fields #[.str x t,.int 0 0]}}:=λty J=>
  ⟨_,[s1.heap.objs.size],_,_,L,rfl,G.kept (t':=s1.toks) λb o e=>ZE _ e,Ft _ x,⟨ty,t,J,_,ZY _ rfl,rfl,rfl⟩,T,q⟩
 cases ha:x.cps.all (λc=>c<128)
 .exact wpAny_pyIter_wide ha (go _<|.inr rfl)
 .exact wpAny_pyIter_ascii ha (go _<|.inl rfl)
end
def VO.dk_ex(x:VO P w H h d (.dK Z)):∃u,h.get? d=some u:=let⟨_,_,_,_,o,_,_,e,_⟩:=x;⟨o,e⟩
def epO(o:Obj):Nat:=match o.data with|.dict _ ep=>ep|_=>0
section
def Inv.freeze(I:Inv X G U H s)(hd:H d=some (.dK Z))(O:s.heap.get? d=some o):Inv X G U (upd H d<|.frz o<|.dK Z) s:=by
 have L:∀b u,H b=some u->(∀l,u≠.dK l)->b≠d:=λb u e n z=>by subst z;rw[hd]at e;cases e;exact n Z Y
 have N:∀b,H b=none->b≠d:=λb e z=>by subst z;rw[hd]at e;cases e
 have J:=I.un (H':=upd H d<|.frz o<|.dK Z) (h':=s.heap) (t':=s.toks)
  ⟨λb u q _ _ _=>q,λb u q _ _ _=>⟨u.slots,q⟩,λb u q n _=>by rw[Yg (N b n)];exact n,λb u q _=>⟨u,q⟩,λb M q=>by rw[Yg (L b _ q (λl=>by intro z;cases z))];exact q,
   λb u v q=>by rw[Yg (L b _ q (λl=>by intro z;cases z))];exact q,λb R q=>⟨#[],by rw[Yg (L b _ q (λl=>by intro z;cases z)),q];simp⟩⟩ ?_
 .exact J
 .intro a u e
  by_cases z:a=d
  .subst z
   rw[Yf]at e;cases e;exact⟨O,I.hok a _ hd⟩
  .rw [Yg z]at e
   exact(I.hok a u e).stay (λb v _ q=>q) (λb q=>by rw[Yg (L b _ q (λl=>by intro z;cases z))];exact q) λb M q=>by rw[Yg (L b _ q (λl=>by intro z;cases z))];exact q
end
def Itd(d:Addr)(o:Obj)(kvs:kJ):It:=
 ⟨λi H=>H d=some (.frz o<|.dK kvs)/\i<kvs.length,λi H x J=>J=H/\∃Z,kvs[i]?=some Z/\x=kV Z.1,λi H=>H d=some (.frz o<|.dK kvs)/\kvs.length=i⟩
def Pq(h:V0 k v=true):RelV (kV k) v:=by
 rcases VN h with⟨i,t,rfl,rfl⟩|⟨x,t,rfl,rfl⟩
 .exact ⟨t,rfl⟩
 .exact ⟨t,rfl⟩
def Ah(J:V0 k v=true)(h:Q () s):wpAny M A (letOwnedTupleGo tg Z v) Q E s:=by
 rcases VN J with⟨i,t,rfl,rfl⟩|⟨x,t,rfl,rfl⟩
 .unfold letOwnedTupleGo
  cases tg <;> cases Z <;> exact Zm h
 .exact LZ h
section
def Inv.dict_at(I:Inv X M U H s)(hd:H d=some (.frz o<|.dK Z)):∃G,s.heap.DictAt (Y9 X.prog X.w) d G (epO o)/\KV Z G/\(d==sysModules)=false:=by
 obtain⟨N,_,B,G,O,F,D,E,J,T,L,R⟩:=(show VO X.prog X.w H s.heap d (.frz o<|.dK Z)from I.hok d _ hd);rw[N]at J;cases J;have e:epO o=E:=by unfold epO;rw[L]
 exact⟨G,⟨o,D,N,T,by rw[e];exact L,R⟩,O,B⟩
end
def B2{Z:List (κ×V)}{J:List (κ×Value)}(r:KV Z J):Z.length=J.length:=Paired.length r
theorem LG:∀{Z:List (κ×V)}{J:List (κ×Value)}(i:Nat)(k:κ)(u:Value),KV Z J->J[i]?=some (k,u)->∃v,Z[i]?=some (k,v)
 |_,_,i,k,u,.nil,e=>by simp at e
 |_,_,0,k,u,.cons (a:=p) (b:=q) r _,e=>by
  have L:some q=some (k,u):=e;cases L;obtain⟨G,v⟩:=p;have z:G=k:=r.1;subst z;exact⟨v,Y⟩
 |_,_,i+1,k,u,.cons _ t,e=>LG i k u t e
def Eo{P:Program}{w:World}{K:W.Frag}{a:Expr}(M d:Addr)(o:Obj)(Z:kJ):Turn P w K a (Itd d o Z) [M] M (λi h=>h.IsKeyIter M d i Z.length<|epO o) where
 mem:=by simp
 obj:=λi h ⟨D,Q,_,hd⟩ b G=>by
  cases ZQ.mp G;exact⟨D,Q,λv z=>by rw[hd]at z;cases z⟩
 keep:=λi h n ⟨D,Q,r⟩ k=>⟨D,k M (by simp) D Q,r⟩
 item:=by
  intro X y C q l i R s U H E I A st T;subst y C q;obtain⟨c,p,_,g,m,t⟩:=A M (by simp);obtain⟨N,L,B,_⟩:=I.dict_at T.1;have F:=B2 B;rw[F]at st;have u:i<N.length:=by have z:i<Z.length:=T.2;omega
  have f:N[i]?=some (N[i].1,N[i].2):=ZD u;obtain⟨v',j⟩:=LG i _ _ B f;refine wpAny_pyNext_dict_item st L f λS n J O x=>?_;rw[<-F]at O;exact⟨S,Y,Ah J ⟨_,H,I.turned (t':=s.toks) (λb o G e=>(x.2 b G).trans e) c p g m t,Pq J,⟨Y,_,j,Y⟩,O,λb G=>(A b G).1⟩⟩
 done:=by
  intro X y C q l i R s U H E I A st T;subst y C q;obtain⟨c,p,_,g,m,t⟩:=A M (by simp);obtain⟨N,L,B,_⟩:=I.dict_at T.1;have F:=B2 B;rw[F]at st;have u:Z.length=i:=T.2;exact wpAny_pyNext_dict_end (I.ok.hd l) st L (je.mpr<|by omega) λn eb=>⟨rfl,I.turned (t':=s.toks) (λb o G e=>eb b o G e) c p g m t⟩
 self:=λ_ _ _ _ _ st h=>wpAny_pyIter_keyiter st h
section
def zS(tl:TE):TI:=λU H R=>tl U H λv J=>∃d Z,v=.ref d/\J d=some (.dK Z)/\∀o,R (Itd d o Z)<|upd J d<|.frz o<|.dK Z
def O9(D:PE X l tl):PI X tg l (zS tl):=by
 intro Z s U H R I h;refine thn (D Z s U H _ I h) λv s1 ⟨y,F,M,O,d,G,e,hd,q⟩=>?_;subst e;cases O;obtain⟨o,T⟩:=(show VO X.prog X.w F s1.heap d (.dK G)from M.hok d _ hd).dk_ex;have J:=M.freeze hd T;obtain⟨A,L,N,B⟩:=J.dict_at Yf;refine wpAny_pyIter_dict B L ?_;rw[<-B2 N];refine⟨_,[s1.heap.objs.size],_,_,_,Y,J.kept (t':=s1.toks) λb o e=>ZE _ e,Eo _ d o G,⟨_,ZY _ Y,Y,Y⟩,λb E=>?_,q o⟩;cases ZQ.mp E;exact J.fpOk (ZG _)<|J.hok.fresh<|ZG _
def V4{st:Stmt}:PS X st (λ_ _ _=>False):=λ_ _ _ _ _ _ h=>h.elim
end
end L2
namespace L2
open PySem
inductive Bd where
 |tag (t:Str)|name (x:Str)|pair (a b:Bd)|one (e:Bd)|other (e:Bd)
 |choose (e:Bd) (ts:List Str) (bs:List Bd)|ask (f:Str) (as:List Bd)|letb (x k:Str) (e b:Bd)
mutual
def Bd.dat:Bd->Dat
 |.tag t=>.tup [.str "tag",.str t]
 |.name x=>.tup [.str "name",.str x]
 |.pair a b=>.tup [.str "pair",a.dat,b.dat]
 |.one e=>.tup [.str "one",e.dat]
 |.other e=>.tup [.str "other",e.dat]
 |.choose e ts bs=>.tup [.str "choose",e.dat,.tup (Bd.brs bs ts)]
 |.ask f as=>.tup [.str "ask",.str f,.tup (Bd.dats as)]
 |.letb x k e b=>.tup [.str "let",.str x,.str k,e.dat,b.dat]
def Bd.dats:List Bd->List Dat
 |[]=>[]
 |b::bs=>b.dat::Bd.dats bs
def Bd.brs:List Bd->List Str->List Dat
 |[],_=>[]
 |b::bs,t::ts=>.tup [.str t,b.dat]::Bd.brs bs ts
 |_::_,[]=>[]
end
def Bd.parts:Bd->List Bd
 |.tag _=>[]
 |.name _=>[]
 |.pair a b=>[a,b]
 |.one e=>[e]
 |.other e=>[e]
 |.choose e _ bs=>e::bs
 |.ask _ as=>as
 |.letb _ _ e b=>[e,b]
end L2
namespace L2
open PySem PySem.W PyProof.Rows
end L2
namespace L2
open PySem PySem.Spec PyProof.Rows
def Lq:typeLookup (.type "tuple") (Str.ofString "keys")=pure none:=am_miss_of_fast<|by decide +kernel
section
def Lr(B:Wu s.heap a G)(U:A.handled=none)(h:∀L M,(∀b o,s.heap.get? b=some o->L.get? b=some o)->Q none {s with heap:=L,toks:=M}):
  wpAny (model prog w) A (getAttr? (.ref a)<|Str.ofString "keys") Q E s:=by
 obtain⟨⟨c,j,y,sl⟩,N,hd,O,k,hdat⟩:=B;simp only at O hdat hd;subst O hdat hd;obtain⟨C,X,P,M,D⟩:=s;have Z:=F.slot_tuple_getattribute;have S:=Z.lookup;have z:=Z.bind<|.ref a;have I:=am_tuple_getattr_none;have q:=sub_AttributeError;have R:∀n,(Shared.mk C X P n D).TypeIs (.ref a) "tuple":=λn=>⟨_,N,rfl⟩;simp only[getAttr?,getAttrBy?,getAttrBy]
 repeat (any_goals (first|assumption|exact R _|((with_reducible show wpAny _ _ (call (Value.builtin "tuple.__getattribute__") _ _) _ _ _);refine qe F.slot_tuple_getattribute (R _) am_entry_tuple_getattribute (F.args_tuple_getattribute_2 _ _) (meets_getattribute_miss_tuple a G k sl (Str.ofString "keys") _ Lq (by decide +kernel)<|by size_fits) ⟨N,U,λL T e J=>?_⟩)|wp_step))
 have there:=J.there;obtain⟨_,_,t⟩:=there;refine(?_:wpAny _ _ (getattributeRaised _ _ _ _ _ _ _) _ _ _);simp only[getattributeRaised]
 repeat any_goals first|assumption|wp_step
 exact h _ _ J.keeps
end
section
def Wq(hc:X.calm=true):Js X (.type "dict") (λxs H Q=>∃(p:Addr)(L:kF)(Z:kJ),xs=[.ref p]/\H p=some (.tup<|L.map V.ref)/\OL X.K H L Z/\(Z.map (·.1)).Nodup/\∀l,H l=none->Q (.ref l) (upd H l<|.dK Z)):=by
 intro G3 s U H xs us Q I r h;obtain⟨p,L,Z,rfl,x,C,hn,q⟩:=h;obtain⟨u,rfl,c⟩:=vals1 r;cases c;obtain⟨w,G,r',d⟩:=(show VO X.prog X.w H s.heap p (.tup<|L.map V.ref)from I.hok p _ x);rw[ZA]at w
 have j:G.length=L.length:=by
  have:=r'.length;rw[ZA]at this;exact this.symm
 have G1:∀(i:Nat)(a:Addr),L[i]?=some a->G[i]?=some (Value.ref a):=λi a e=>by
  obtain⟨u,hu,c⟩:=r'.get (show(L.map V.ref)[i]?=some (V.ref a) by rw[ZH,e];rfl);rw[hu,show u=Value.ref a from c]
 obtain⟨vs,M,n⟩:=NE s.heap L Z C.1 λi a k y e1 e2=>by
  obtain⟨M2,r2,p2,_⟩:=I.tuple<|C.2 i a k y e1 e2
  cases r2 with
  |cons r1 t1=>
   cases t1 with
   |cons r3 t3=>
    cases t3;exact⟨_,_,p2,r1,r3⟩
 have J2:vs.length=G.toArray.size:=by rw[ZO,j,C.1,<-M.length]
 have B:vs.map (·.1)=Z.map (·.1):=by
  have G2:∀{l:kJ}{m:List (Key×Value)},KV l m->m.map (·.1)=l.map (·.1):=by
   intro l m q
   induction q with
   |nil=>rfl
   |cons x t ih=>rw[ZV,ZV,ih,x.1]
  exact G2 M
 have S:p<s.heap.objs.size:=by
  obtain⟨o,e,_⟩:=d;exact ZP e
 refine callType_codes (Q₁:=λob t=>ob=.ref s.heap.objs.size/\t={s with heap:=s.heap.push {cls:=.type "dict",data:=.dict #[]}}) F.kt_called_dict (F.kt_typeCall_dict_1 _) F.entry_dict_init (kt_code_dict_new _ ⟨Y,Y⟩) λob t g=>?_;obtain⟨rfl,rfl⟩:=g;have J:(s.heap.push {cls:=.type "dict",data:=.dict #[]}).DictOf (Y9 X.prog X.w) s.heap.objs.size []:=Heap.DictOf.new s.heap;have k0:∀b o,s.heap.get? b=some o->(s.heap.push {cls:=.type "dict",data:=.dict #[]}).get? b=some o:=λb o e=>ZE _ e;refine And.intro J.typeIs<|And.intro (F.args_dict_init_2 _ _) ?_;delta Builtin.«dict.__init__» Builtin.Dict.selfAndRest;refine Zl<|Zl<|wpAny_notOrdered_dict J.typeIs<|Zm (?_:wpAny _ _ (Builtin.Dict.updateFrom "dict.__init__" s.heap.objs.size (.ref p) [] .none) _ _ _);delta Builtin.Dict.updateFrom;have R:=d.keeps k0;refine Zl<|qI (T:="tuple") (show Shared.TypeIs _ _ _ from let⟨o,O,_,h2,_⟩:=R;⟨o,O,h2⟩) ?_;rw[Zp (by decide)];refine Zl<|Lr R (I.ok.hd hc) λO O1 N=>?_;simp only[Option.isNone_none,if_true];refine Zl<|jD ?_;refine Zl<|wpAny_pyIter_tuple (show Heap.IsTuple _ _ _ from(R.keeps N).is) ?_
 have z:s.heap.objs.size<O.objs.size:=by
  obtain⟨o,es,ep,ho,_⟩:=J;exact ZP<|N _ _ ho
 have f:∀b o,s.heap.get? b=some o->(O.push {cls:=.type "tuple_iterator",data:=.fields #[.ref p,.int 0 0]}).get? b=some o:=λb o e=>ZE _<|N b o<|k0 b o e;refine Zm ⟨qw Jo _,QC (Walks.tuple (A:=X.A.in1.in1) (I.ok.hd hc) O.objs.size p (Ze<|qS S z) G.toArray) (h₀:=s.heap) (vs:=vs) J2 (by rw[<-M.length,<-C.1];exact w) (by rw[B];exact hn) ?_ s.heap.objs.size ?_ ?_ .none _ 0 _ 0 0 rfl (Zc _) ?_ ?_ f ?_⟩
 .intro i v hv
  have hi:i<G.length:=by
   have:=(Array.getElem?_eq_some_iff.mp hv).1
   rwa [ZO]at this
  have g:i<L.length:=by omega
  obtain⟨k,ku,vu,e1,e2,e3⟩:=n i L[i]<|ZD g;refine⟨L[i],k,ku,vu,?_,e1,e2,XS e3⟩;have:=G1 i L[i]<|ZD g;have E:G[i]?=some v:=by simpa using hv
  rw[this]at E;exact(ZT E).symm
 .intro P
  have two:s.heap.objs.size=O.objs.size\/s.heap.objs.size=p:=by simpa using P
  rcases two with e|e
  .exact Zr e (Ze z)
  .exact Zr e (jg S)
 .intro b o e
  have D:=ZP e;refine⟨λP=>?_,Ze D⟩;have e':b=O.objs.size:=by simpa using P
  rw[e']at D;exact Zr z<|Nat.not_lt_of_lt D
 .exact ⟨⟨_,ZY _ rfl,rfl,rfl⟩,(show Heap.IsTuple _ _ _ from(d.keeps f).is)⟩
 .obtain ⟨o,es,ep,ho,rest⟩:=J
  exact⟨o,es,ep,ZE _<|N _ _ ho,rest⟩
 .intro h' tk hd' hk'
  refine⟨Y,.ref s.heap.objs.size,_,I.laid (a:=s.heap.objs.size) (o:=.dK Z) (λb o e=>?_) (ZG _)<|Wn (by rw[<-C.1];exact w) (beq_eq_false_iff_ne.mpr<|Zs<|Ze I.big) M hd',rfl,q _<|I.hok.fresh<|ZG _⟩;have D:=ZP e;refine hk' b o (λP=>?_) (Ze D)<|f b o e;have e':b=O.objs.size:=by simpa using P
  rw[e']at D;exact Zr z<|Nat.not_lt_of_lt D
end
end L2
namespace L2
open PySem
def Yv(h:Has H v (.tup J)):∃p Z,v=.ref p/\H p=some (.tup Z)/\HasL H Z J:=by unfold Has at h;exact h
def Yo(h:H p=some (.tup xs))(t:HasL H xs Z):Has H (.ref p) (.tup Z):=by unfold Has;exact⟨p,xs,Y,h,t⟩
def has_str(h:Has H v (.str x)):v=.str x:=by unfold Has at h;exact h
def Yz:Has H (.str x) (.str x):=by unfold Has;rfl
def Yc(h:HasL H Z (d::J)):∃x r,Z=x::r/\Has H x d/\HasL H r J:=by
 match Z,h with
 |[],h=>unfold HasL at h;exact h.elim
 |x::r,h=>unfold HasL at h;exact⟨x,r,Y,h.1,h.2⟩
def VA(h:HasL H Z []):Z=[]:=by
 match Z,h with
 |[],_=>rfl
 |_::_,h=>unfold HasL at h;exact h.elim
theorem Bd.dats_map:∀Z:List Bd,Bd.dats Z=Z.map Bd.dat
 |[]=>by unfold Bd.dats;rfl
 |b::Z=>by unfold Bd.dats;rw[Bd.dats_map Z];rfl
abbrev Z9:=@Bd.dats_map
theorem Bd.brs_len:∀{bs:List Bd}{ts:kC},bs.length=ts.length->(Bd.brs bs ts).length=ts.length
 |[],[],_=>by unfold Bd.brs;rfl
 |[],_::_,e=>by simp at e
 |_::_,[],e=>by simp at e
 |b::bs,t::ts,e=>by
  unfold Bd.brs;rw[Zf,Bd.brs_len<|by simpa using e,Zf]
theorem Bd.brs_get:∀{bs:List Bd}{ts:kC}{j:Nat}{d:Dat},(Bd.brs bs ts)[j]?=some d->∃b t,bs[j]?=some b/\ts[j]?=some t/\d=.tup [.str t,b.dat]
 |[],ts,j,d,e=>by unfold Bd.brs at e;simp at e
 |_::_,[],j,d,e=>by unfold Bd.brs at e;simp at e
 |b::bs,t::ts,0,d,e=>by
  unfold Bd.brs at e;have Z:some _=some d:=e;cases Z;exact⟨b,t,Y,Y,Y⟩
 |b::bs,t::ts,j+1,d,e=>by
  unfold Bd.brs at e;exact Bd.brs_get (bs:=bs) (ts:=ts) (j:=j) e
mutual
def Bd.ok:Bd->Prop
 |.tag _=>True
 |.name _=>True
 |.pair a b=>a.ok/\b.ok
 |.one e=>e.ok
 |.other e=>e.ok
 |.choose e ts bs=>e.ok/\bs.length=ts.length/\(1<=ts.length/\ts.length<=7)/\Bd.oks bs
 |.ask _ as=>as.length<=6/\Bd.oks as
 |.letb _ _ e b=>e.ok/\b.ok
def Bd.oks:List Bd->Prop
 |[]=>True
 |b::bs=>b.ok/\Bd.oks bs
end
theorem Bd.oks_mem:∀{Z:List Bd}{b:Bd},Bd.oks Z->b∈Z->b.ok
 |[],_,_,h=>nomatch h
 |c::Z,b,w,h=>by
  unfold Bd.oks at w;rcases Zd.mp h with rfl|h
  .exact w.1
  .exact Bd.oks_mem w.2 h
def Bd.ok_parts{b:Bd}(h:b.ok):∀c∈b.parts,c.ok:=by
 intro c Z
 cases b with
 |tag t=>cases Z
 |name x=>cases Z
 |pair a e=>
  unfold Bd.ok at h;simp only[Bd.parts,Zd,kh,or_false]at Z;rcases Z with rfl|rfl
  .exact h.1
  .exact h.2
 |one e=>unfold Bd.ok at h;simp only[Bd.parts,ZQ]at Z;rw[Z];exact h
 |other e=>unfold Bd.ok at h;simp only[Bd.parts,ZQ]at Z;rw[Z];exact h
 |choose e J G=>
  unfold Bd.ok at h;simp only[Bd.parts,Zd]at Z;rcases Z with rfl|Z
  .exact h.1
  .exact Bd.oks_mem h.2.2.2 Z
 |ask f L=>unfold Bd.ok at h;exact Bd.oks_mem h.2 Z
 |letb x k e g=>
  unfold Bd.ok at h;simp only[Bd.parts,Zd,kh,or_false]at Z;rcases Z with rfl|rfl
  .exact h.1
  .exact h.2
def Bd.few{b:Bd}(h:b.ok):b.parts.length<=8:=by
 cases b <;> (try (simp[Bd.parts];done)) <;> (unfold Bd.ok at h;simp only[Bd.parts,Zf,qr];omega)
end L2
namespace K4
open PySem L2
def Dy:Yh ["body","word"] ["body"] (Yd BH):=Y2
def Qk:List.Nodup [("tag":Str),"branch"]:=by decide +kernel
section
def Xl:Sp:=λJ H Q _=>∃(v:V)(b:Bd),J=[v]/\Has H v b.dat/\b.ok/\∀u Z,Same H Z->Has Z u (.tup<|Bd.dats b.parts)->Q u Z
def ok_parts(B:Blt mg)(F:Fun K "parts" "parts" BH f fd):Ye P w K mg base CX0 (n+1) f fd ["body"] Xl:=by
 refine F.oq Dy λR8 A G2 s H D Q E hr h=>?_;obtain⟨v,b,rfl,N,ok,q⟩:=h;refine⟨_,YY (Yx 1 Dy.nd<|Yr Yt (pv 0) Ya)
  (YY (Y5 (Ys XD (pv 1) (Yj<|pa2 Yw Yw)<|by rfl) (YZ<|Yi<|Yj VR) Yp)
  (YY (Y5 (Ys Vc (pv 1) Yw<|Y0 _) (YZ (Yi (Y7 MZ (Yj<|pa1<|Yr Yt (pv 0) Ya) (VZ Jj rfl B.tuple JC (pa1 (V6 ["tag","branch"] [] (J5<|Yr Yt (pv 0) Ya) Mm (λcl C fp s H=>Vg (n:=2) rfl (Yn (Yl 0 Qk rfl (Or.inl rfl) (Or.inr rfl))<|Yn (Yl 1 Qk rfl (Or.inl rfl) (Or.inr rfl)) VJ))
     (λcl C fp s H=>pv 1))))))) Yp)
  (YY (Y5 (Ys Vc (pv 1) Yw<|Y0 _) (YZ<|Yi<|Yr Yt (pv 0) Ya) Yp)
  (YY (Y5 (Ys Vc (pv 1) Yw<|Y0 _) (YZ<|Yi<|Vy IP (pv 0) (JE Ya) JV) Yp)
  (YZ<|Yi<|Vy IP (pv 0) (JE Ya) JV))))),?_⟩
 show let a:=_;let b:=_;let c:=Yk (VE _ b _) a;let d:=_;let e:=Yk (VE _ d _) c;let f:=_;let g:=Yk (VE _ f _) e;let h:=_;let i:=Yk (VE _ h _) g;Yk _ i _ _ _
 intros
 cases b with
 |tag t=>
  unfold Bd.dat at N;obtain⟨p,xs,rfl,L,O⟩:=Yv N;obtain⟨u,X,rfl,T,G⟩:=Yc O;obtain rfl:=has_str T;exists _,_,Z2 L,VD (j:=0) Y;refine⟨sl 2,λM J=>?_⟩;refine⟨M,_,Y,.inr<|Z2 Yf,rfl,rfl,_,rfl,VF (by decide +kernel) ?_⟩;exact⟨sl 0,λm Z=>q _ _ ((Yq J _).trans<|Yq Z _)<|Yo Yf (by simp only[Bd.parts,Bd.dats];exact Z6)⟩
 |name x=>
  unfold Bd.dat at N;obtain⟨p,xs,rfl,L,O⟩:=Yv N;obtain⟨u,X,rfl,T,G⟩:=Yc O;obtain rfl:=has_str T;exists _,_,Z2 L,VD (j:=0) Y;refine⟨sl 2,λM J=>?_⟩;refine⟨M,_,Y,.inr<|Z2 Yf,rfl,rfl,_,rfl,VF (by decide +kernel) ?_⟩;exact⟨sl 0,λm Z=>q _ _ ((Yq J _).trans<|Yq Z _)<|Yo Yf (by simp only[Bd.parts,Bd.dats];exact Z6)⟩
 |pair a e=>
  unfold Bd.dat at N;obtain⟨p,xs,rfl,L,O⟩:=Yv N;obtain⟨u,X,rfl,T,G⟩:=Yc O;obtain rfl:=has_str T;exists _,_,Z2 L,VD (j:=0) Y;refine⟨sl 2,λM J=>?_⟩;have s1:=Yq J<|.tup [V.str "tag",V.str "name"];refine⟨M,_,Y,.inr<|Z2 Yf,rfl,rfl,_,rfl,Y1 (by decide +kernel) ?_⟩;refine⟨Y,_,Y,Y1 (by decide +kernel) ?_⟩;refine⟨Y,_,Y,Y1 (by decide +kernel) ?_⟩;refine⟨Y,_,Y,Y1 (by decide +kernel) ?_⟩;refine⟨1,Y,p,_,Y,Z2<|s1 _ _ L,by simp[HT.sIx],λm Z=>q _ _ (s1.trans<|Yq Z _)<|Yo (xs:=X) (by rw[Yf];simp[UW,HT.sIx]) ?_⟩;exact(G.mono s1).mono<|Yq Z _
 |one e=>
  unfold Bd.dat at N;obtain⟨p,xs,rfl,L,O⟩:=Yv N;obtain⟨u,X,rfl,T,G⟩:=Yc O;obtain rfl:=has_str T;exists _,_,Z2 L,VD (j:=0) Y;refine⟨sl 2,λM J=>?_⟩;have s1:=Yq J<|.tup [V.str "tag",V.str "name"];refine⟨M,_,Y,.inr<|Z2 Yf,rfl,rfl,_,rfl,Y1 (by decide +kernel) ?_⟩;refine⟨Y,_,Y,Y1 (by decide +kernel) ?_⟩;refine⟨Y,_,Y,Y1 (by decide +kernel) ?_⟩;refine⟨Y,_,Y,Y1 (by decide +kernel) ?_⟩;refine⟨1,Y,p,_,Y,Z2<|s1 _ _ L,by simp[HT.sIx],λm Z=>q _ _ (s1.trans<|Yq Z _)<|Yo (xs:=X) (by rw[Yf];simp[UW,HT.sIx]) ?_⟩;exact(G.mono s1).mono<|Yq Z _
 |other e=>
  unfold Bd.dat at N;obtain⟨p,xs,rfl,L,O⟩:=Yv N;obtain⟨u,X,rfl,T,G⟩:=Yc O;obtain rfl:=has_str T;exists _,_,Z2 L,VD (j:=0) Y;refine⟨sl 2,λM J=>?_⟩;have s1:=Yq J<|.tup [V.str "tag",V.str "name"];refine⟨M,_,Y,.inr<|Z2 Yf,rfl,rfl,_,rfl,Y1 (by decide +kernel) ?_⟩;refine⟨Y,_,Y,Y1 (by decide +kernel) ?_⟩;refine⟨Y,_,Y,Y1 (by decide +kernel) ?_⟩;refine⟨Y,_,Y,Y1 (by decide +kernel) ?_⟩;refine⟨1,Y,p,_,Y,Z2<|s1 _ _ L,by simp[HT.sIx],λm Z=>q _ _ (s1.trans<|Yq Z _)<|Yo (xs:=X) (by rw[Yf];simp[UW,HT.sIx]) ?_⟩;exact(G.mono s1).mono<|Yq Z _
 |choose e ts bs=>
  unfold Bd.dat at N;obtain⟨p,xs,rfl,L,O⟩:=Yv N;obtain⟨u,X,rfl,T,G⟩:=Yc O;obtain rfl:=has_str T;obtain⟨r,r2,rfl,h2,U⟩:=Yc G;obtain⟨x3,r3,rfl,h3,S⟩:=Yc U;obtain rfl:=VA S;obtain⟨pz,zs,rfl,G1,J2⟩:=Yv h3;unfold Bd.ok at ok;obtain⟨o1,o2,o3,o4⟩:=ok;have lz:=J2.length;rw[Bd.brs_len o2]at lz;exists _,_,Z2 L,VD (j:=0) Y;refine⟨sl 2,λM J=>?_⟩;have s1:=Yq J<|.tup [V.str "tag",V.str "name"];refine⟨M,_,Y,.inr<|Z2 Yf,rfl,rfl,_,rfl,Y1 (by decide +kernel) ?_⟩;refine⟨Y,_,Y,VF (by decide +kernel) ?_⟩;refine⟨_,_,Z2<|s1 _ _ L,rfl,sl 1,λm Z=>?_⟩;have s2:=Yq Z<|.tup [r];have sA:=s1.trans s2;exists _,_,Z2<|sA _ _ L,rfl,⟨_,Z2<|sA _ _ G1⟩;have I:=sA _ _ G1;refine Va zs.length (Yu<|by omega) (λj D o=>o=upd (upd H M<|.tup [V.str "tag",V.str "name"]) m (.tup [r])/\D.length=j/\HasL H D ((bs.map Bd.dat).take j)) ⟨rfl,rfl,Z6⟩ (λj D o z=>z.2.1) ?_ ?_ ?_ ?_
  .rintro j D o hj ⟨rfl,_⟩
   exact⟨zs,zs[j],Z2 I,by simp[hj]⟩
  .rintro D o ⟨rfl,_⟩
   exact⟨zs,Z2 I,ZG _⟩
  .rintro j D o x H3 R hj ⟨rfl,z2,z3⟩ yl hR
   obtain⟨rfl,y⟩:=yl;obtain⟨d,hd,R1⟩:=J2.get<|y zs<|Z2 I;obtain⟨b,t0,R6,R7,rfl⟩:=Bd.brs_get hd;obtain⟨pp,ys,rfl,R3,G3⟩:=Yv R1;obtain⟨y1,r4,rfl,h4,O1⟩:=Yc G3;obtain⟨y2,r5,rfl,h5,M2⟩:=Yc O1;obtain rfl:=VA M2;exists _,Z2<|sA _ _ R3,rfl;refine hR _ _ ⟨Y,by rw[ZL,z2];rfl,?_⟩;rw[List.take_add_one,ZH,R6];exact Z7 z3<|Z5 h5
  .rintro D o l ⟨rfl,z2,z3⟩ hl3
   have s3:=Yq hl3<|.lst D;refine⟨l,_,Y,.inl ⟨Z3 Yf,λl4 R5=>?_⟩⟩;have s4:=Yq R5<|.tup D;have sB:=(sA.trans s3).trans s4;rw[Zg (by rw[ZA];omega)]at z3;have e1:Bd.dats (Bd.choose e ts bs).parts=e.dat::bs.map Bd.dat:=by rw[Z9];rfl
   refine⟨m,l4,[r],D,Y,Y,Z2<|s4 _ _<|s3 _ _ Yf,Z2 Yf,by simp,Zh (Yu (by simp only[vc];omega)),λe0=>?_,λ_ p5 R4=>?_⟩
   .refine q _ _ sB ?_
    rw[e1];subst e0
    have hb:bs=[]:=by
     have:=z3.length;simpa using this.symm
    rw[hb];exact Yo (s4 _ _<|s3 _ _ Yf)<|Z5<|h2.mono sB
   .have s5:=Yq R4<|.tup<|[r]++ D
    refine q _ _ (sB.trans s5) ?_;rw[e1];exact Yo Yf<|Z4 (h2.mono<|sB.trans s5)<|z3.mono<|sB.trans s5
 |ask g as=>
  unfold Bd.dat at N;obtain⟨p,xs,rfl,L,O⟩:=Yv N;obtain⟨u,X,rfl,T,G⟩:=Yc O;obtain rfl:=has_str T;obtain⟨r,r2,rfl,h2,U⟩:=Yc G;obtain⟨x3,r3,rfl,h3,S⟩:=Yc U;exists _,_,Z2 L,VD (j:=0) Y;refine⟨sl 2,λM J=>?_⟩;have s1:=Yq J<|.tup [V.str "tag",V.str "name"];refine⟨M,_,Y,.inr<|Z2 Yf,rfl,rfl,_,rfl,Y1 (by decide +kernel) ?_⟩;refine⟨Y,_,Y,Y1 (by decide +kernel) ?_⟩;refine⟨Y,_,Y,VF (by decide +kernel) ?_⟩;exact⟨_,_,Z2<|s1 _ _ L,VD (j:=2) rfl,q _ _ s1<|h3.mono s1⟩
 |letb x k e g=>
  unfold Bd.dat at N;obtain⟨p,xs,rfl,L,O⟩:=Yv N;obtain⟨u,X,rfl,T,G⟩:=Yc O;obtain rfl:=has_str T;obtain⟨r,r2,rfl,h2,U⟩:=Yc G;obtain⟨x3,r3,rfl,h3,S⟩:=Yc U;have lr:=S.length;exists _,_,Z2 L,VD (j:=0) Y;refine⟨sl 2,λM J=>?_⟩;have s1:=Yq J<|.tup [V.str "tag",V.str "name"];refine⟨M,_,Y,.inr<|Z2 Yf,rfl,rfl,_,rfl,Y1 (by decide +kernel) ?_⟩;refine⟨Y,_,Y,Y1 (by decide +kernel) ?_⟩;refine⟨Y,_,Y,Y1 (by decide +kernel) ?_⟩;refine⟨Y,_,Y,VF (by decide +kernel) ?_⟩;refine⟨3,Y,p,_,Y,Z2<|s1 _ _ L,by simp[HT.sIx],λm Z=>q _ _ (s1.trans<|Yq Z _)<|Yo (xs:=r3) (by rw[Yf];simp[UW,HT.sIx]) ?_⟩;exact(S.mono s1).mono<|Yq Z _
end
end K4
namespace L2
open PySem
def Bd.at:Bd->List Int->Option Bd
 |b,[]=>some b
 |b,i::r=>if 0<=i then(match b.parts[i.toNat]? with|some c=>Bd.at c r|none=>none)else none
end L2
namespace K4
open PySem L2
end K4
namespace L2
open PySem PySem.Spec PyProof.Rows
mutual
def Bd.size:Bd->Nat
 |.tag _=>1
 |.name _=>1
 |.pair a b=>1+(a.size+b.size)
 |.one e=>1+e.size
 |.other e=>1+e.size
 |.choose e _ bs=>1+(e.size+Bd.sizes bs)
 |.ask _ as=>1+Bd.sizes as
 |.letb _ _ e b=>1+(e.size+b.size)
def Bd.sizes:List Bd->Nat
 |[]=>0
 |b::bs=>b.size+Bd.sizes bs
end
mutual
def Bd.dep:Bd->Nat
 |.tag _=>0
 |.name _=>0
 |.pair a b=>1+max a.dep b.dep
 |.one e=>1+e.dep
 |.other e=>1+e.dep
 |.choose e _ bs=>1+max e.dep (Bd.deps bs)
 |.ask _ as=>1+Bd.deps as
 |.letb _ _ e b=>1+max e.dep b.dep
def Bd.deps:List Bd->Nat
 |[]=>0
 |b::bs=>max b.dep<|Bd.deps bs
end
def Bd.size_eq(b:Bd):b.size=1+Bd.sizes b.parts:=by
 cases b <;> simp[Bd.size,Bd.sizes,Bd.parts]
theorem Bd.deps_mem:∀{Z:List Bd}{b:Bd},b∈Z->b.dep<=Bd.deps Z
 |[],_,h=>nomatch h
 |c::Z,b,h=>by
  unfold Bd.deps;rcases Zd.mp h with rfl|h
  .exact jf _ _
  .exact Zb (Bd.deps_mem h) (jb _ _)
def Bd.dep_mem{b c:Bd}(h:c∈b.parts):c.dep<b.dep:=by
 have hd:=Bd.deps_mem h;cases b <;> simp only[Bd.parts,Bd.deps,Bd.dep,kh]at * <;> first|exact h.elim|omega
end L2
namespace K4
open PySem L2
end K4
namespace L2
open PySem
abbrev Hds:=Str->Option (List (Str×Str)×Str)
inductive Kd(ks:List (Str×Shp))(hd:Hds):List (Key×V)->Str->Bd->Prop
 |tag {g:List (Key×V)}{y t:Str}{ts:List Str}:Ve ks y=some (.tags ts)->t∈ts->Kd ks hd g y (.tag t)
 |name {g:List (Key×V)}{y x:Str}:VC g (Sum.inr x)=some (.str y)->Kd ks hd g y (.name x)
 |pair {g:List (Key×V)}{y a b:Str}{A B:Bd}:Ve ks y=some (.pair a b)->Kd ks hd g a A->Kd ks hd g b B->Kd ks hd g y (.pair A B)
 |one {g:List (Key×V)}{y z b:Str}{e:Bd}:Ve ks z=some (.pair y b)->Kd ks hd g z e->Kd ks hd g y (.one e)
 |other {g:List (Key×V)}{y z a:Str}{e:Bd}:Ve ks z=some (.pair a y)->Kd ks hd g z e->Kd ks hd g y (.other e)
 |choose {g:List (Key×V)}{y z:Str}{ts:List Str}{e:Bd}{bs:List Bd}:Ve ks z=some (.tags ts)->Kd ks hd g z e->bs.length=ts.length->(∀b∈bs,Kd ks hd g y b)->Kd ks hd g y (.choose e ts bs)
 |ask {g:List (Key×V)}{y f:Str}{ps:List (Str×Str)}{as:List Bd}:hd f=some (ps,y)->as.length=ps.length->(∀(i:Nat)(a:Bd)(p:Str×Str),as[i]?=some a->ps[i]?=some p->Kd ks hd g p.2 a)->Kd ks hd g y (.ask f as)
 |letb {g:List (Key×V)}{y x z:Str}{e b:Bd}:VC g (Sum.inr x)=none->z∈ks.map (·.1)->Kd ks hd (putK g (Sum.inr x) (.str z)) z e->Kd ks hd (putK g (Sum.inr x) (.str z)) y b->Kd ks hd g y (.letb x z e b)
def hdD(ps:List (Str×Str))(k:Str):Dat:=.tup [.tup (ps.map λp=>.tup [.str p.1,.str p.2]),.str k]
def Ag(Z:List (Str×Str))(k:Str):(hdD Z k).st=true:=by
 have:∀Z:List (Str×Str),Dat.sts (Z.map λp=>Dat.tup [.str p.1,.str p.2])=true:=by
  intro Z
  induction Z with
  |nil=>unfold List.map Dat.sts;rfl
  |cons p Z ih=>rw[ZV];unfold Dat.sts;rw[ih];simp[Dat.st,Dat.sts]
 simp[hdD,Dat.st,Dat.sts,this]
theorem Eh:∀{Z:List Bd}{J:kC},Dat.sts (Bd.dats Z)=true->Dat.sts (Bd.brs Z J)=true
 |[],_,_=>by unfold Bd.brs Dat.sts;rfl
 |b::Z,[],_=>by unfold Bd.brs Dat.sts;rfl
 |b::Z,t::J,h=>by
  unfold Bd.dats Dat.sts at h;rw[ZZ]at h;unfold Bd.brs Dat.sts;rw[Eh h.2];simp[Dat.st,Dat.sts,h.1]
mutual
theorem Bd.st:∀b:Bd,b.dat.st=true
 |.tag t=>by simp[Bd.dat,Dat.st,Dat.sts]
 |.name t=>by simp[Bd.dat,Dat.st,Dat.sts]
 |.pair a b=>by simp[Bd.dat,Dat.st,Dat.sts,Bd.st a,Bd.st b]
 |.one a=>by simp[Bd.dat,Dat.st,Dat.sts,Bd.st a]
 |.other a=>by simp[Bd.dat,Dat.st,Dat.sts,Bd.st a]
 |.choose e G Z=>by simp[Bd.dat,Dat.st,Dat.sts,Bd.st e,Eh (Bd.sts Z)]
 |.ask f J=>by simp[Bd.dat,Dat.st,Dat.sts,Bd.sts J]
 |.letb x k e b=>by simp[Bd.dat,Dat.st,Dat.sts,Bd.st e,Bd.st b]
theorem Bd.sts:∀Z:List Bd,Dat.sts (Bd.dats Z)=true
 |[]=>by unfold Bd.dats Dat.sts;rfl
 |b::Z=>by unfold Bd.dats Dat.sts;rw[Bd.st b,Bd.sts Z];rfl
end
def Fp{Z:kJ}(h:VC Z k=some v):∃J∈Z,J.1=k/\J.2=v:=by
 unfold VC at h
 cases e:Z.find? (λJ=>decide<|J.1=k)with
 |none=>rw[e]at h;cases h
 |some J=>
  rw[e]at h;exact⟨J,vm e,by simpa using List.find?_some e,ZT h⟩
theorem U6:∀Z:kC,HasL H (Z.map V.str)<|Z.map Dat.str
 |[]=>Z6
 |n::Z=>Z4 Yz<|U6 Z
def zK{Z:kC}(h:H a=some (.lst<|Z.map V.str)):Has H (.ref a) (.lst<|Z.map Dat.str):=Pp h<|U6 Z
def M7(Z:kC):(Dat.lst<|Z.map Dat.str).dep<=1:=by
 have:∀Z:kC,Dat.deps (Z.map Dat.str)=0:=by
  intro Z
  induction Z with
  |nil=>unfold List.map Dat.deps;rfl
  |cons n Z ih=>rw[ZV];unfold Dat.deps;rw[ih];unfold Dat.dep;rfl
 unfold Dat.dep;rw[this];decide
def S7(Z:kQ):(Dat.lst Z).pq (.lst [])=Z.isEmpty:=by
 unfold Dat.pq
 cases Z with
 |nil=>unfold Dat.pqs;rfl
 |cons d Z=>unfold Dat.pqs;rfl
def Dn(h:H r=some (.tup [.str a,.str b])):Has H (.ref r) (.tup [.str a,.str b]):=Yo h<|Z4 Yz<|Z4 Yz Z6
def J9.sm(s:J9 H p)(e:Same H Z):J9 Z p:=let⟨a,b,c,d,h⟩:=s;⟨a,b,c,d,e _ _ h⟩
end L2
namespace K4
open PySem L2
section
variable{P:Program}{w:World}{K:W.Frag}{mg:Str->Option Value}{base:Heap}
def Df(P:Program)(w:World)(K:W.Frag)(mg:Str->Option Value)(base:Heap)(n:Nat)(x:Str)(ps:kC)(sp:Sp):Prop:=
 ∃(g:Addr)(Z:FuncData),mg x=some (.ref g)/\W.keepIn K (.ref g)=true/\Binds K Z ps []/\Ye P w K mg base CX0 n g Z ps sp
def VP{X:Cx}(D:Df X.prog X.w X.K X.mg X.base k x B M)(N:Vr k X.A)(T:PA X (e::Z) t)(O:Gl X x:=by exact Y)(L:(x==("__debug__":Str))=false:=by decide)(R:starEach (e::Z) X.env=(false,eval e X.env)::starEach Z X.env:=by rfl)(J:(backTo pos<|starEach Z X.env).any (·.1)=false:=by rfl):
  PE X (.Call (.Name x p) (e::Z) [] pos) (M6 M [] E0 t):=let⟨_,_,m,k,b,G⟩:=D;JW G N O m k b .nil Y3 T L R J
def Df.up(d:Df P w K mg base n x J Z)(h:n<=m):Df P w K mg base m x J Z:=
 let⟨g,O,N,M,L,G⟩:=d;⟨g,O,N,M,L,G.mono h⟩
end
end K4
namespace L2
open PySem
end L2
namespace K4
open PySem L2
end K4
namespace L2
open PySem
def Xx(h:Has H v (.tup [.str a,.str b])):∃t,v=.ref t/\H t=some (.tup [.str a,.str b]):=by
 obtain⟨t,O,rfl,G,L⟩:=Yv h;obtain⟨T,D,rfl,N,J⟩:=Yc L;obtain⟨R,B,rfl,M,Z⟩:=Yc J;obtain rfl:=VA Z;obtain rfl:=has_str N;obtain rfl:=has_str M;exact⟨t,Y,G⟩
end L2
namespace K4
open PySem L2
end K4
namespace L2
open PySem
def Same.putN(s:Same H0 H)(h:H0 p=none):Same H0 (upd H p o):=λb u e=>by
 rw[Yg (Yb e h)];exact s b u e
end L2
namespace K4
open PySem L2
end K4
namespace L2
open PySem PySem.Spec PyProof.Rows
section
def DU:Js X (.type "dict") (λL H Q=>∃a Z,L=[.ref a]/\Rd H a (.dK Z)/\∀l,H l=none->Q (.ref l) (upd H l<|.dK Z)):=by
 intro N s U H L F Q I r h;obtain⟨a,Z,rfl,D,q⟩:=h;obtain⟨u,rfl,T⟩:=vals1 r;cases T;obtain⟨O,B,E,M,hd⟩:=W0 I.hok D;have J:=M.length;refine kt_call_dict (knd:=Y9 X.prog X.w) B hd (by rw[<-J];exact O) λA G R=>?_;refine⟨.ref s.heap.objs.size,_,I.laid (a:=s.heap.objs.size) (o:=.dK Z) (λb o e=>?_) (ZG _)<|Wn O (beq_eq_false_iff_ne.mpr<|Zs<|Ze I.big) M G,rfl,q _<|I.hok.fresh<|ZG _⟩;exact(R.2 b<|Ze<|ZP e).trans<|ZE _ e
end
end L2
namespace L2
open PySem
def Iv{Z:kJ}(h:J∈putK Z k v):J∈Z\/J=(k,v):=by
 unfold putK at h
 split at h
 .obtain ⟨q,hq,e⟩:=ZW.mp h
  by_cases z:q.1=k
  .rw [Zp z]at e;exact .inr<|by rw[<-e,z]
  .rw [Zq z]at e;exact .inl (by rw[<-e];exact hq)
 .rcases ZX.mp h with h|h
  .exact .inl h
  .exact .inr (ZQ.mp h)
def ND(Z:kJ)(k:Key)(v:V):(putK Z k v).length<=Z.length+1:=by
 unfold putK
 split
 .rw [ZA];omega
 .rw [ZL];exact ZG _
end L2
namespace K4
open PySem L2
end K4
namespace L2
open PySem
abbrev Hd:=Str×List (Str×Str)×Str
def WdS(y:Str):Prop:=1<=y.length/\y.length<=8/\∀c∈y.cps.toList,97<=c/\c<97+26
def V3(c:kT)(ps:List (Str×Str)):Nat:=ps.foldl (λr p=>r*c p.2) 1
def Gy(c:kT)(Z:List (Str×Str))(p:Str×Str):V3 c (Z++[p])=V3 c Z*c p.2:=by unfold V3;rw[j8];rfl
structure FZ(ns:List Str)(c:Str->Nat)(top:Nat)(h:Hd):Prop where
 len:h.2.1.length<=3
 kin:∀p∈h.2.1,p.2∈ns
 own:h.2.2∈ns
 nd:(h.2.1.map (·.1)).Nodup
 spl:∀p∈h.2.1,WdS p.1
 rows:V3 c h.2.1<=top
def Ri{Z:kJ}(h:k∉Z.map (·.1)):VC Z k=none:=by
 unfold VC
 rw[j5.mpr (λJ G=>by
  intro z;exact h<|ZW.mpr ⟨J,G,Zt z⟩)]
 rfl
def RB{Z:kC}(J:Z.Nodup)(h:Z[i]?=some y):y∉Z.take i:=by
 have e:=take_snoc h;have s:(Z.take i++[y]).Nodup:=by rw[<-e];exact J.sublist<|ju _ _
 exact λz=>(jh.mp s).2.2 y z y (ZQ.mpr Y) Y
def Wds.wdS(w:Wds 97 Z)(h:y∈Z):WdS y:=⟨(w.len y h).1,(w.len y h).2,w.abc y h⟩
end L2
namespace K4
open PySem L2
end K4
namespace L2
open PySem
theorem Iy:∀{G:List (Str×Str)}{Z:kL},HasL H Z (G.map λp=>.tup [.str p.1,.str p.2])->∃(J:kF),Z=J.map V.ref/\OL K H J (G.map λp=>((Sum.inr p.1:Key),V.str p.2))
 |[],Z,h=>by
  obtain rfl:=VA h;exact⟨[],Y,Y,λi a k y e=>by simp at e⟩
 |q::G,Z,h=>by
  rw[ZV]at h;obtain⟨x,r,rfl,E,D⟩:=Yc h;obtain⟨t,rfl,B⟩:=Xx E;obtain⟨J,rfl,T,R⟩:=Iy (K:=K) D;refine⟨t::J,Y,by simp[T],λi b k y O N=>?_⟩
  cases i with
  |zero=>
   have M:some t=some b:=O;have L:some ((Sum.inr q.1:Key),V.str q.2)=some (k,y):=N;cases M;cases L;exact Z2 B
  |succ i=>exact R i b k y O N
abbrev Dd:=Hd×Bd
def Tq(x:Dd):Dat:=.tup [.str x.1.1,.tup<|x.1.2.1.map λp=>.tup [.str p.1,.str p.2],.str x.1.2.2,x.2.dat]
def kvP(ps:List (Str×Str)):kJ:=ps.map λp=>((Sum.inr p.1:Key),V.str p.2)
def V1(hs:List Hd):Hds:=λf=>(hs.find? λh=>decide<|h.1=f).map (·.2)
def D9(J:List (Str×Str)):Dat.sts (J.map λp=>Dat.tup [.str p.1,.str p.2])=true:=by
 have:=Ag J "";unfold hdD Dat.st Dat.sts at this;rw[ZZ]at this;have Z:=this.1;unfold Dat.st at Z;exact Z
def LP(J:(Z.map (·.1)).Nodup)(m:h∈Z):V1 Z h.1=some h.2:=by
 induction Z with
 |nil=>exact nomatch m
 |cons g Z ih=>
  rw[ZV,jE]at J;unfold V1;rw[vy];rcases Zd.mp m with e|e
  .subst e;simp
  .have ne:¬g.1=h.1:=λq=>J.1 (by rw[q];exact ZW.mpr ⟨_,e,Y⟩)
   rw[Zy ne];exact ih J.2 e
theorem Dm:∀{Z:kJ},(Z.map (·.1)).Nodup->∀{J:Key×V},J∈Z->VC Z J.1=some J.2
 |[],_,J,m=>nomatch m
 |g::Z,nd,J,m=>by
  rw[ZV,jE]at nd;unfold VC;rw[vy];rcases Zd.mp m with e|e
  .subst e;simp
  .have ne:¬g.1=J.1:=λq=>nd.1 (by rw[q];exact ZW.mpr ⟨_,e,Y⟩)
   rw[Zy ne];exact Dm nd.2 e
def J9.tkB(s:J9 H p)(b:SameB p H Z):TK H Z:=λc J h=>b c _ (M0 s h) h
end L2
namespace K4
open PySem L2
section
def FU:bootBuiltins "min"=some (.builtin "min"):=by decide +kernel
end
end K4
namespace L2
open PySem
def Kr(ks:kS)(hd:Hds)(kv:kJ)(y:Str):Bd->List Str->Prop
 |.tag t,zs=>zs=[]/\∃ts,Ve ks y=some (.tags ts)/\t∈ts
 |.name x,zs=>zs=[]/\VC kv (Sum.inr x)=some (.str y)
 |.pair _ _,zs=>∃a b,zs=[a,b]/\Ve ks y=some (.pair a b)
 |.one _,zs=>∃z b,zs=[z]/\Ve ks z=some (.pair y b)
 |.other _,zs=>∃z a,zs=[z]/\Ve ks z=some (.pair a y)
 |.choose _ ts bs,zs=>∃z,zs=z::List.replicate bs.length y/\Ve ks z=some (.tags ts)/\bs.length=ts.length
 |.ask f _,zs=>∃ps:List (Str×Str),hd f=some (ps,y)/\zs=ps.map (·.2)
 |.letb x z _ _,zs=>zs=[z,y]/\VC kv (Sum.inr x)=none/\z∈ks.map (·.1)
def wth(kv:kJ):Bd->List (Key×V)
 |.letb x z _ _=>putK kv (Sum.inr x)<|.str z
 |_=>kv
def Kd.inv(h:Kd T hd R y b):
  ∃N,Kr T hd R y b N/\N.length=b.parts.length/\∀(i:Nat)(p:Bd)(z:Str),b.parts[i]?=some p->N[i]?=some z->Kd T hd (wth R b) z p:=by
 cases h with
 |tag G L=>exact⟨[],⟨Y,_,G,L⟩,Y,λi p z e=>nomatch e⟩
 |name G=>exact⟨[],⟨Y,G⟩,Y,λi p z e=>nomatch e⟩
 |pair G L M=>
  refine⟨_,⟨_,_,Y,G⟩,Y,λi p z J Z=>?_⟩;rcases i with _|_|i
  .cases J;cases Z;exact L
  .cases J;cases Z;exact M
  .exact nomatch J
 |one G L=>
  refine⟨_,⟨_,_,Y,G⟩,Y,λi p z J Z=>?_⟩;rcases i with _|i
  .cases J;cases Z;exact L
  .exact nomatch J
 |other G L=>
  refine⟨_,⟨_,_,Y,G⟩,Y,λi p z J Z=>?_⟩;rcases i with _|i
  .cases J;cases Z;exact L
  .exact nomatch J
 | @choose _ _ A I e B G L M O=>
  refine⟨_,⟨_,Y,G,M⟩,by simp[Bd.parts],λi p z J Z=>?_⟩;rcases i with _|i
  .cases J;cases Z;exact L
  .have m:=ZJ (show B[i]?=some p from J)
   have F:(List.replicate B.length y)[i]?=some z:=Z;have E:=ZJ F;cases List.eq_of_mem_replicate E;exact O p m
 | @ask _ _ f D S G L M=>
  refine⟨_,⟨_,G,Y⟩,by rw[ZA];exact L.symm,λi p z J Z=>?_⟩;rw[ZH]at Z
  cases ep:D[i]? with
  |none=>rw[ep]at Z;cases Z
  |some q=>
   rw[ep]at Z;cases Z;exact M i p q J ep
 |letb G L M O=>
  refine⟨_,⟨Y,G,L⟩,Y,λi p z J Z=>?_⟩;rcases i with _|_|i
  .cases J;cases Z;exact M
  .cases J;cases Z;exact O
  .exact nomatch J
end L2
namespace L2
open PySem
end L2
namespace K4
open PySem L2
section
def W6:Sp:=λJ H Q _=>∃(x:Str)(o:Nat),J=[.str x,.str (alpha o)]/\(o=97\/o=65)/\1<=x.length/\x.length<=8/\(∀c∈x.cps.toList,o<=c/\c<o+26)/\∀Z,Same H Z->Q (.bl true) Z
def Oe:Yh ["text","letters"] ["text","letters"] (Yd BF):=Y2
def C7:List.Nodup [("sign":Str),"letters"]:=by decide +kernel
def Kb(B:Blt M)(F:Fun K "is_spelt" "is_spelt" BF f X)(hL:M "LONGEST"=some u)(rL:RelV (.int 8) u):Ye P w K M base CX0 (n+1) f X ["text","letters"] W6:=by
 refine F.oq Oe λm A G s H Z Q E r h=>?_;obtain⟨x,o,rfl,D,d,k,S,q⟩:=h;refine⟨_,YY (Y5 (JN<|Vv<|WW rfl B.isi rfl B.str Wr (pv 0)) (YZ<|Yi XN) Yp)
  (YZ (Yi (WX (KM XO XO Ya (VB Mt rfl B.len Zu (pa1<|pv 0))<|V5 rfl hL rL)
   (Xb (VB (Nk rfl) rfl B.all RV (pa1 (V6 ["sign"] [1] (S9<|pv 0) (Vm (i:=0)<|by decide)
    (λt C U s H=>Yl 0 C7 rfl (Or.inl rfl) (Or.inr rfl)) (λt C U s H=>JF E3 (pv 0) (pv 1) rfl)))))))),?_⟩
 exists _,_,_,_,Y,.str x,G9 K "str",_,Y;refine Y1 (by simp) ?_;have O:x.length<=sizeLine:=Zh (Yu<|by omega);exists x,Y,O,_,Y;refine VF (by simp;omega) ?_;exists _,Y;refine VF (by simp;omega) ?_;exists x,Y;have g:x.cps.size=x.length:=rfl;refine Va x.length (Yu<|by omega) (λi Z J=>Same H J/\Z=List.replicate i (V.bl true)) ⟨Z8 _,rfl⟩ (λi Z J z=>by rw[z.2];simp) ?_ ?_ ?_ ?_
 .intro i Z J hi z
  exact hi
 .intro Z J z
  exact ZG _
 .intro i Z J v H'' R hi z yl hR
  obtain⟨rfl,c,L,rfl⟩:=yl;exists _,_,Y,Y
  have I:c∈x.cps.toList:=by
   have:=Array.mem_of_getElem? L;exact Array.mem_toList_iff.mpr this
  obtain⟨T,N,y⟩:=Kw D<|S c I;have j:Builtin.Str.occurrences (alpha o) ⟨#[c]⟩ 0 (alpha o).length 1=T::N:=y;rw[j];exact hR _ _ ⟨z.1,by rw[z.2,jz];rfl⟩
 .intro Z J p z hp
  refine⟨p,List.replicate x.length true,Y,Z3 (by rw[Yf,z.2,List.map_replicate]),?_⟩;rw[show(List.replicate x.length true).all id=true by simp];exact q _<|z.1.trans<|Yq hp _
def Ut(o:Nat):Sp:=λJ H Q _=>∃(x:Str),J=[.str x]/\1<=x.length/\x.length<=8/\(∀c∈x.cps.toList,o<=c/\c<o+26)/\∀Z,Same H Z->Q (.bl true) Z
def IW:Yh ["text"] ["text"] (Yd MN):=Y2
def E7(F:Fun K "is_name" "is_name" MN f D)(G:Ye P w K J base CX0 n g B ["text","letters"] W6)(S:Binds K B ["text","letters"] [])(O:W.keepIn K (.ref g)=true)(L:J "is_spelt"=some (.ref g))(hL:J "SMALL"=some u)(rL:RelV (.str<|Str.ofString "abcdefghijklmnopqrstuvwxyz") u):Ye P w K J base CX0 (n+1) f D ["text"] (Ut 97):=by
 refine F.oq IW λI A Z s H U Q E R h=>?_;obtain⟨x,rfl,N,M,T,q⟩:=h;exists _,YZ<|Yi<|JW G R rfl L O S .nil Y3 (pa2 (pv 0)<|V5 rfl hL rL);refine⟨x,97,?_,.inl Y,N,M,T,q⟩;rw[<-Tz];rfl
def Oo:Yh ["text"] ["text"] (Yd BR):=Y2
def Km(F:Fun K "is_tag" "is_tag" BR f D)(G:Ye P w K J base CX0 n g B ["text","letters"] W6)(S:Binds K B ["text","letters"] [])(O:W.keepIn K (.ref g)=true)(L:J "is_spelt"=some (.ref g))(hL:J "GREAT"=some u)(rL:RelV (.str<|Str.ofString "ABCDEFGHIJKLMNOPQRSTUVWXYZ") u):Ye P w K J base CX0 (n+1) f D ["text"] (Ut 65):=by
 refine F.oq Oo λI A Z s H U Q E R h=>?_;obtain⟨x,rfl,N,M,T,q⟩:=h;exists _,YZ<|Yi<|JW G R rfl L O S .nil Y3 (pa2 (pv 0)<|V5 rfl hL rL);refine⟨x,65,?_,.inr Y,N,M,T,q⟩;rw[<-RJ];rfl
end
end K4
namespace L2
open PySem
def Xe(ks:kS):Nat->Str->Nat
 |0,_=>0
 |n+1,y=>match Ve ks y with
  |none=>0
  |some (.tags _)=>1
  |some (.pair a b)=>1+Xe ks n a+Xe ks n b
def JK(t:Str):Shp->Bool
 |.tags ts=>decide<|t∈ts
 |.pair _ _=>false
def V2(a b:Str):Shp->Bool
 |.tags _=>false
 |.pair c e=>decide (c=a) && decide (e=b)
def JD(ks:kS)(t:Str):Option Str:=(ks.find? λk=>JK t k.2).map (·.1)
def Vu(ks:kS)(a b:Str):Option Str:=(ks.find? λk=>V2 a b k.2).map (·.1)
def XH{α:Type}(p:α->Bool)(l:List α)(x:α):(l++[x]).find? p=(l.find? p).or (if p x=true then some x else none):=by
 rw[List.find?_append]
 congr 1
 rw[vy];cases p x <;> simp
def WO(h:z∈Z.map (·.1)):Ve (Z++[x]) z=Ve Z z:=by
 obtain⟨s,J⟩:=JM h;unfold Ve at J |-;rw[XH]
 cases e:Z.find? λk=>decide (k.1=z)with
 |none=>rw[e]at J;cases J
 |some k=>rfl
def Es(h:z∉Z.map (·.1)):Ve Z z=none:=by
 cases e:Ve Z z with
 |none=>rfl
 |some s=>exact Zr (ZW.mpr ⟨_,Xn e,Y⟩) h
def Gp(h:z∉Z.map (·.1)):Ve (Z++[(z,s)]) z=some s:=by
 have q:=Es h;unfold Ve at q |-;rw[XH]
 cases e:Z.find? λk=>decide (k.1=z)with
 |none=>simp
 |some k=>rw[e]at q;cases q
theorem Jk(h:KK top c d Z)(x:Str×Shp):∀(n:Nat)(z:Str),z∈Z.map (·.1)->Y6 (Z++[x]) n z=Y6 Z n z
 |0,_,_=>rfl
 |n+1,z,hz=>by
  obtain⟨s,J⟩:=JM hz;rw[WD J,WD ((WO hz).trans J)]
  cases s with
  |tags M=>rfl
  |pair a b=>
   obtain⟨L,G,_⟩:=h.at J;show(W.non::_)=(W.non::_);rw[Jk h x n a L,Jk h x n b G]
def hOf(ks:kS)(n:Nat):Shp->Nat
 |.tags _=>1
 |.pair a b=>1+Xe ks n a+Xe ks n b
def Xv(h:Ve Z y=some s):Xe Z (n+1) y=hOf Z n s:=by
 conv=>lhs;unfold Xe
 rw[h];cases s <;> rfl
theorem UV(h:KK top c d Z)(x:Str×Shp):∀(n:Nat)(z:Str),z∈Z.map (·.1)->Xe (Z++[x]) n z=Xe Z n z
 |0,_,_=>rfl
 |n+1,z,hz=>by
  obtain⟨s,J⟩:=JM hz;rw[Xv J,Xv ((WO hz).trans J)]
  cases s with
  |tags M=>rfl
  |pair a b=>
   obtain⟨L,G,_⟩:=h.at J;show 1+_+_=1+_+_;rw[UV h x n a L,UV h x n b G]
theorem XF(h:KK top c d Z):∀(n m:Nat)(y:Str),y∈Z.map (·.1)->d y<n->d y<m->Xe Z n y=Xe Z m y
 |0,_,_,_,h1,_=>Zr h1<|Zw _
 |_+1,0,_,_,_,h2=>Zr h2<|Zw _
 |n+1,m+1,y,hy,h1,h2=>by
  obtain⟨s,J⟩:=JM hy;have M:=h.at J;rw[Xv J,Xv J]
  cases s with
  |tags N=>rfl
  |pair a b=>
   obtain⟨L,G,B,T,R,O⟩:=M;have E:=jf (d a)<|d b;have D:=jb (d a)<|d b;show 1+_+_=1+_+_;rw[XF h n m a L (by omega) (by omega),XF h n m b G (by omega) (by omega)]
structure KA6 where
 t:Addr
 dx:Addr
 sh:Addr
 wo:Addr
 he:Addr
 pd:Addr
 tk:Addr
 pk:Addr
structure KC where
 sh:List (Key×V)
 wo:List (Key×V)
 he:List (Key×V)
 pd:List (Key×V)
 tk:List (Key×V)
 pk:List (List Key×V)
def Wm(A:KA6):List (Str×V):=[("shapes",.ref A.sh),("worths",.ref A.wo),("heights",.ref A.he),("pairs_deep",.ref A.pd),("tag_kinds",.ref A.tk),("pair_kinds",.ref A.pk)]
def KA6.ds(A:KA6):kF:=[A.sh,A.wo,A.he,A.pd,A.tk,A.pk]
structure KD(H:Hp)(C:Addr)(A:KA6)(S:KC):Prop where
 ins:H A.t=some (.ins C A.dx (Wm A))
 sh:H A.sh=some (.dK S.sh)
 wo:H A.wo=some (.dK S.wo)
 he:H A.he=some (.dK S.he)
 pd:H A.pd=some (.dK S.pd)
 tk:H A.tk=some (.dK S.tk)
 pk:H A.pk=some (.dT S.pk)
 nd:A.ds.Nodup
structure KR(H:Hp)(S:KC)(ks:List (Str×Shp))(d:Str->Nat):Prop where
 ke:S.sh.map (·.1)=ks.map (λk=>Sum.inr k.1)
 sh:∀y s,Ve ks y=some s->∃v,VC S.sh (Sum.inr y)=some v/\Has H v s.dat
 wo:∀y∈ks.map (·.1),∃l xs,VC S.wo (Sum.inr y)=some (.ref l)/\H l=some (.lst xs)/\HasL H xs ((Y6 ks 3 y).map W.dat)
 he:∀y∈ks.map (·.1),VC S.he (Sum.inr y)=some (.int (Xe ks 3 y:Nat))
 pd:∀y∈ks.map (·.1),VC S.pd (Sum.inr y)=some (.int (d y:Nat))
 tk:∀x:Str,VC S.tk (Sum.inr x)=(JD ks x).map V.str
 pk:∀a b:Str,VC S.pk [Sum.inr a,Sum.inr b]=(Vu ks a b).map V.str
 ln:S.sh.length<=4*ks.length/\S.wo.length<=4*ks.length/\S.he.length<=4*ks.length/\S.pd.length<=4*ks.length/\S.tk.length<=4*ks.length/\S.pk.length<=4*ks.length
def KI(H:Hp)(C t:Addr)(ks:kS)(d:kT):Prop:=∃A S,A.t=t/\KD H C A S/\KR H S ks d
def KD.mono(k:KD H C A S)(e:Same H Z):KD Z C A S:=⟨e _ _ k.ins,e _ _ k.sh,e _ _ k.wo,e _ _ k.he,e _ _ k.pd,e _ _ k.tk,e _ _ k.pk,k.nd⟩
def TL(H H':Hp):Prop:=(∀b Z,H b=some (.tup Z)->H' b=some (.tup Z))/\∀b Z,H b=some (.lst Z)->H' b=some (.lst Z)
def Same.tl(e:Same H J):TL H J:=⟨λb Z h=>e _ _ h,λb Z h=>e _ _ h⟩
def TL.trans(a:TL H G)(b:TL G J):TL H J:=⟨λc Z h=>b.1 _ _<|a.1 _ _ h,λc Z h=>b.2 _ _<|a.2 _ _ h⟩
mutual
theorem Has.tl{H M:Hp}(e:TL H M):∀(d:Dat){v:V},Has H v d->Has M v d
 |.non,_,h=>by unfold Has at h |-;exact h
 |.bl _,_,h=>by unfold Has at h |-;exact h
 |.int _,_,h=>by unfold Has at h |-;exact h
 |.str _,_,h=>by unfold Has at h |-;exact h
 |.tup ds,_,h=>by
  unfold Has at h |-;obtain⟨a,Z,L,G,J⟩:=h;exact⟨a,Z,L,e.1 _ _ G,HasL.tl e ds J⟩
 |.lst ds,_,h=>by
  unfold Has at h |-;obtain⟨a,Z,L,G,J⟩:=h;exact⟨a,Z,L,e.2 _ _ G,HasL.tl e ds J⟩
theorem HasL.tl{H G:Hp}(e:TL H G):∀(Z:kQ){J:kL},HasL H J Z->HasL G J Z
 |[],[],h=>by unfold HasL;trivial
 |[],_::_,h=>by unfold HasL at h;exact h.elim
 |_::_,[],h=>by unfold HasL at h;exact h.elim
 |d::Z,x::J,h=>by
  unfold HasL at h |-;exact⟨Has.tl e d h.1,HasL.tl e Z h.2⟩
end
def KR.tl(k:KR H S L d)(e:TL H N):KR N S L d:=
 ⟨k.ke,λy s h=>let⟨v,J,Z⟩:=k.sh y s h;⟨v,J,Has.tl e _ Z⟩,λy h=>let⟨l,G,J,Z,M⟩:=k.wo y h;⟨l,G,J,e.2 _ _ Z,HasL.tl e _ M⟩,k.he,k.pd,k.tk,k.pk,k.ln⟩
def KI.mono(k:KI H C t Z d)(e:Same H M):KI M C t Z d:=by
 obtain⟨A,S,L,G,J⟩:=k;exact⟨A,S,L,G.mono e,J.tl e.tl⟩
def UU(x:Str)(Z:kC):inV (.str x) (Z.map V.str)=decide (x∈Z):=by
 induction Z with
 |nil=>rfl
 |cons t Z ih=>
  have e:inV (.str x) ((t::Z).map V.str)=((t==x) || inV (.str x) (Z.map V.str)):=rfl;rw[e,ih]
  by_cases h:t=x
  .subst h;simp
  .have h':¬x=t:=λq=>h q.symm
   simp[h,h']
def Jx(Z:kC):(Z.map V.str).all UG=true:=by
 induction Z with
 |nil=>rfl
 |cons t Z ih=>simp only[ZV,qO,ih];rfl
structure KCl(K:W.Frag)(C:Addr):Prop where
 cl:Cls K C
 sh:VG K C "shapes"
 wo:VG K C "worths"
 he:VG K C "heights"
 pd:VG K C "pairs_deep"
 tk:VG K C "tag_kinds"
 pk:VG K C "pair_kinds"
def Mq(A:KA6):(Wm A).lookup ("shapes":Str)=some (V.ref A.sh):=rfl
def Ll(A:KA6):(Wm A).lookup ("worths":Str)=some (V.ref A.wo):=rfl
def P6(A:KA6):(Wm A).lookup ("heights":Str)=some (V.ref A.he):=rfl
def P5(A:KA6):(Wm A).lookup ("pairs_deep":Str)=some (V.ref A.pd):=rfl
def Al(A:KA6):(Wm A).lookup ("tag_kinds":Str)=some (V.ref A.tk):=rfl
def Am(A:KA6):(Wm A).lookup ("pair_kinds":Str)=some (V.ref A.pk):=rfl
def WN(k:KD H C A S)(r:KR H S Z d)(h:Ve Z y=some s):∃v,Vd H A.sh (.str y) (some v)/\Has H v s.dat:=by
 obtain⟨v,G,J⟩:=r.sh y s h;exact⟨v,by rw[<-G];exact Vd.k (k:=Sum.inr y) k.sh,J⟩
end L2
namespace K4
open PySem L2
section
variable{f g C:Addr}
def U8(C:Addr):Sp:=λG H Q _=>∃(t:Addr)(J:kS)(d:kT),G=[.ref t]/\KI H C t J d/\∀l Z,Same H Z->H l=none->Z l=some (.lst<|J.map λk=>V.str k.1)->Q (.ref l) Z
def Oh:Yh ["self"] ["self"] (Yd BK):=Y2
def Kf(B:Blt L)(T:KCl K C)(F:Fun K "names" "Kinds.names" BK f O):Ye P w K L base CX0 (n+1) f O ["self"] (U8 C):=by
 refine F.oq Oh λR A Z s H D Q E U h=>?_;obtain⟨t,I,d,rfl,⟨X,S,rfl,J,N⟩,q⟩:=h;exists _,YZ<|Yi<|VZ (U1 rfl) rfl B.list Jg (pa1<|Ym (pv 0) rfl);refine⟨C,_,_,_,J.ins,T.cl,T.sh,Mq _,_,_,Y,J.sh,λl G=>?_⟩;refine q l _ (Yq G _) G ?_;rw[Yf];have e:(S.sh.map λM=>kV M.1)=(S.sh.map (·.1)).map kV:=by rw[ve];rfl
 rw[e,N.ke,ve]
 rfl
def U7(C:Addr):Sp:=λJ H Q _=>∃(t:Addr)(Z:kS)(d:kT)(y:Str)(s:Shp),J=[.ref t,.str y]/\KI H C t Z d/\Ve Z y=some s/\∀v,Has H v s.dat->Q v H
def Eu:Yh ["self","kind"] ["self","kind"] (Yd Gq):=Y2
def Bq(T:KCl K C)(F:Fun K "shape_of" "Kinds.shape_of" Gq f B):Ye P w K U base CX0 (n+1) f B ["self","kind"] (U7 C):=by
 refine F.oq Eu λD A Z s H I Q E N h=>?_;obtain⟨t,X,d,y,s,rfl,⟨j,S,rfl,J,G⟩,M,q⟩:=h;have L:=JA N;obtain⟨v,R,O⟩:=WN J G M;exists _,YZ<|Yi<|Vl L (Ym (pv 0) rfl) (pv 1) λ_ _=>rfl;exact⟨C,_,_,_,J.ins,T.cl,T.sh,Mq _,v,R,q v O⟩
def Gh(C:Addr):Sp:=λJ H Q _=>∃(t:Addr)(Z:kS)(d:kT)(x:Str),J=[.ref t,.str x]/\KI H C t Z d/\Q (((JD Z x).map V.str).getD .non) H
def IV:Yh ["self","tag"] ["self","tag"] (Yd MM):=Y2
def E6(T:KCl K C)(F:Fun K "kind_of_tag" "Kinds.kind_of_tag" MM f N):Ye P w K B base CX0 (n+1) f N ["self","tag"] (Gh C):=by
 refine F.oq IV λO A Z s H R Q E M h=>?_;obtain⟨t,D,d,x,rfl,⟨I,S,rfl,J,G⟩,q⟩:=h;have L:=JA M;exists _,YZ<|Yi<|G5 L (Ym (pv 0) rfl) (pv 1) ⟨rfl,rfl,rfl,rfl⟩;exact⟨C,_,_,_,J.ins,T.cl,T.tk,Al _,.inl ⟨_,.inl J.tk⟩,_,by rw[<-G.tk x];exact Vd.k (k:=Sum.inr x) J.tk,q⟩
def WL(C:Addr):Sp:=λG H Q _=>∃(t:Addr)(Z:kS)(d:kT)(a b:Str),G=[.ref t,.str a,.str b]/\KI H C t Z d/\∀J,Same H J->Q (((Vu Z a b).map V.str).getD .non) J
def Ew:Yh ["self","one","other"] ["self","one","other"] (Yd Gs):=Y2
def Bt(T:KCl K C)(F:Fun K "kind_of_pair" "Kinds.kind_of_pair" Gs f O):Ye P w K D base CX0 (n+1) f O ["self","one","other"] (WL C):=by
 refine F.oq Ew λR A Z s H B Q E M h=>?_;obtain⟨t,I,d,a,b,rfl,⟨U,S,rfl,J,G⟩,q⟩:=h;have L:=JA M;exists _,YZ<|Yi<|G5 L (Ym (pv 0) rfl) (Yj<|pa2 (pv 1)<|pv 2) ⟨rfl,rfl,rfl,rfl⟩;refine⟨C,_,_,_,J.ins,T.cl,T.pk,Am _,.inr ⟨_,.inl J.pk⟩,sl 2,λp N=>?_⟩;have s1:=Yq N<|.tup [.str a,.str b];exact⟨_,by rw[<-G.pk a b];exact Vd.t (k:=[Sum.inr a,Sum.inr b]) (s1 _ _ J.pk) Yf,q _ s1⟩
def Jy(C:Addr):Sp:=λL H Q _=>∃(t:Addr)(J:kS)(d:kT)(y:Str),L=[.ref t,.str y]/\KI H C t J d/\y∈J.map (·.1)/\
 ∀l G Z,Same H Z->H l=none->Z l=some (.lst G)->HasL Z G ((Y6 J 3 y).map W.dat)->Q (.ref l) Z
def N7:Yh ["self","kind"] ["self","kind"] (Yd WQ):=Y2
def NH(B:Blt M)(T:KCl K C)(F:Fun K "worths_of" "Kinds.worths_of" WQ f j):Ye P w K M base CX0 (n+1) f j ["self","kind"] (Jy C):=by
 refine F.oq N7 λz A G s H m Q E D h=>?_;obtain⟨t,p,d,y,rfl,⟨c,S,rfl,L,N⟩,O,q⟩:=h;have R:=JA D;obtain⟨l,J,X,U,I⟩:=N.wo y O;exists _,YZ<|Yi<|VZ Uh rfl B.list Jg (pa1<|Vl R (Ym (pv 0) rfl) (pv 1) λ_ _=>rfl);refine⟨C,_,_,_,L.ins,T.cl,T.wo,Ll _,_,by rw[<-X];exact Vd.k (k:=Sum.inr y) L.wo,l,J,Y,.inl<|Z3 U,λr Z=>?_⟩;have s1:=Yq Z<|.lst J;exact q r J _ s1 Z Yf<|I.mono s1
end
end K4
namespace L2
open PySem
def KFr(A:KA6)(H H':Hp):Prop:=∀b o,b∉A.ds->H b=some o->H' b=some o
def KFr.refl(A:KA6)(H:Hp):KFr A H H:=λ_ _ _ h=>h
def KFr.trans(a:KFr A H G)(b:KFr A G J):KFr A H J:=λc o Z h=>b c o Z<|a c o Z h
def Same.kfr(e:Same H Z):KFr A H Z:=λb o _ h=>e b o h
def KFr.put(a:KFr A H L)(G:x∈A.ds)(o:HO):KFr A H (upd L x o):=λb u Z h=>by
 have J:b≠x:=λz=>by rw[z]at Z;exact Z G
 rw[Yg J];exact a b u Z h
def KFr.tl(a:KFr A H O)(k:KD H C A S):TL H O:=by
 have G:∀b u,H b=some u->(∀l,u≠.dK l)->(∀l,u≠.dT l)->b∉A.ds:=λb u Z J N L=>by
  simp only[KA6.ds,Zd,jS,or_false]at L;rcases L with z|z|z|z|z|z
  .rw [z,k.sh]at Z;exact J _ (ZT Z).symm
  .rw [z,k.wo]at Z;exact J _ (ZT Z).symm
  .rw [z,k.he]at Z;exact J _ (ZT Z).symm
  .rw [z,k.pd]at Z;exact J _ (ZT Z).symm
  .rw [z,k.tk]at Z;exact J _ (ZT Z).symm
  .rw [z,k.pk]at Z;exact N _ (ZT Z).symm
 exact⟨λb M h=>a b _ (G b _ h (λl=>by intro z;cases z) (λl=>by intro z;cases z)) h,λb M h=>a b _ (G b _ h (λl=>by intro z;cases z) (λl=>by intro z;cases z)) h⟩
def KA6.apart{A:KA6}(n:A.ds.Nodup):(A.sh≠A.wo/\A.sh≠A.he/\A.sh≠A.pd/\A.sh≠A.tk/\A.sh≠A.pk)/\(A.wo≠A.he/\A.wo≠A.pd/\A.wo≠A.tk/\A.wo≠A.pk)/\(A.he≠A.pd/\A.he≠A.tk/\A.he≠A.pk)/\(A.pd≠A.tk/\A.pd≠A.pk)/\A.tk≠A.pk:=by
 simpa[KA6.ds]using n
section
def KD.put_sh(k:KD H C A S)(l:kJ):KD (upd H A.sh<|.dK l) C A {S with sh:=l}:=by
 obtain⟨⟨M,L,G,J,Z⟩,_⟩:=KA6.apart k.nd;exact⟨(Yg<|JQ k.ins k.sh (by intro z;cases z)).trans k.ins,Yf,(Yg M.symm).trans k.wo,(Yg L.symm).trans k.he,(Yg G.symm).trans k.pd,(Yg J.symm).trans k.tk,(Yg Z.symm).trans k.pk,k.nd⟩
def KD.put_wo(k:KD H C A S)(l:kJ):KD (upd H A.wo<|.dK l) C A {S with wo:=l}:=by
 obtain⟨⟨M,_⟩,⟨L,G,J,Z⟩,_⟩:=KA6.apart k.nd;exact⟨(Yg<|JQ k.ins k.wo (by intro z;cases z)).trans k.ins,(Yg M).trans k.sh,Yf,(Yg L.symm).trans k.he,(Yg G.symm).trans k.pd,(Yg J.symm).trans k.tk,(Yg Z.symm).trans k.pk,k.nd⟩
def KD.put_he(k:KD H C A S)(l:kJ):KD (upd H A.he<|.dK l) C A {S with he:=l}:=by
 obtain⟨⟨_,M,_⟩,⟨L,_⟩,⟨G,J,Z⟩,_⟩:=KA6.apart k.nd;exact⟨(Yg<|JQ k.ins k.he (by intro z;cases z)).trans k.ins,(Yg M).trans k.sh,(Yg L).trans k.wo,Yf,(Yg G.symm).trans k.pd,(Yg J.symm).trans k.tk,(Yg Z.symm).trans k.pk,k.nd⟩
def KD.put_pd(k:KD H C A S)(l:kJ):KD (upd H A.pd<|.dK l) C A {S with pd:=l}:=by
 obtain⟨⟨_,_,M,_⟩,⟨_,L,_⟩,⟨G,_⟩,⟨J,Z⟩,_⟩:=KA6.apart k.nd;exact⟨(Yg<|JQ k.ins k.pd (by intro z;cases z)).trans k.ins,(Yg M).trans k.sh,(Yg L).trans k.wo,(Yg G).trans k.he,Yf,(Yg J.symm).trans k.tk,(Yg Z.symm).trans k.pk,k.nd⟩
def KD.put_tk(k:KD H C A S)(l:kJ):KD (upd H A.tk<|.dK l) C A {S with tk:=l}:=by
 obtain⟨⟨_,_,_,M,_⟩,⟨_,_,L,_⟩,⟨_,G,_⟩,⟨J,_⟩,Z⟩:=KA6.apart k.nd;exact⟨(Yg<|JQ k.ins k.tk (by intro z;cases z)).trans k.ins,(Yg M).trans k.sh,(Yg L).trans k.wo,(Yg G).trans k.he,(Yg J).trans k.pd,Yf,(Yg Z.symm).trans k.pk,k.nd⟩
def KD.put_pk(k:KD H C A S)(l:List (List Key×V)):KD (upd H A.pk<|.dT l) C A {S with pk:=l}:=by
 obtain⟨⟨_,_,_,_,M⟩,⟨_,_,_,L⟩,⟨_,_,G⟩,⟨_,J⟩,Z⟩:=KA6.apart k.nd;exact⟨(Yg<|JQ k.ins k.pk (by intro z;cases z)).trans k.ins,(Yg M).trans k.sh,(Yg L).trans k.wo,(Yg G).trans k.he,(Yg J).trans k.pd,(Yg Z).trans k.tk,Yf,k.nd⟩
end
def UL{α:Type}{l:List α}{x a:α}(h:l[i]?=some a):x∈l.take (i+1)↔x∈l.take i\/x=a:=by
 rw[take_snoc h,ZX,ZQ]
end L2
namespace K4
open PySem L2
section
variable{f g C:Addr}
def N2(C:Addr):Sp:=λL H Q _=>∃(A:KA6)(S:KC)(y:Str)(l:Addr)(Z:kC),L=[.ref A.t,.str y,.ref l]/\KD H C A S/\H l=some (.tup<|Z.map V.str)/\1<=Z.length/\Z.length<=4/\Wds 65 Z/\(∀x∈Z,VC S.tk (Sum.inr x)=none)/\
 S.tk.length<=100/\S.wo.length<=100/\S.he.length<=100/\S.pd.length<=100/\
 ∀G J r,KFr A H G->KD G C A ⟨S.sh,putK S.wo (Sum.inr y)<|.ref r,putK S.he (Sum.inr y)<|.int 1,putK S.pd (Sum.inr y)<|.int 0,J,S.pk⟩->
  (∀x:Str,VC J (Sum.inr x)=if x∈Z then some (.str y)else VC S.tk (Sum.inr x))->J.length<=S.tk.length+4->G r=some (.lst (.non::Z.map V.str))->Q .non G
def IR:Yh ["self","name","tags","tag"] ["self","name","tags"] (Yd Ib):=Y2
def PV(B:Blt mg)(T:KCl K C)(F:Fun K "take_tags" "Kinds.take_tags" Ib f fd)(hM:mg "MOST_TAGS"=some u)(rM:RelV (.int 4) u)(G:Ye P w K mg base CX0 n g gd ["text"] (Ut 65))(bG:Binds K gd ["text"] [])(kG:W.keepIn K (.ref g)=true)(mG:mg "is_tag"=some (.ref g)):Ye P w K mg base CX0 (n+1) f fd ["self","name","tags"] (N2 C):=by
 refine F.oq IR λO1 A J2 s H vs Q E hr h=>?_;obtain⟨D,S,y,l,J,rfl,kd,hl,l1,l4,wt,tn,b1,b2,b3,b4,q⟩:=h;have t:=JA hr;refine⟨_,YY (Y5 (JN<|Xr XO XO Ya (VB Y8 rfl B.len Zu (pa1<|pv 2))<|V5 rfl hM rM) (YZ V4) Yp)
  (YY (V9 Zv rfl (J5<|pv 2) (Yl 3 IR.nd)
   (YY (Y5 (JN<|Vv<|JW G hr rfl mG kG bG .nil Y3 (pa1<|pv 3)) (YZ V4) Yp)
   (YY (Y5 (Jp<|Ux t (pv 3)<|Ym (pv 0) rfl) (YZ V4) Yp)
   (YZ<|Vf t (Ym (pv 0) rfl) (pv 3) (pv 1) rfl))))
  (YY (Vf t (Ym (pv 0) rfl) (pv 1) (Y7 Bp (JJ<|pa1 Vi)<|VZ Uh rfl B.list Jg (pa1<|pv 2)) rfl)
  (YY (Vf t (Ym (pv 0) rfl) (pv 1) Ya rfl)
  (YZ<|Vf t (Ym (pv 0) rfl) (pv 1) Ya rfl)))),?_⟩
 show let a:=_;let b:=Yk _ a;let c:=Yk _ b;let d:=_;let e:=_;let f:=Yk (VE _ e _) d;let g:=_;let h:=Yk (VE _ g _) f;let i:=Yk (Uq _ _ h) c;let j:=_;Yk (VE _ j _) i _ _ _
 intros
 have lt:(J.map V.str).length=J.length:=ZA _;exists l,_,Y,.inr<|Z2 hl,_,rfl;refine VF (by simp;omega) ?_;exists _,Y;refine Y1 (by simp;omega) ?_;exists ⟨_,Z2 hl⟩
 let I:kM:=λi U R=>KFr D H R/\∃L z,KD R C D {S with tk:=L}/\(∀x:Str,VC L (Sum.inr x)=if x∈J.take i then some (.str y)else VC S.tk (Sum.inr x))/\L.length<=S.tk.length+i/\R l=some (.tup<|J.map V.str)/\
  U=[some (.ref D.t),some<|.str y,some<|.ref l,z]
 refine TY (xs:=J.map V.str) I ⟨KFr.refl _ _,S.tk,_,kd,λx=>by simp,ZG _,hl,Y⟩ ?_ ?_ ?_
 .rintro i U R _ ⟨_,L,z,_,_,_,hl',_⟩
  exact Z2 hl'
 .rintro BB RR i v U R hv ⟨fr,L,z,kd',tv,tl,hl',rfl⟩
  rw[ZH]at hv
  cases hx:J[i]? with
  |none=>rw[hx]at hv;cases hv
  |some x=>
   rw[hx]at hv;cases hv;have mx:x∈J:=ZJ hx
   have nx:x∉J.take i:=λhm=>by
    have q':(J.take i++[x]).Nodup:=by rw[<-take_snoc hx];exact wt.nd.sublist<|ju _ _
    exact(jh.mp q').2.2 x hm x (by simp) rfl
   have M2:=(ZF.mp hx).1;obtain⟨w1,w8⟩:=wt.len x mx;refine⟨x,Y,w1,w8,wt.abc x mx,λH2 s2=>⟨_,Y,?_⟩⟩;refine Y1 (by simp) ?_;have Z:=kd'.mono s2
   have gx:Vd H2 D.tk (.str x) none:=by
    have e:=tv x;rw[Zq nx,tn x mx]at e;rw[<-e];exact Vd.k (k:=Sum.inr x) Z.tk
   exists C,_,_,_,Z.ins,T.cl,T.tk,Al _,_,gx,_,Y;refine Y1 (by simp) ?_;refine⟨C,_,_,_,Z.ins,T.cl,T.tk,Al _,_,Je.k (k:=Sum.inr x) Z.tk<|Yu (by show L.length<=1000;omega),?_⟩;have o:=s2 _ _ hl';refine⟨(fr.trans s2.kfr).put (by simp[KA6.ds]) _,putK L (Sum.inr x)<|.str y,_,Z.put_tk _,λX=>?_,?_,?_,rfl⟩
   .rw [Vx]
    by_cases e:X=x
    .subst e
     rw[Zp rfl,Zp ((UL hx).mpr<|.inr rfl)]
    .rw [Zq (λz=>e<|Sum.inr.inj z),tv X]
     have:(X∈J.take (i+1))↔X∈J.take i:=⟨λz=>((UL hx).mp z).resolve_right e,λz=>(UL hx).mpr<|.inl z⟩
     by_cases m:X∈J.take i
     .rw [Zp m,Zp (this.mpr m)]
     .rw [Zq m,Zq (λz=>m<|this.mp z)]
   .have:=VW L (Sum.inr x)<|.str y;omega
   .rw [Yg (JQ o Z.tk (by intro z;cases z))];exact o
 .rintro U R ⟨fr,L,z,kd',tv,tl,hl',rfl⟩
  rw[lt]at tl;rw[Zg (by omega)]at tv;refine⟨sl 1,λp1 r=>⟨l,_,Y,.inr<|Z2<|(Yq r _) _ _ hl',λp2 p=>?_⟩⟩;refine⟨p1,p2,_,_,Y,Y,(Yg<|Yb Yf p).trans Yf,Yf,Zh (Yu (by simp;omega)),λM G2=>?_⟩;have sx:Same R _:=((Yq r<|.lst [V.non]).trans<|Yq p<|.lst<|J.map V.str).trans<|Yq G2<|.lst<|[V.non]++ J.map V.str;have hp:upd (upd (upd R p1<|.lst [V.non]) p2<|.lst<|J.map V.str) M (.lst<|[V.non]++ J.map V.str) M=some (.lst (.non::J.map V.str)):=Yf;generalize upd (upd (upd R p1<|.lst [V.non]) p2<|.lst<|J.map V.str) M (.lst<|[V.non]++ J.map V.str)=H2 at sx hp |-;have Z:=kd'.mono sx;refine⟨C,_,_,_,Z.ins,T.cl,T.wo,Ll _,_,Je.k (k:=Sum.inr y) Z.wo<|Yu (by show S.wo.length<=1000;omega),?_⟩;have O:=Z.put_wo<|putK S.wo (Sum.inr y)<|.ref M;have G3:upd H2 D.wo (.dK<|putK S.wo (Sum.inr y)<|.ref M) M=some (.lst (.non::J.map V.str)):=by rw[Yg (JQ hp Z.wo (by intro z;cases z))];exact hp
  refine⟨C,_,_,_,O.ins,T.cl,T.he,P6 _,_,Je.k (k:=Sum.inr y) O.he<|Yu (by show S.he.length<=1000;omega),?_⟩;have N:=O.put_he<|putK S.he (Sum.inr y)<|.int 1;refine⟨C,_,_,_,N.ins,T.cl,T.pd,P5 _,_,Je.k (k:=Sum.inr y) N.pd<|Yu (by show S.pd.length<=1000;omega),?_⟩;have G1:=N.put_pd<|putK S.pd (Sum.inr y)<|.int 0;refine q _ L M ?_ G1 tv (by omega) ?_
  .exact ((((fr.trans sx.kfr).put (by simp[KA6.ds]) _).put (by simp[KA6.ds]) _).put (by simp[KA6.ds]) _)
  .have h3:=G3
   have h4:upd (upd H2 D.wo<|.dK<|putK S.wo (Sum.inr y)<|.ref M) D.he (.dK<|putK S.he (Sum.inr y)<|.int 1) M=some (.lst (.non::J.map V.str)):=by rw[Yg (JQ h3 O.he (by intro z;cases z))];exact h3
   rw[Yg (JQ h4 N.pd (by intro z;cases z))];exact h4
end
end K4
namespace L2
open PySem
structure Pt(H:Hp)(S:KC)(e:Str)(us:List W)(h p:Nat):Prop where
 sh:(VC S.sh (Sum.inr e)).isSome=true
 wo:∃l xs,VC S.wo (Sum.inr e)=some (.ref l)/\H l=some (.lst xs)/\HasL H xs (us.map W.dat)
 he:VC S.he (Sum.inr e)=some (.int h)
 pd:VC S.pd (Sum.inr e)=some (.int p)
end L2
namespace K4
open PySem L2
section
variable{f g C:Addr}
def Ru(C:Addr):Sp:=λT H Q _=>∃(A:KA6)(S:KC)(y e g:Str)(G Z:List W)(R O M L:Nat),T=[.ref A.t,.str y,.str e,.str g]/\KD H C A S/\Pt H S e G R M/\Pt H S g Z O L/\VC S.pk [Sum.inr e,Sum.inr g]=none/\
 1+max M L<=2/\1+G.length*Z.length<=30/\G.length<=30/\Z.length<=30/\S.pk.length<=100/\S.wo.length<=100/\S.he.length<=100/\S.pd.length<=100/\e≠y/\g≠y/\
 ∀J r,KFr A H J->KD J C A ⟨S.sh,putK S.wo (Sum.inr y)<|.ref r,putK S.he (Sum.inr y)<|.int (1+R+O:Nat),putK S.pd (Sum.inr y)<|.int (1+max M L:Nat),S.tk,putK S.pk [Sum.inr e,Sum.inr g]<|.str y⟩->
  (∃N,J r=some (.lst N)/\HasL J N ((W.non::G.flatMap λu=>Z.map λv=>W.pair u v).map W.dat))->Q .non J
def MF:Yh ["self","name","one","other","deep","worths"] ["self","name","one","other"] (Yd BJ):=Y2
def Qm:List.Nodup [("first":Str),"second","self","other"]:=by decide +kernel
def Ke(B:Blt mg)(T:KCl K C)(F:Fun K "take_pair" "Kinds.take_pair" BJ f fd)(hM:mg "MOST_PAIRS_DEEP"=some u1)(rM:RelV (.int 2) u1)(T9:mg "MOST_WORTHS"=some u2)(R7:RelV (.int 30) u2):
  Ye P w K mg base CX0 (n+1) f fd ["self","name","one","other"] (Ru C):=by
 refine F.oq MF λD2 A R8 s H vs Q E hr h=>?_;obtain⟨J,S,y,e,g,us,Z,he,hg,pe,pg,rfl,kd,G1,J2,pn,d2,D3,ul,vl,b0,b1,b2,b3,D1,D0,q⟩:=h;have I:=JA hr;refine⟨_,YY (Y5 (PW.pt<|Um (Jp<|WY I (pv 2)<|Ym (pv 0) rfl)<|J4<|Jp<|WY I (pv 3)<|Ym (pv 0) rfl) (YZ V4) Yp)
  (YY (Y5 (Jp<|Ux I (Yj<|pa2 (pv 2)<|pv 3)<|Ym (pv 0) rfl) (YZ V4) Yp)
  (YY (Yx 4 MF.nd<|Y7 Vk Ya<|VB (FS rfl) rfl B.max FV (pa2 (Vl I (Ym (pv 0) rfl) (pv 2) λ_ _=>rfl)<|Vl I (Ym (pv 0) rfl) (pv 3) λ_ _=>rfl))
  (YY (Y5 (Ys Xt (pv 4) (V5 rfl hM rM)<|Y0 _) (YZ V4) Yp)
  (YY (Yx 5 MF.nd (Y7 Bp (JJ<|pa1 Vi) (PJ (wi2:=LL K<|QW (SN K (N0 2) "worths")<|N0 3) [0,3] (Ju<|Vl I (Ym (pv 0) rfl) (pv 2) λ_ _=>rfl)
    (λcl C fp s H=>Yl 0 Qm rfl (Or.inl rfl) (Or.inr rfl)) (λcl C fp s H=>Ju<|Vl I (Ym (pv 2) rfl) (pv 3) λ_ _=>rfl) (λcl C fp s H=>Yl 1 Qm rfl (Or.inl rfl) (Or.inr rfl))
    (λcl C fp s H=>Yj<|pa2 (pv 0)<|pv 1))))
  (YY (Y5 (Ys Xt (VB Y8 rfl B.len Zu (pa1<|pv 5)) (V5 rfl T9 R7)<|Y0 _) (YZ V4) Yp)
  (YY (Vf I (Ym (pv 0) rfl) (Yj<|pa2 (pv 2)<|pv 3) (pv 1) rfl)
  (YY (Vf I (Ym (pv 0) rfl) (pv 1) (pv 5) rfl)
  (YY (Vf I (Ym (pv 0) rfl) (pv 1) (Y7 Vk (Y7 Vk Ya<|Vl I (Ym (pv 0) rfl) (pv 2) λ_ _=>rfl)<|Vl I (Ym (pv 0) rfl) (pv 3) λ_ _=>rfl) rfl)
  (YZ<|Vf I (Ym (pv 0) rfl) (pv 1) (pv 4) rfl))))))))),?_⟩
 show let a:=_;let b:=Yk _ a;let c:=Yk _ b;let d:=Yk _ c;let e:=_;let f:=Yk (VE _ e _) d;let g:=Yk _ f;let h:=_;let i:=Yk (VE _ h _) g;let j:=Yk _ i;let k:=_;let l:=Yk (VE _ k _) j;let m:=_;Yk (VE _ m _) l _ _ _
 intros
 have fl:∀{H2:Hp},KD H2 C J S->H2 J.t=some (.ins C J.dx<|Wm J):=λk=>k.ins;have ge:Vd H J.sh (.str e) (VC S.sh<|Sum.inr e):=Vd.k (k:=Sum.inr e) kd.sh;have gg:Vd H J.sh (.str g) (VC S.sh<|Sum.inr g):=Vd.k (k:=Sum.inr g) kd.sh;exists C,_,_,_,kd.ins,T.cl,T.sh,Mq _,_,ge,_,Y;refine Y1 (by rw[G1.sh];simp) ?_;exists C,_,_,_,kd.ins,T.cl,T.sh,Mq _,_,gg,_,Y;refine Y1 (by rw[J2.sh];simp) ?_;refine⟨sl 2,λp1 T5=>?_⟩;refine up_in T5 _ λH1 s1 h1=>?_;have O:=kd.mono s1;have gp:Vd H1 J.pk (.ref p1) none:=by rw[<-pn];exact Vd.t (k:=[Sum.inr e,Sum.inr g]) O.pk h1
 exists C,_,_,_,O.ins,T.cl,T.pk,Am _,_,gp,_,Y;refine Y1 (by simp) ?_;refine⟨C,_,_,_,O.ins,T.cl,T.pd,P5 _,_,by rw[<-G1.pd];exact Vd.k (k:=Sum.inr e) O.pd,?_⟩;exists C,_,_,_,O.ins,T.cl,T.pd,P5 _,_,by rw[<-J2.pd];exact Vd.k (k:=Sum.inr g) O.pd,_,_,Y
 have em:(1+(if(pg:Int) > (pe:Int)then(pg:Int)else(pe:Int)))=((1+max pe pg:Nat):Int):=by
  by_cases z:pe<pg
  .rw [Zp (by omega),Nat.max_eq_right (Zh z)];omega
  .rw [Zq (by omega),Nat.max_eq_left (by omega)];omega
 dsimp only[Vo,rI0,UT];rw[em];exists _,Y;refine Y1 (by simp;omega) ?_;obtain⟨l1,D,w1,w2,w3⟩:=G1.wo;obtain⟨l2,M,v1,v2,v3⟩:=J2.wo;have R1:=w3.length;have O1:=v3.length;rw[ZA]at R1 O1;refine⟨sl 1,λp2 T4=>?_⟩;refine up_in T4 _ λH2 s2 h2=>?_;have R5:=O.mono s2;have U:=s1.trans s2;exists C,_,_,_,R5.ins,T.cl,T.wo,Ll _,.ref l1,by rw[<-w1];exact Vd.k (k:=Sum.inr e) R5.wo,⟨D,Z3<|U _ _ w2⟩;refine Te D.length (λi L H'=>Same H2 H'/\L.length=i*Z.length/\i<=us.length/\HasL H' L (((us.take i).flatMap λu=>Z.map λv=>W.pair u v).map W.dat)) ⟨Z8 _,by simp,Zc _,by rw[jN];exact Z6⟩
  (λi L H' z=>Yu (by rw[z.2.1];have:i*Z.length<=us.length*Z.length:=jA _ z.2.2.1;omega)) ?_ ?_ ?_ ?_
 .intro i L H' hi z
  exact⟨D,D[i],Z3<|(U.trans z.1) _ _ w2,by simp[hi]⟩
 .intro L H' z
  exact⟨D,Z3<|(U.trans z.1) _ _ w2,ZG _⟩
 .intro i L H' x H'' R hi z yl hR
  obtain⟨rfl,yy⟩:=yl;have sz:=U.trans z.1;obtain⟨dx,o,T8⟩:=w3.get<|yy D<|Z3<|sz _ _ w2;rw[ZH]at o
  cases hu1:us[i]? with
  |none=>rw[hu1]at o;cases o
  |some u=>
   rw[hu1]at o;cases o;have R3:=kd.mono sz;exists C,_,_,_,R3.ins,T.cl,T.wo,Ll _,.ref l2,by rw[<-v1];exact Vd.k (k:=Sum.inr g) R3.wo,⟨M,Z3<|sz _ _ v2⟩;refine NU M.length (λj ws H3=>Same H'' H3/\ws.length=i*Z.length+j/\j<=Z.length/\HasL H3 ws (((us.take i).flatMap λu=>Z.map λv=>W.pair u v).map W.dat++ ((Z.take j).map λv=>W.pair u v).map W.dat)) ⟨Z8 _,by rw[z.2.1];rfl,Zc _,by rw[jN,jo,jo,ja];exact z.2.2.2⟩
    (λj ws H3 N=>Yu (by
     rw[N.2.1];have:(i+1)*Z.length<=us.length*Z.length:=jA _ (by omega);rw[jq]at this;have:=N.2.2.1;omega)) ?_ ?_ ?_ ?_
   .intro j ws H3 hj N
    exact⟨M,M[j],Z3<|(sz.trans N.1) _ _ v2,by simp[hj]⟩
   .intro ws H3 N
    exact⟨M,Z3<|(sz.trans N.1) _ _ v2,ZG _⟩
   .intro j ws H3 x2 H4 T2 hj N yl2 hT
    obtain⟨rfl,R6⟩:=yl2;have s3:=sz.trans N.1;obtain⟨dz,r,T7⟩:=v3.get<|R6 M<|Z3<|s3 _ _ v2;rw[ZH]at r
    cases hv1:Z[j]? with
    |none=>rw[hv1]at r;cases r
    |some v=>
     rw[hv1]at r;cases r;refine⟨sl 2,λt ht=>hT _ _ ?_⟩;have st:=Yq ht<|.tup [x,x2];exists N.1.trans st,by rw[ZL,N.2.1];rfl,(ZF.mp hv1).1;rw[take_snoc hv1,ZK,ZK,<-vZ];refine Z7 (N.2.2.2.mono st)<|Z5 ?_;unfold W.dat Has;exact⟨t,_,Y,Yf,Z4 ((T8.mono s3).mono st)<|Z4 ((T7.mono s3).mono st) Z6⟩
   .intro ws H3 N
    have T6:M.length=Z.length:=O1;refine hR _ _ ⟨z.1.trans N.1,by rw[N.2.1,T6,jq],(ZF.mp hu1).1,?_⟩;have y4:=N.2.2.2;have et:Z.take M.length=Z:=Zg (by omega);rw[et]at y4;rw[FI _ hu1,ZK];exact y4
 .intro L H' p3 z hp3
  have s3:=Yq hp3<|.lst L;have h3:upd H' p3 (.lst L) p3=some (.lst L):=Yf;have z4:=z.2.2.2;rw[Zg (by omega)]at z4;have z5:=z4.mono s3;generalize upd H' p3 (.lst L)=H3 at s3 h3 z5 |-;have G3:=z.1.trans s3;have lz:L.length=us.length*Z.length:=by rw[z.2.1,R1]
  refine⟨p2,p3,[V.non],L,Y,Y,G3 _ _ h2,h3,Zh (Yu (by rw[lz];simp;omega)),λp4 T3=>?_⟩;have s4:=Yq T3<|.lst<|[V.non]++ L;have h4:upd H3 p4 (.lst<|[V.non]++ L) p4=some (.lst<|[V.non]++ L):=Yf;have z6:=z5.mono s4;generalize upd H3 p4 (.lst<|[V.non]++ L)=H4 at s4 h4 z6 |-;have M2:=(U.trans G3).trans s4;have G2:=kd.mono M2;have hw:HasL H4 ([V.non]++ L) ((W.non::us.flatMap λu=>Z.map λv=>W.pair u v).map W.dat):=Z4 GS z6;exists p4,_,Y,.inl<|Z3 h4,_,rfl;refine Y1 (by simp;omega) ?_;refine⟨C,_,_,_,G2.ins,T.cl,T.pk,Am _,sl 2,λp5 T1=>?_⟩;refine up_in T1 _ λH5 s5 h5=>?_;have R4:=G2.mono s5;refine⟨_,Je.t (k:=[Sum.inr e,Sum.inr g]) R4.pk h5<|Yu<|by omega,?_⟩;have p:=R4.put_pk<|putK S.pk [Sum.inr e,Sum.inr g]<|.str y;have f6:KFr J H (upd H5 J.pk<|.dT<|putK S.pk [Sum.inr e,Sum.inr g]<|.str y):=KFr.put (Same.kfr<|M2.trans s5) (by simp[KA6.ds]) _;have t6:TL H4 (upd H5 J.pk<|.dT<|putK S.pk [Sum.inr e,Sum.inr g]<|.str y):=(KFr.put (Same.kfr s5) (by simp[KA6.ds]) _:KFr J H4 _).tl G2;generalize upd H5 J.pk (.dT<|putK S.pk [Sum.inr e,Sum.inr g]<|.str y)=H6 at p f6 t6 |-;refine⟨C,_,_,_,p.ins,T.cl,T.wo,Ll _,_,Je.k (k:=Sum.inr y) p.wo<|Yu (by show S.wo.length<=1000;omega),?_⟩;have G:=p.put_wo<|putK S.wo (Sum.inr y)<|.ref p4;have f7:=f6.put (x:=J.wo) (by simp[KA6.ds])<|.dK<|putK S.wo (Sum.inr y)<|.ref p4;have t7:=t6.trans<|(KFr.put (KFr.refl J H6) (x:=J.wo) (by simp[KA6.ds])<|.dK<|putK S.wo (Sum.inr y)<|.ref p4).tl p;generalize upd H6 J.wo (.dK<|putK S.wo (Sum.inr y)<|.ref p4)=H7 at G f7 t7 |-;refine⟨C,_,_,_,G.ins,T.cl,T.he,P6 _,_,by rw[<-G1.he];exact Vd.k (k:=Sum.inr e) G.he,?_⟩;refine⟨C,_,_,_,G.ins,T.cl,T.he,P6 _,_,by rw[<-J2.he];exact Vd.k (k:=Sum.inr g) G.he,?_⟩;refine⟨C,_,_,_,G.ins,T.cl,T.he,P6 _,_,Je.k (k:=Sum.inr y) G.he<|Yu (by show S.he.length<=1000;omega),?_⟩;have eh:(1+(he:Int)+(hg:Int))=((1+he+hg:Nat):Int):=by push_cast;rfl
  dsimp only[rI0,rI,UT];rw[eh];have X:=G.put_he<|putK S.he (Sum.inr y)<|.int ((1+he+hg:Nat):Int);have f8:=f7.put (x:=J.he) (by simp[KA6.ds])<|.dK<|putK S.he (Sum.inr y)<|.int ((1+he+hg:Nat):Int);have t8:=t7.trans<|(KFr.put (KFr.refl J H7) (x:=J.he) (by simp[KA6.ds])<|.dK<|putK S.he (Sum.inr y)<|.int ((1+he+hg:Nat):Int)).tl G;generalize upd H7 J.he (.dK<|putK S.he (Sum.inr y)<|.int ((1+he+hg:Nat):Int))=H8 at X f8 t8 |-;refine⟨C,_,_,_,X.ins,T.cl,T.pd,P5 _,_,Je.k (k:=Sum.inr y) X.pd<|Yu (by show S.pd.length<=1000;omega),?_⟩;have T0:=X.put_pd<|putK S.pd (Sum.inr y)<|.int ((1+max pe pg:Nat):Int);have f9:=f8.put (x:=J.pd) (by simp[KA6.ds])<|.dK<|putK S.pd (Sum.inr y)<|.int ((1+max pe pg:Nat):Int);have t9:=t8.trans<|(KFr.put (KFr.refl J H8) (x:=J.pd) (by simp[KA6.ds])<|.dK<|putK S.pd (Sum.inr y)<|.int ((1+max pe pg:Nat):Int)).tl X;exact q _ p4 f9 T0 ⟨_,t9.2 _ _ h4,HasL.tl t9 _ hw⟩
end
end K4
namespace L2
open PySem
def zf(G:KK top c d J)(L:y∈J.map (·.1)):c y<=5\/c y<=top:=by
 obtain⟨s,M⟩:=JM L;have Z:=G.at M
 cases s with
 |tags B=>obtain⟨T,R,O,_⟩:=Z;exact .inl<|by omega
 |pair a b=>obtain⟨T,R,O,N,_⟩:=Z;exact .inr N
def My{L:kS}(e:Z.map (·.1)=L.map (λk=>(Sum.inr k.1:Key)))(h:y∉L.map (·.1)):VC Z (Sum.inr y)=none:=by
 unfold VC
 cases q:Z.find? λJ=>decide (J.1=Sum.inr y)with
 |none=>rfl
 |some J=>
  have m:=vm q;have M:=List.find?_some q;have z:J.1=Sum.inr y:=Zt M;have G:(Sum.inr y:Key)∈Z.map (·.1):=ZW.mpr ⟨J,m,z⟩;rw[e]at G;obtain⟨k,N,O⟩:=ZW.mp G;exact Zr (ZW.mpr ⟨k,N,Sum.inr.inj O⟩) h
def UF{Z:kS}{s:Shp}(h:z∈(Z++[(y,s)]).map (·.1))(n:z≠y):z∈Z.map (·.1):=by
 rw[ZK,ZX]at h;rcases h with h|h
 .exact h
 .exact Zr (ZQ.mp h) n
def KR.snoc(k:KR H S Z d)(t:TL H A)(L:KK 30 c d Z)(P:KK1 30 c d (Z.map (·.1)) y s)(E:y∉Z.map (·.1))(M:S'.sh=putK S.sh (Sum.inr y) v)(hv:Has A v s.dat)(R:S'.wo=putK S.wo (Sum.inr y) (.ref r))(hr:∃D,A r=some (.lst D)/\HasL A D ((wOf Z 3 s).map W.dat))(B:S'.he=putK S.he (Sum.inr y) (.int (hOf Z 3 s:Nat)))(T:S'.pd=putK S.pd (Sum.inr y) (.int (d y:Nat)))(C:∀x:Str,VC S'.tk (Sum.inr x)=if JK x s=true then some (.str y)else VC S.tk (Sum.inr x))(i:S'.tk.length<=S.tk.length+4)(I:∀x,JK x s=true->JD Z x=none)(X:∀a b:Str,VC S'.pk [Sum.inr a,Sum.inr b]=if V2 a b s=true then some (.str y)else VC S.pk [Sum.inr a,Sum.inr b])(h:S'.pk.length<=S.pk.length+4)(U:∀a b,V2 a b s=true->Vu Z a b=none):
  KR A S' (Z++[(y,s)]) d:=by
 have Q:=k.tl t;have j:=My k.ke E
 have hw:Y6 (Z++[(y,s)]) 3 y=wOf Z 3 s:=by
  rw[WD (Gp E)]
  cases s with
  |tags m=>rfl
  |pair a b=>
   obtain⟨O,N,w,u,f,p⟩:=P;have o:=jf (d a)<|d b;have l:=jb (d a)<|d b;show(W.non::_)=(W.non::_);rw[Jk L _ 2 a O,Jk L _ 2 b N,UB L 2 3 a O (by omega)<|by omega,UB L 2 3 b N (by omega) (by omega)]
 have hh:Xe (Z++[(y,s)]) 3 y=hOf Z 3 s:=by
  rw[Xv (Gp E)]
  cases s with
  |tags m=>rfl
  |pair a b=>
   obtain⟨O,N,w,u,f,p⟩:=P;have o:=jf (d a)<|d b;have l:=jb (d a)<|d b;show 1+_+_=1+_+_;rw[UV L _ 2 a O,UV L _ 2 b N,XF L 2 3 a O (by omega)<|by omega,XF L 2 3 b N (by omega) (by omega)]
 have F:∀{z:Str},z≠y->¬(Sum.inr z:Key)=Sum.inr y:=λn q=>n<|Sum.inr.inj q;obtain⟨b1,b2,b3,b4,b5,b6⟩:=k.ln;exists ?_,λz g G=>?_,λz G=>?_,λz G=>?_,λz G=>?_,λx=>?_,λa b=>?_
 .rw [M,V8 v j,ZK,ZK,k.ke];rfl
 .rw [M,Vx]
  by_cases e:z=y
  .subst e
   rw[Gp E]at G;cases G;rw[Zp rfl];exact⟨v,Y,hv⟩
  .rw [Zq (F e)]
   have J:=UF (ZW.mpr ⟨_,Xn G,rfl⟩) e;rw[WO J]at G;exact Q.sh z g G
 .rw [R,Vx]
  by_cases e:z=y
  .subst e
   rw[Zp rfl,hw];obtain⟨D,g1,g2⟩:=hr;exact⟨r,D,Y,g1,g2⟩
  .rw [Zq (F e)]
   have J:=UF G e;rw[Jk L _ 3 z J];exact Q.wo z J
 .rw [B,Vx]
  by_cases e:z=y
  .subst e
   rw[Zp rfl,hh]
  .rw [Zq (F e)]
   have J:=UF G e;rw[UV L _ 3 z J];exact k.he z J
 .rw [T,Vx]
  by_cases e:z=y
  .subst e
   rw[Zp rfl]
  .rw [Zq (F e)]
   exact k.pd z<|UF G e
 .rw [C x]
  have e:JD (Z++[(y,s)]) x=(JD Z x).or (if JK x s=true then some y else none):=by
   unfold JD;rw[XH]
   cases Z.find? λk=>JK x k.2 with
   |some k=>rfl
   |none=>
    show Option.map _ (if JK x s=true then some (y,s)else none)=_;cases JK x s <;> rfl
  rw[e]
  cases hx:JK x s with
  |true=>rw[I x hx];rfl
  |false=>
   rw[k.tk x];cases JD Z x <;> rfl
 .rw [X a b]
  have e:Vu (Z++[(y,s)]) a b=(Vu Z a b).or (if V2 a b s=true then some y else none):=by
   unfold Vu;rw[XH]
   cases Z.find? λk=>V2 a b k.2 with
   |some k=>rfl
   |none=>
    show Option.map _ (if V2 a b s=true then some (y,s)else none)=_;cases V2 a b s <;> rfl
  rw[e]
  cases hx:V2 a b s with
  |true=>rw[U a b hx];rfl
  |false=>
   rw[k.pk a b];cases Vu Z a b <;> rfl
 .rw [ZL,vc,M,R,B,T]
  have:=VW S.sh (Sum.inr y) v;have:=VW S.wo (Sum.inr y)<|.ref r;have:=VW S.he (Sum.inr y)<|.int (hOf Z 3 s:Nat);have:=VW S.pd (Sum.inr y)<|.int (d y:Nat);exact⟨by omega,by omega,by omega,by omega,by omega,by omega⟩
end L2
namespace K4
open PySem L2
section
variable{f g C gt gp gn:Addr}
def Rw(C:Addr):Sp:=λM H Q _=>∃(A:KA6)(S:KC)(y:Str)(v:V)(s:Shp)(Z:kS)(c d:kT),M=[.ref A.t,.str y,v]/\KD H C A S/\KR H S Z d/\KK 30 c d Z/\KK1 30 c d (Z.map (·.1)) y s/\y∉Z.map (·.1)/\
 (1<=y.length/\y.length<=8/\∀c∈y.cps.toList,97<=c/\c<97+26)/\(∀G,s=.tags G->Wds 65 G)/\(∀x,JK x s=true->JD Z x=none)/\(∀a b,V2 a b s=true->Vu Z a b=none)/\Has H v s.dat/\Z.length<=6/\
 ∀J L,KFr A H J->KD J C A L->KR J L (Z++[(y,s)]) d->Q .non J
def vJ(A:KA6):(Wm A).lookup ("take_tags":Str)=none:=rfl
def vK(A:KA6):(Wm A).lookup ("take_pair":Str)=none:=rfl
def Ol:Yh ["self","name","shape"] ["self","name","shape"] (Yd BN):=Y2
def Kh(B:Blt mg)(T:KCl K C)(F:Fun K "take" "Kinds.take" BN f fd)(GN:Ye P w K mg base CX0 n gn nd' ["text"] (Ut 97))(bN:Binds K nd' ["text"] [])(kN:W.keepIn K (.ref gn)=true)(mN:mg "is_name"=some (.ref gn))(GT:Ye P w K mg base CX0 n gt td ["self","name","tags"] (N2 C))(bT:Binds K td ["self","name","tags"] [])(mT:VI K C "take_tags" gt)(GP:Ye P w K mg base CX0 n gp pd' ["self","name","one","other"] (Ru C))(bP:Binds K pd' ["self","name","one","other"] [])(mP:VI K C "take_pair" gp):
  Ye P w K mg base CX0 (n+1) f fd ["self","name","shape"] (Rw C):=by
 refine F.oq Ol λO1 A J2 s H vs Q E hr h=>?_;obtain⟨M,S,y,v,s,U,c,d,rfl,kd,R,o,k1,ny,⟨y1,y8,yc⟩,wt,D,I,hv,k6,q⟩:=h;have hu:=JA hr;refine⟨_,YY (Y5 (JN<|Vv<|JW GN hr rfl mN kN bN .nil Y3 (pa1<|pv 1)) (YZ V4) Yp)
  (YY (Y5 (Jp<|Ux hu (pv 1)<|Ym (pv 0) rfl) (YZ V4) Yp)
  (YY (Y5 (PW.pt<|MT (Ys Vc (VB Y8 rfl B.len Zu (pa1<|pv 2)) Ya<|Y0 _)<|GD<|Ys Vc (Yr Yt (pv 2) Ya) Yw<|Y0 _)
   (YZ<|VS<|Y4 (pv 0) T.cl mT GT hr bT .nil Y3<|pa2 (pv 1)<|Yr Yt (pv 2) Ya)
   (YZ (Y5 (PW.pt<|MT (Ys Vc (VB Y8 rfl B.len Zu (pa1<|pv 2)) Ya<|Y0 _)<|GD<|Ys Vc (Yr Yt (pv 2) Ya) Yw<|Y0 _)
    (YZ<|VS<|Y4 (pv 0) T.cl mP GP hr bP .nil Y3<|pa3 (pv 1) (Yr Yt (pv 2) Ya)<|Yr Yt (pv 2) Ya)
    (YZ V4))))
  (YZ<|Vf hu (Ym (pv 0) rfl) (pv 1) (pv 2) rfl))),?_⟩
 show let a:=_;let b:=_;let c:=_;let d:=_;let e:=VE _ c d;let f:=Yk (VE _ b e) a;let g:=_;let h:=Yk (VE _ g _) f;let i:=_;Yk (VE _ i _) h _ _ _
 intros
 refine⟨y,Y,y1,y8,yc,λH1 s1=>⟨_,Y,?_⟩⟩;refine Y1 (by simp) ?_;have J:=kd.mono s1;have X:=R.tl s1.tl;have N:=hv.mono s1;have gn:Vd H1 M.sh (.str y) none:=by rw[<-My R.ke ny];exact Vd.k (k:=Sum.inr y) J.sh
 exists C,_,_,_,J.ins,T.cl,T.sh,Mq _,_,gn,_,Y;refine Y1 (by simp) ?_;obtain⟨b1,b2,b3,b4,b5,b6⟩:=R.ln
 cases s with
 |tags u=>
  obtain⟨p,l,rfl,O,hl⟩:=Xz N;have l2:([V.str "tags",V.ref l]:kL).length=2:=rfl;exists p,_,Y,.inr<|Z2 O,rfl,_,rfl;refine VF (by simp) ?_;exists _,_,Z2 O,Y,Y,_,Y;refine VF (by simp) ?_;obtain⟨t1,t4,_,t0,_⟩:=k1;refine⟨_,_,J.ins,vJ _,_,_,Z2 O,Y,M,S,y,l,u,Y,J,hl,t1,t4,wt u Y,λx hx=>?_,by omega,by omega,by omega,by omega,λH2 M2 r f2 Z tv tl t=>?_⟩
  .rw [R.tk x,D x (by unfold JK;exact decide_eq_true hx)];rfl
  .have tl2:=f2.tl J
   refine⟨C,_,_,_,Z.ins,T.cl,T.sh,Mq _,_,Je.k (k:=Sum.inr y) Z.sh<|Yu (by show S.sh.length<=1000;omega),?_⟩;have j:=Z.put_sh<|putK S.sh (Sum.inr y)<|.ref p;have f3:=f2.put (x:=M.sh) (by simp[KA6.ds])<|.dK<|putK S.sh (Sum.inr y)<|.ref p;have G:=tl2.trans<|(KFr.put (KFr.refl M H2) (x:=M.sh) (by simp[KA6.ds])<|.dK<|putK S.sh (Sum.inr y)<|.ref p).tl Z;have L:=(KFr.put (KFr.refl M H2) (x:=M.sh) (by simp[KA6.ds])<|.dK<|putK S.sh (Sum.inr y)<|.ref p).tl Z;refine q _ _ (s1.kfr.trans f3) j<|KR.snoc (v:=.ref p) (r:=r) X G o ⟨t1,t4,by assumption,t0,by assumption⟩ ny rfl (Has.tl G _ N) rfl ⟨_,L.2 _ _ t,?_⟩ rfl (by rw[t0];rfl) (λx=>?_) tl D (λa b=>rfl) (vU _ _) I
   .show HasL _ (V.non::u.map V.str) ((W.non::u.map W.tag).map W.dat)
    exact Z4 GS<|M5 u
   .rw [tv x]
    unfold JK
    by_cases m:x∈u
    .rw [Zp m,Zp (decide_eq_true m)]
    .rw [Zq m,Zq (by simp[m])]
 |pair a b=>
  obtain⟨p,rfl,O⟩:=Ud N;obtain⟨q1,q2,q3,q4,q5,q6⟩:=id k1;have m1:=jf (d a)<|d b;have m2:=jb (d a)<|d b;exists p,_,Y,.inr<|Z2 O,rfl,_,rfl;refine Y1 (by simp) ?_;refine Y1 (by simp) ?_;exists p,_,Y,.inr<|Z2 O,rfl,_,rfl;refine VF (by simp) ?_;exists _,_,Z2 O,Y,Y,_,Y;refine VF (by simp) ?_;obtain⟨la,pa,_⟩:=UQ o 3 a q1 (by omega);obtain⟨lb,pb,_⟩:=UQ o 3 b q2<|by omega
  have pt:∀z,z∈U.map (·.1)->Pt H1 S z (Y6 U 3 z) (Xe U 3 z) (d z):=λz hz=>by
   obtain⟨s',G3⟩:=JM hz;obtain⟨v',e1,_⟩:=R.sh z s' G3;exact⟨by rw[e1];rfl,X.wo z hz,R.he z hz,R.pd z hz⟩
  have ca:c a<=30:=by rcases zf o q1 with h|h <;> omega
  have cb:c b<=30:=by rcases zf o q2 with h|h <;> omega
  refine⟨_,_,J.ins,vK _,_,_,Z2 O,Y,_,_,Z2 O,Y,M,S,y,a,b,Y6 U 3 a,Y6 U 3 b,Xe U 3 a,Xe U 3 b,d a,d b,Y,J,pt a q1,pt b q2,?_,by omega,?_,by omega,by omega,by omega,by omega,by omega,by omega,λz=>by subst z;exact ny q1,λz=>by subst z;exact ny q2,λH2 r f2 Z t=>?_⟩
  .rw [R.pk a b,I a b (by unfold V2;simp)];rfl
  .rw [la,lb];omega
  .have tl2:=f2.tl J
   refine⟨C,_,_,_,Z.ins,T.cl,T.sh,Mq _,_,Je.k (k:=Sum.inr y) Z.sh<|Yu (by show S.sh.length<=1000;omega),?_⟩;have j:=Z.put_sh<|putK S.sh (Sum.inr y)<|.ref p;have f3:=f2.put (x:=M.sh) (by simp[KA6.ds])<|.dK<|putK S.sh (Sum.inr y)<|.ref p;have L:=(KFr.put (KFr.refl M H2) (x:=M.sh) (by simp[KA6.ds])<|.dK<|putK S.sh (Sum.inr y)<|.ref p).tl Z;have G:=tl2.trans L;obtain⟨xs,G2,G1⟩:=t;refine q _ _ (s1.kfr.trans f3) j<|KR.snoc (v:=.ref p) (r:=r) X G o k1 ny rfl (Has.tl G _ N) rfl ⟨xs,L.2 _ _ G2,HasL.tl L _ G1⟩ rfl (by rw[q5]) (λx=>rfl) (vU _ _) D (λe g=>?_) (by have:=VW S.pk [Sum.inr a,Sum.inr b]<|.str y;show(putK S.pk [Sum.inr a,Sum.inr b]<|V.str y).length<=_;omega) I;show VC (putK S.pk [Sum.inr a,Sum.inr b]<|V.str y) [Sum.inr e,Sum.inr g]=_;rw[Vx];unfold V2
   by_cases h1:a=e
   .by_cases h2:b=g
    .subst h1 h2;simp
    .have z:¬([Sum.inr e,Sum.inr g]:List Key)=[Sum.inr a,Sum.inr b]:=λw=>by injection w with w1 w2;injection w2 with w2 _;exact h2 (Sum.inr.inj w2).symm
     rw[Zq z,Zq (by simp[h2])]
   .have z:¬([Sum.inr e,Sum.inr g]:List Key)=[Sum.inr a,Sum.inr b]:=λw=>by injection w with w1 _;exact h1 (Sum.inr.inj w1).symm
    rw[Zq z,Zq (by simp[h1])]
end
end K4
namespace L2
open PySem
def Jd(L:H x=some (.ins C Z fs))(G:H p=none):
  upd (upd H p o) x (.ins C Z<|VQ f (.ref p) fs) x=some (.ins C Z<|VQ f (.ref p) fs)/\upd (upd H p o) x (.ins C Z<|VQ f (.ref p) fs) p=some o/\p≠x/\∀b u,b≠x->H b=some u->upd (upd H p o) x (.ins C Z<|VQ f (.ref p) fs) b=some u:=by
 have J:p≠x:=(Yb L G).symm;exact⟨Yf,(Yg J).trans Yf,J,λb u M h=>by rw[Yg M,Yg (Yb h G)];exact h⟩
def KK.take(h:KK top c d J)(i:Nat):KK top c d (J.take i):=λj y s e=>by
 have Z:j<i:=by
  have:=(ZF.mp e).1;rw[ZN]at this;omega
 rw[qQ,Zp Z]at e;have q:=h j y s e;rw[List.take_take,vR (Zh Z)];exact q
def P1{i j a b:Nat}(h:4*i+a=4*j+b)(J:a<4)(Z:b<4):i=j:=by omega
def KG.apart(g:KG M){i j:Nat}(E:M[i]?=some (y,.tags G))(D:M[j]?=some (z,.tags J))(A:x∈G)(F:x∈J):i=j:=by
 obtain⟨Z,wd,q⟩:=g.tg;obtain⟨r,X,rfl⟩:=q i y G E;obtain⟨C,B,rfl⟩:=q j z J D;obtain⟨a,O,T⟩:=vY.mp A;obtain⟨b,N,R⟩:=vY.mp F;rw[ZN,jk]at O N;obtain⟨Q,U⟩:=Nat.lt_min.mp O;obtain⟨P,S⟩:=Nat.lt_min.mp N;rw[List.getElem_take,List.getElem_drop]at T R;have e:Z[4*i+a]'(Nat.add_lt_of_lt_sub' U)=Z[4*j+b]'(Nat.add_lt_of_lt_sub' S):=T.trans R.symm;have L:=vW.mp wd.nd
 have I:4*i+a=4*j+b:=by
  rcases qZ (4*i+a) (4*j+b)with h|h|h
  .exact Zr e (L _ _ _ _ h)
  .exact h
  .exact Zr e.symm (L _ _ _ _ h)
 exact P1 I (by omega)<|by omega
def KG.ntk(g:KG Z)(T:Z[i]?=some (y,s))(x:Str)(h:JK x s=true):JD (Z.take i) x=none:=by
 cases s with
 |pair a b=>cases h
 |tags N=>
  have R:x∈N:=Zt h;unfold JD
  cases e:(Z.take i).find? λk=>JK x k.2 with
  |none=>rfl
  |some k=>
   have m:=vm e;have q:=List.find?_some e;obtain⟨z,O⟩:=k
   cases O with
   |pair a b=>cases q
   |tags L=>
    have J:x∈L:=Zt q;obtain⟨j,M,B⟩:=vY.mp m;have G:j<i:=by rw[ZN]at M;omega
    have D:Z[j]?=some (z,.tags L):=by
     have:=ZD M;rw[B,qQ,Zp G]at this;exact this
    have:=g.apart T D R J;omega
def KG.npk(g:KG J)(N:J[i]?=some (y,s))(a b:Str)(h:V2 a b s=true):Vu (J.take i) a b=none:=by
 have L:∀{Z:Shp},V2 a b Z=true->Z=.pair a b:=λ{Z} h=>by
  cases Z with
  |tags D=>cases h
  |pair c e=>
   unfold V2 at h;rw[ZZ]at h;rw[Zt h.1,Zt h.2]
 unfold Vu
 cases e:(J.take i).find? λk=>V2 a b k.2 with
 |none=>rfl
 |some k=>
  have m:=vm e;have q:=List.find?_some e;obtain⟨z,Z⟩:=k;have B:=L h;have R:Z=.pair a b:=L q;subst B R;obtain⟨j,M,O⟩:=vY.mp m;have G:j<i:=by rw[ZN]at M;omega
  have T:J[j]?=some (z,.pair a b):=by
   have:=ZD M;rw[O,qQ,Zp G]at this;exact this
  have:=g.pr i j y z a b N T;omega
end L2
namespace K4
open PySem L2
section
variable{f g C gt:Addr}
def N3(C:Addr):Sp:=λL H Q _=>∃(x M l:Addr)(G:kL)(Z:kS)(c d:kT),L=[.ref x,.ref l]/\H x=some (.ins C M [])/\H l=some (.lst G)/\HasL H G (Z.map NS)/\KK 30 c d Z/\(Z.map (·.1)).Nodup/\KG Z/\0<Z.length/\Z.length<=6/\
 ∀J,(∀b o,b≠x->H b=some o->J b=some o)->KI J C x Z d->Q .non J
def zZ(A:KA6):(Wm A).lookup ("take":Str)=none:=rfl
def N9:Yh ["self","told","name","shape"] ["self","told"] (Yd Ih):=Y2
def Pc(B:Blt mg)(T:KCl K C)(F:Fun K "__init__" "Kinds.__init__" Ih f fd)(hM:mg "MOST_KINDS"=some u)(rM:RelV (.int 6) u)(GT:Ye P w K mg base CX0 n gt td ["self","name","shape"] (Rw C))(bT:Binds K td ["self","name","shape"] [])(mT:VI K C "take" gt):
  Ye P w K mg base CX0 (n+1) f fd ["self","told"] (N3 C):=by
 refine F.oq N9 λI9 A T3 s H vs Q E hr h=>?_;obtain⟨x,M,l,xs,ks,c,d,rfl,hx,hl,G3,kk,nd,kg,k0,k6,q⟩:=h;refine⟨_,YY (Y5 (JN<|Xr XO XO Ya (VB Y8 rfl B.len Zu (pa1<|pv 1))<|V5 rfl hM rM) (YZ V4) Yp)
  (YY (VT (pv 0) Vz rfl) (YY (VT (pv 0) Vz rfl) (YY (VT (pv 0) Vz rfl) (YY (VT (pv 0) Vz rfl) (YY (VT (pv 0) Vz rfl) (YY (VT (pv 0) KF rfl)
  (YZ (V9 Zv rfl (Ju<|pv 1) (Vg (n:=2) rfl (Yn (Yl 2 N9.nd)<|Yn (Yl 3 N9.nd) VJ))
   (YZ<|VS<|Y4 (pv 0) T.cl mT GT hr bT .nil Y3<|pa2 (pv 2)<|pv 3))))))))),?_⟩
 show let a:=_;let b:=Uq _ _ a;let c:=Yk _ b;let d:=Yk _ c;let e:=Yk _ d;let f:=Yk _ e;let g:=Yk _ f;let h:=Yk _ g;let i:=_;Yk (VE _ i _) h _ _ _
 intros
 have lx:=G3.length;rw[ZA]at lx;exists l,_,Y,.inl<|Z3 hl,_,rfl;refine VF (by simp;omega) ?_;exists _,Y;refine Y1 (by simp;omega) ?_;intro X J2;refine⟨x,C,M,_,Y,by rw[Yg (Yb hx J2)];exact hx,T.cl,T.sh,by decide,?_⟩;obtain⟨x1,a1,n1,r⟩:=Jd (f:="shapes") (o:=.dK []) hx J2;generalize upd (upd H X<|.dK []) x (.ins C M<|VQ "shapes" (.ref X) [])=H1 at x1 a1 r |-;intro p2 N;refine⟨x,C,M,_,Y,by rw[Yg (Yb x1 N)];exact x1,T.cl,T.wo,(by show 1<1000;decide),?_⟩;obtain⟨x2,a2,n2,p⟩:=Jd (f:="worths") (o:=.dK []) x1 N;generalize upd (upd H1 p2<|.dK []) x (.ins C M<|VQ "worths" (.ref p2)<|VQ "shapes" (.ref X) [])=H2 at x2 a2 p |-;intro p3 L;refine⟨x,C,M,_,Y,by rw[Yg (Yb x2 L)];exact x2,T.cl,T.he,(by show 2<1000;decide),?_⟩;obtain⟨x3,a3,n3,k⟩:=Jd (f:="heights") (o:=.dK []) x2 L;generalize upd (upd H2 p3<|.dK []) x (.ins C M<|VQ "heights" (.ref p3)<|VQ "worths" (.ref p2)<|VQ "shapes" (.ref X) [])=H3 at x3 a3 k |-;intro p4 G;refine⟨x,C,M,_,Y,by rw[Yg (Yb x3 G)];exact x3,T.cl,T.pd,(by show 3<1000;decide),?_⟩;obtain⟨x4,a4,n4,m⟩:=Jd (f:="pairs_deep") (o:=.dK []) x3 G;generalize upd (upd H3 p4<|.dK []) x (.ins C M<|VQ "pairs_deep" (.ref p4)<|VQ "heights" (.ref p3)<|VQ "worths" (.ref p2)<|VQ "shapes" (.ref X) [])=H4 at x4 a4 m |-;intro p5 J;refine⟨x,C,M,_,Y,by rw[Yg (Yb x4 J)];exact x4,T.cl,T.tk,(by show 4<1000;decide),?_⟩;obtain⟨x5,a5,n5,t⟩:=Jd (f:="tag_kinds") (o:=.dK []) x4 J;generalize upd (upd H4 p5<|.dK []) x (.ins C M<|VQ "tag_kinds" (.ref p5)<|VQ "pairs_deep" (.ref p4)<|VQ "heights" (.ref p3)<|VQ "worths" (.ref p2)<|VQ "shapes" (.ref X) [])=H5 at x5 a5 t |-;intro p6 Z;refine⟨x,C,M,_,Y,by rw[Yg (Yb x5 Z)];exact x5,T.cl,T.pk,(by show 5<1000;decide),?_⟩;obtain⟨x6,a6,n6,j⟩:=Jd (f:="pair_kinds") (o:=.dT []) x5 Z;generalize upd (upd H5 p6<|.dT []) x (.ins C M<|VQ "pair_kinds" (.ref p6)<|VQ "tag_kinds" (.ref p5)<|VQ "pairs_deep" (.ref p4)<|VQ "heights" (.ref p3)<|VQ "worths" (.ref p2)<|VQ "shapes" (.ref X) [])=H6 at x6 a6 j |-
 let D:KA6:=⟨x,M,X,p2,p3,p4,p5,p6⟩
 have frame:∀b o,b≠x->H b=some o->H6 b=some o:=λb o R h=>j b o R<|t b o R<|m b o R<|k b o R<|p b o R<|r b o R h;have T1:=p _ _ n1 a1;have T0:=k _ _ n1 T1;have R8:=m _ _ n1 T0;have R7:=t _ _ n1 R8;have I7:=j _ _ n1 R7;have R6:=k _ _ n2 a2;have R5:=m _ _ n2 R6;have R4:=t _ _ n2 R5;have I6:=j _ _ n2 R4;have R3:=m _ _ n3 a3;have R1:=t _ _ n3 R3;have I5:=j _ _ n3 R1;have O1:=t _ _ n4 a4;have I4:=j _ _ n4 O1;have I3:=j _ _ n5 a5
 have T5:D.ds.Nodup:=by
  have I2:=Yb a1 N;have I1:=Yb T1 L;have F9:=Yb T0 G;have F8:=Yb R8 J;have F7:=Yb R7 Z;have F6:=Yb a2 L;have F5:=Yb R6 G;have F4:=Yb R5 J;have F3:=Yb R4 Z;have F2:=Yb a3 G;have F1:=Yb R3 J;have D7:=Yb R1 Z;have D3:=Yb a4 J;have D2:=Yb O1 Z;have D1:=Yb a5 Z;simp[KA6.ds,D,I2,I1,F9,F8,F7,F6,F5,F4,F3,F2,F1,D7,D3,D2,D1]
 have kd:KD H6 C D ⟨[],[],[],[],[],[]⟩:=⟨x6,I7,I6,I5,I4,I3,a6,T5⟩
 have T4:∀b,b∈D.ds->H b=none:=λb R=>by
  cases e:H b with
  |none=>rfl
  |some o=>
   simp only[KA6.ds,D,Zd,jS,or_false]at R;rcases R with z|z|z|z|z|z
   .subst z;rw[J2]at e;cases e
   .subst z;rw[r _ _ n2 e]at N;cases N
   .subst z;rw[p _ _ n3 (r _ _ n3 e)]at L;cases L
   .subst z;rw[k _ _ n4 (p _ _ n4<|r _ _ n4 e)]at G;cases G
   .subst z;rw[m _ _ n5 (k _ _ n5<|p _ _ n5<|r _ _ n5 e)]at J;cases J
   .subst z;rw[t _ _ n6 (m _ _ n6<|k _ _ n6<|p _ _ n6<|r _ _ n6 e)]at Z;cases Z
 have T6:l≠x:=JQ hl hx (by intro z;cases z);have M2:=frame _ _ T6 hl;have G1:TL H H6:=⟨λb ys h=>frame _ _ (JQ h hx (by intro z;cases z)) h,λb ys h=>frame _ _ (JQ h hx (by intro z;cases z)) h⟩;have T8:=HasL.tl G1 _ G3;exists ⟨_,Z3 M2⟩
 let I:kM:=λi U H'=>∃S z1 z2,KFr D H6 H'/\KD H' C D S/\KR H' S (ks.take i) d/\U=[some (.ref x),some<|.ref l,z1,z2]
 refine P4 (xs:=xs) I ⟨_,_,_,KFr.refl _ _,kd,?_,Y⟩ ?_ ?_ ?_
 .rw [jN]
  exact⟨Y,λy s e=>by simp[Ve]at e,λy hy=>by simp at hy,λy hy=>by simp at hy,λy hy=>by simp at hy,λy=>Y,λa b=>Y,by decide⟩
 .rintro i U H' _ ⟨S,z1,z2,fr,kd',kr',rfl⟩
  exact Z3<|(fr.tl kd).2 _ _ M2
 .rintro BB RR i v U H' hv ⟨S,z1,z2,fr,kd',kr',rfl⟩
  have I8:=(ZF.mp hv).1;obtain⟨dv,O,D0⟩:=T8.get hv;rw[ZH]at O
  cases hk:ks[i]? with
  |none=>rw[hk]at O;cases O
  |some ys=>
   rw[hk]at O;cases O;obtain⟨y,sh⟩:=ys;have T2:=fr.tl kd;obtain⟨a,v2,rfl,ha,T9⟩:=LW<|Has.tl T2 _ D0;have my:y∈ks.map (·.1):=ZW.mpr ⟨_,ZJ hk,rfl⟩
   have ny:y∉(ks.take i).map (·.1):=λhm=>by
    have q':((ks.take i++[(y,sh)]).map (·.1)).Nodup:=by rw[<-take_snoc hk];exact nd.sublist<|(ju _ _).map _
    rw[ZK]at q';exact(jh.mp q').2.2 y hm y (by simp) rfl
   exists _,Z2 ha,Y;refine⟨_,_,kd'.ins,zZ D,D,S,y,v2,sh,ks.take i,c,d,Y,kd',kr',kk.take i,kk i y sh hk,ny,⟨(kg.nm.len y my).1,(kg.nm.len y my).2,kg.nm.abc y my⟩,λts e=>?_,kg.ntk hk,kg.npk hk,T9,by rw[ZN];omega,λH2 S2 f2 T7 G2=>?_⟩
   .subst e
    exact kg.tags<|ZJ hk
   .rw [<-take_snoc hk]at G2
    exact⟨S2,_,_,fr.trans f2,T7,G2,Y⟩
 .rintro U H' ⟨S,z1,z2,fr,kd',kr',rfl⟩
  rw[Zg (by omega)]at kr';refine q H' (λb o R h=>fr b o (λhm=>?_)<|frame b o R h) ⟨D,S,rfl,kd',kr'⟩;rw[T4 b hm]at h;cases h
end
end K4
namespace L2
open PySem
def TZ{α:Type}{p:α->Bool}{l:List α}{x:α}(h:(l.take i).find? p=none)(e:l[i]?=some x)(Z:p x=true):l.find? p=some x:=by
 have J:=(ZF.mp e).1;have G:l.drop i=x::l.drop (i+1):=by rw[List.drop_eq_getElem_cons J,(ZF.mp e).2]
 rw[<-qx i l,List.find?_append,h,G,vy,Z]
 rfl
def Qa(h:Ve Z y=some s):∃i:Nat,Z[i]?=some (y,s):=vg.mp<|Xn h
def Nz(g:KG Z)(h:Ve Z y=some (.tags J))(m:t∈J):JD Z t=some y:=by
 obtain⟨i,L⟩:=Qa h;have G:JK t (.tags J)=true:=by unfold JK;exact decide_eq_true m
 have n:=g.ntk L t G;unfold JD at n |-
 rw[TZ (by cases e:(Z.take i).find? λk=>JK t k.2 with
  |none=>rfl
  |some k=>rw[e]at n;cases n) L G]
 rfl
def NG(g:KG Z)(h:Ve Z y=some (.pair a b)):Vu Z a b=some y:=by
 obtain⟨i,G⟩:=Qa h;have J:V2 a b (.pair a b)=true:=by unfold V2;simp
 have n:=g.npk G a b J;unfold Vu at n |-
 rw[TZ (by cases e:(Z.take i).find? λk=>V2 a b k.2 with
  |none=>rfl
  |some k=>rw[e]at n;cases n) G J]
 rfl
def LU(h:Has H v (.tup [.str b,d])):∃a u,v=.ref a/\H a=some (.tup [.str b,u])/\Has H u d:=by
 obtain⟨t,R,rfl,L,M⟩:=Yv h;obtain⟨T,D,rfl,O,J⟩:=Yc M;obtain⟨G,B,rfl,N,Z⟩:=Yc J;obtain rfl:=VA Z;obtain rfl:=has_str O;exact⟨t,G,Y,L,N⟩
def FY:List (Option Str)->Option (kC)
 |[]=>some []
 |none::_=>none
 |some x::r=>(FY r).map (x:: ·)
theorem Nq:∀Z:kC,FY (Z.map some)=some Z
 |[]=>rfl
 |z::Z=>by show(FY<|Z.map some).map (z:: ·)=_;rw[Nq Z];rfl
theorem Rb:∀{l:List (Option Str)},none∈l->FY l=none
 |none::l,_=>rfl
 |some y::l,h=>by
  show(FY l).map (y:: ·)=none;rw[Rb ((Zd.mp h).resolve_left λe=>nomatch e)];rfl
theorem Ej:∀{l:List (Option Str)},none∉l->∃Z,l=List.map some Z
 |[],_=>⟨[],rfl⟩
 |none::_,h=>Zr Za h
 |some y::l,h=>let⟨Z,e⟩:=Ej (l:=l) λm=>h<|ZM _ m;⟨y::Z,by rw[e];rfl⟩
def OZ:V->Option Str
 |.str y=>some y
 |_=>none
open Classical in
noncomputable def own (ks:kS) (hd:Hds) (kv:kJ):Bd->List Str->Option Str
 |.tag t,_=>JD ks t
 |.name x,_=>(VC kv<|Sum.inr x).bind OZ
 |.pair _ _,zs=>match zs with|[a,b]=>Vu ks a b|_=>none
 |.one _,zs=>match zs with|[z]=>(match Ve ks z with|some (.pair a _)=>some a|_=>none)|_=>none
 |.other _,zs=>match zs with|[z]=>(match Ve ks z with|some (.pair _ b)=>some b|_=>none)|_=>none
 |.choose _ ts _,zs=>match zs with|z::y::r=>if Ve ks z=some (.tags ts)/\∀u∈r,u=y then some y else none|_=>none
 |.ask f _,zs=>match hd f with|some (ps,k)=>if ps.map (·.2)=zs then some k else none|none=>none
 |.letb _ z _ _,zs=>match zs with|[a,y]=>if a=z then some y else none|_=>none
def Jr(ks:kS)(kv:kJ):Bd->Prop
 |.letb x z _ _=>(VC kv<|Sum.inr x).isSome=true\/z∉ks.map (·.1)
 |_=>False
open Classical in
noncomputable def kdn (ks:kS) (hd:Hds):Nat->List (Key×V)->Bd->Option Str
 |0,_,_=>none
 |n+1,kv,b=>if Jr ks kv b then none else(FY<|b.parts.map<|kdn ks hd n<|wth kv b).bind (own ks hd kv b)
def GO(h:Jr J Z b):kdn J hd (n+1) Z b=none:=by unfold kdn;exact Zp h
def TF(h:none∈b.parts.map (kdn J hd n<|wth Z b)):kdn J hd (n+1) Z b=none:=by
 unfold kdn;split
 .rfl
 .rw [Rb h];rfl
def Mc(h:¬Jr J Z b)(e:b.parts.map (kdn J hd n<|wth Z b)=G.map some):kdn J hd (n+1) Z b=own J hd Z b G:=by unfold kdn;rw[Zq h,e,Nq];rfl
def NK(ns:kC)(kv:kJ):Prop:=∀q∈kv,∃(x k:Str),q=(Sum.inr x,V.str k)/\k∈ns
def HK(ns:kC)(hd:Hds):Prop:=∀f Z k,hd f=some (Z,k)->k∈ns
def NK.wth(h:NK (J.map (·.1)) Z)(G:¬Jr J Z b):NK (J.map (·.1)) (wth Z b):=by
 cases b with
 |letb x z e g=>
  intro q L;rcases Iv L with m|rfl
  .exact h q m
  .exact ⟨x,z,rfl,Classical.not_not.mp λm=>G<|.inr m⟩
 |_=>exact h
def Na{Z:kS}{p:Str×Shp->Bool}(h:(Z.find? p).map (·.1)=some y):y∈Z.map (·.1):=by
 obtain⟨k,J,rfl⟩:=Zj.mp h;exact ZW.mpr ⟨k,vm J,Y⟩
def NK.at(h:NK Z J)(e:VC J (Sum.inr x)=some v):∃k,v=.str k/\k∈Z:=by
 obtain⟨q,m,_,rfl⟩:=Fp e;obtain⟨_,k,rfl,G⟩:=h q m;exact⟨k,Y,G⟩
def PM(G:KK 30 c d Z)(N:NK (Z.map (·.1)) J)(R:HK (Z.map (·.1)) hd)(L:∀z∈M,z∈Z.map (·.1))(h:own Z hd J b M=some y):y∈Z.map (·.1):=by
 cases b with
 |tag t=>exact Na h
 |name x=>
  obtain⟨v,O,e⟩:=Option.bind_eq_some_iff.mp (show(VC J<|Sum.inr x).bind OZ=some y from h);obtain⟨k,rfl,m⟩:=N.at O;cases e;exact m
 |pair a b=>
  unfold own at h;dsimp only at h;split at h
  .exact Na h
  .cases h
 |one e=>
  unfold own at h;dsimp only at h;split at h
  .split at h
   .rename_i hs;cases h;exact(G.at hs).1
   .cases h
  .cases h
 |other e=>
  unfold own at h;dsimp only at h;split at h
  .split at h
   .rename_i hs;cases h;exact(G.at hs).2.1
   .cases h
  .cases h
 |choose e T B=>
  unfold own at h;dsimp only at h;split at h
  .split at h
   .cases h;exact L _<|by simp
   .cases h
  .cases h
 |ask f D=>
  unfold own at h;dsimp only at h;split at h
  .split at h
   .rename_i hf _;cases h;exact R _ _ _ hf
   .cases h
  .cases h
 |letb x z e g=>
  unfold own at h;dsimp only at h;split at h
  .split at h
   .cases h;exact L _<|by simp
   .cases h
  .cases h
theorem EL(G:KK 30 c d Z)(L:HK (Z.map (·.1)) hd):∀(n:Nat)(J:kJ)(b:Bd)(y:Str),NK (Z.map (·.1)) J->kdn Z hd n J b=some y->y∈Z.map (·.1)
 |0,_,_,_,_,h=>nomatch h
 |n+1,J,b,y,nk,h=>by
  by_cases nb:Jr Z J b
  .rw [GO nb]at h;cases h
  by_cases hn:none∈b.parts.map (kdn Z hd n<|wth J b)
  .rw [TF hn]at h;cases h
  obtain⟨O,M⟩:=Ej hn;rw[Mc nb M]at h;refine PM G nk L (λz N=>?_) h;have m:some z∈b.parts.map (kdn Z hd n<|wth J b):=by rw[M];exact ZW.mpr ⟨z,N,Y⟩
  obtain⟨p,_,e⟩:=ZW.mp m;exact EL G L n _ p z (nk.wth nb) e
def AB(N:KG L)(E:∀e G J,b=.choose e G J->1<=J.length)(h:Kr L hd M y b R):own L hd M b R=some y:=by
 cases b with
 |tag t=>obtain⟨_,G,Z,T⟩:=h;exact Nz N Z T
 |name x=>obtain⟨_,Z⟩:=h;show(VC M<|Sum.inr x).bind OZ=_;rw[Z];rfl
 |pair a b=>obtain⟨S,O,rfl,Z⟩:=h;exact NG N Z
 |one e=>obtain⟨z,O,rfl,Z⟩:=h;show(match Ve L z with|some (.pair a _)=>some a|_=>none)=_;rw[Z]
 |other e=>obtain⟨z,O,rfl,Z⟩:=h;show(match Ve L z with|some (.pair _ b)=>some b|_=>none)=_;rw[Z]
 |choose e G J=>
  obtain⟨z,rfl,Z,A⟩:=h;have:=E e G J rfl;obtain⟨m,D⟩:∃m,J.length=m+1:=⟨J.length-1,by omega⟩;rw[D,qJ];exact Zp ⟨Z,λu B=>List.eq_of_mem_replicate B⟩
 |ask f I=>
  obtain⟨F,Z,rfl⟩:=h;unfold own;dsimp only;rw[Z];exact Zp Y
 |letb x z e g=>obtain⟨rfl,_,_⟩:=h;exact Zp Y
theorem Kd.kdn(T:KG G)(O:∀z L,Ve G z=some (.tags L)->1<=L.length):∀(n:Nat)(J:kJ)(b:Bd)(y:Str),Kd G hd J y b->b.dep<n->L2.kdn G hd n J b=some y
 |0,_,_,_,_,h=>nomatch h
 |n+1,J,b,y,h,hn=>by
  obtain⟨Z,M,R,F⟩:=h.inv
  have D:¬Jr G J b:=by
   cases b with
   |letb x z e g=>obtain⟨_,N,A⟩:=M;exact λm=>m.elim (λm=>by rw[N]at m;cases m) λm=>m A
   |_=>exact id
  have e:b.parts.map (L2.kdn G hd n<|L2.wth J b)=Z.map some:=by
   refine List.ext_getElem? λi=>?_;rw[ZH,ZH]
   cases hp:b.parts[i]? with
   |none=>
    have:Z[i]?=none:=je.mpr (by rw[R];exact je.mp hp);rw[this];rfl
   |some p=>
    have I:i<Z.length:=by rw[R];exact(ZF.mp hp).1
    have B:Z[i]?=some Z[i]:=ZD I;have:=Bd.dep_mem<|ZJ hp;rw[B];exact congrArg some<|Kd.kdn T O n _ p _ (F i p _ hp B)<|by omega
  rw[Mc D e];refine AB T (λU L C S=>?_) M;subst S;obtain⟨z,_,N,E⟩:=M;rw[E];exact O _ _ N
def wrs(f:Bd->List (kE)):Nat->List Bd->List (kE)
 |_,[]=>[]
 |k,c::cs=>(f c).map (((k:Nat):Int):: ·)++ wrs f (k+1) cs
open Classical in
noncomputable def wr (ks:kS) (hd:Hds):Nat->List (Key×V)->Bd->List (kE)
 |0,_,_=>[]
 |n+1,kv,b=>if Jr ks kv b then[[]]else if none∈b.parts.map (kdn ks hd n<|wth kv b)then wrs (wr ks hd n<|wth kv b) 0 b.parts else if kdn ks hd (n+1) kv b=none then[[]]else[]
theorem Re{f:Bd->List (kE)}:∀(k:Nat)(Z J:List Bd),wrs f k (Z++ J)=wrs f k Z++ wrs f (k+Z.length) J
 |k,[],J=>by simp[wrs]
 |k,x::Z,J=>by
  have e:k+1+Z.length=k+(Z.length+1):=by omega
  simp[wrs,Re (k+1) Z J,e]
def Fb{f:Bd->List (kE)}{Z:List Bd}(h:Z[i]?=some c):wrs f 0 (Z.take<|i+1)=wrs f 0 (Z.take i)++ (f c).map (((i:Nat):Int):: ·):=by
 have J:=(ZF.mp h).1;rw[take_snoc h,Re];simp[wrs,ZN,vR (Zh J)]
theorem Rc{f:Bd->List (kE)}:∀(k:Nat)(Z:List Bd),wrs f k Z=[]↔∀c∈Z,f c=[]
 |k,[]=>by simp[wrs]
 |k,x::Z=>by simp[wrs,Rc (k+1) Z]
theorem Rf:∀(n:Nat)(Z:kJ)(b:Bd),b.dep<n->(wr J hd n Z b=[]↔kdn J hd n Z b≠none)
 |0,_,_,h=>Zr h<|Zw _
 |n+1,Z,b,h=>by
  unfold wr
  by_cases c1:Jr J Z b
  .rw [Zp c1,GO c1];simp
  .rw [Zq c1]
   by_cases c2:none∈b.parts.map (kdn J hd n<|wth Z b)
   .rw [Zp c2,TF c2]
    refine⟨λe=>?_,λe=>Zr Y e⟩;obtain⟨c,G,L⟩:=ZW.mp c2;have M:=Bd.dep_mem G;exact Zr L<|(Rf n (wth Z b) c<|by omega).mp<|(Rc 0 _).mp e c G
   .rw [Zq c2]
    by_cases c3:kdn J hd (n+1) Z b=none
    .rw [Zp c3];simp[c3]
    .rw [Zq c3];simp[c3]
def OQ(h:¬Jr J Z b)(e:none∈b.parts.map (kdn J hd n<|wth Z b)):wr J hd (n+1) Z b=wrs (wr J hd n<|wth Z b) 0 b.parts:=by
 unfold wr;rw[Zq h,Zp e]
def Fd(h:Jr J Z b):[[]]=wr J hd (n+1) Z b:=by unfold wr;rw[Zp h]
def Q9(h:¬Jr J Z b)(e:none∉b.parts.map (kdn J hd n<|wth Z b))(k:kdn J hd (n+1) Z b=none):[[]]=wr J hd (n+1) Z b:=by unfold wr;rw[Zq h,Zq e,Zp k]
def Fc{G:List Bd}(h:∀c∈G,c.dep<n):wrs (wr L hd n J) k G=[]↔none∉G.map (kdn L hd n J):=by
 rw[Rc]
 constructor
 .intro z m
  obtain⟨c,Z,e⟩:=ZW.mp m;exact(Rf n J c<|h c Z).mp (z c Z) e
 .intro z c Z
  exact(Rf n J c<|h c Z).mpr λe=>z<|ZW.mpr ⟨c,Z,e⟩
def El{f:Bd->List (kE)}{Z:List Bd}(h:Z[i]?=some c)(e:wrs f 0 (Z.take i)=[])(J:f c=w::r):∃t,wrs f 0 Z=(((i:Nat):Int)::w)::t:=by
 exists r.map (((i:Nat):Int):: ·)++ wrs f (0+(Z.take<|i+1).length) (Z.drop<|i+1)
 conv=>lhs;rw[<-qx (i+1) Z]
 rw[Re,Fb h,e,J];simp
end L2
namespace L2
open PySem PySem.Spec PyProof.Rows
section
variable{X:Cx}{CX:CXT}{k:Nat}{E:XK}{ta ti:TE}{t:TA}
def SW(X:Cx)(CX:CXT)(k:Nat)(E:XK)(ta:TE)(t:TA):TE:=λU H Q=>ta U H λv L=>∃(f:Addr)(G:FuncData)(J:kC)(Z:Sp),v=.ref f/\Ye X.prog X.w X.K X.mg X.base CX k f G J Z/\W.keepIn X.K (.ref f)=true/\Binds X.K G J []/\M6 Z [] E t U L Q
def KN(A:PE X (.Name x p) ta)(B:Vr k X.A)(T:Uk CX X E)(P:PA X (e::J) t)(S:starEach (e::J) X.env=(false,eval e X.env)::starEach J X.env:=by rfl)(G:(backTo pos<|starEach J X.env).any (·.1)=false:=by rfl):
  PE X (.Call (.Name x p) (e::J) [] pos) (SW X CX k E ta t):=by
 intro Z s U H Q I h;refine jP<|thn (A Z s U H _ I h) λu s1 ⟨v,y,M,O,f,w,d,g,j,F,D,C,q⟩=>?_;subst j;obtain rfl:u=Value.ref f:=O;refine qH (h₀:=X.base) M.ok.mod.kin D (thn (P pos Z s1 U y _ M q) λm c ⟨z,r,L,N,R⟩=>⟨L.kIn,?_⟩) S G;exact Gw F B C .nil T L N R
def CH(a:Addr)(m:Key->Option Value)(ti:TE):TE:=λU H Q=>ti U H λv Z=>∃(q:Key)(u:Value)(y:V),v=kV q/\m q=some u/\RelV y u/\Q y Z
def PD(A:Gl X x)(D:X.mg x=some (.ref a))(S:X.base.MapOf (Y9 X.prog X.w) a m)(f:X.A.units+1<cLine)(F:PE X i ti)(B:QN i)(G:(x==("__debug__":Str))=false:=by decide):
  PE X (.Subscript (.Name x p) i pos) (CH a m ti):=by
 intro Z s U H Q I h;refine Ro PySem.F.slot_dict_getitem.lookup B<|GJ I A D ?_ G;refine thn (F Z s U H _ I h) λd L ⟨v,c,N,O,q,u,y,P,T,J,R⟩=>?_;subst P;have M:L.heap.MapOf (Y9 X.prog X.w) a m:=let⟨o,j,z,C,r⟩:=S;⟨o,j,z,N.bk _ _ C,r⟩
 have g:L.TypeIs (.ref a) "dict":=M.typeIs;exists g;exact wpAny_getItem_of (XS O) M T ⟨y,c,N.tok _,J,R⟩
end
end L2
namespace L2
open PySem
structure BA where
 t:Addr
 dx:Addr
 so:Addr
 td:Addr
 rd:Addr
 tn:Addr
def UI(A:BA):List (Str×V):=[("sorts",.ref A.so),("told",.ref A.td),("rows",.ref A.rd),("turns",.ref A.tn)]
def psD(ps:List (Str×Str)):Dat:=.tup<|ps.map λp=>.tup [.str p.1,.str p.2]
def Us(x:Dd):Dat:=.tup [psD x.1.2.1,.str x.1.2.2,x.2.dat]
structure BD(H:Hp)(C CK:Addr)(A:BA)(kv:List (Key×V))(ks:List (Str×Shp))(d:Str->Nat)(ds:List Dd):Prop where
 ins:H A.t=some (.ins C A.dx (UI A))
 so:KI H CK A.so ks d
 td:H A.td=some (.dK kv)
 ke:kv.map (·.1)=ds.map (λx=>(Sum.inr x.1.1:Key))
 va:HasL H (kv.map (·.2)) (ds.map Us)
 nd:(ds.map λx=>x.1.1).Nodup
def BI(H:Hp)(C CK t:Addr)(ks:kS)(d:kT)(ds:List Dd):Prop:=∃A Z,A.t=t/\BD H C CK A Z ks d ds
def BI.mono(b:BI H C M t J d G)(e:Same H L):BI L C M t J d G:=by
 obtain⟨A,Z,h,k⟩:=b;exact⟨A,Z,h,e _ _ k.ins,k.so.mono e,e _ _ k.td,k.ke,k.va.mono e,k.nd⟩
structure BCl(K:W.Frag)(C:Addr):Prop where
 cl:Cls K C
 so:VG K C "sorts"
 td:VG K C "told"
 rd:VG K C "rows"
 tn:VG K C "turns"
def Le(A:BA):(UI A).lookup ("sorts":Str)=some (V.ref A.so):=rfl
def FG(A:BA):(UI A).lookup ("told":Str)=some (V.ref A.td):=rfl
def Aj(A:BA):(UI A).lookup ("told_of":Str)=none:=rfl
def BD.at(b:BD H C I A J E d O)(h:x∈O):∃v,Vd H A.td (.str x.1.1) (some v)/\Has H v (Us x):=by
 obtain⟨i,M⟩:=vg.mp h;have Z:(J.map (·.1))[i]?=(O.map λx=>(Sum.inr x.1.1:Key))[i]?:=by rw[b.ke]
 rw[ZH,ZH,M]at Z
 cases ek:J[i]? with
 |none=>rw[ek]at Z;cases Z
 |some q=>
  rw[ek]at Z;have B:q.1=Sum.inr x.1.1:=ZT Z
  have T:(J.map (·.1)).Nodup:=by
   rw[b.ke];have G:=b.nd;unfold List.Nodup at G |-;rw[qV]at G |-;exact G.imp λL z=>L<|Sum.inr.inj z
  obtain⟨F,R,D⟩:=b.va.get (show(J.map (·.2))[i]?=some q.2 by rw[ZH,ek];rfl);rw[ZH,M]at R;cases R;refine⟨q.2,?_,D⟩;have N:=Dm T<|ZJ ek;rw[B]at N;rw[<-N];exact Vd.k (k:=Sum.inr x.1.1) b.td
def Xy(h:Has H v (Us x)):∃a u w,v=.ref a/\H a=some (.tup [u,.str x.1.2.2,w])/\Has H u (psD x.1.2.1)/\Has H w x.2.dat:=by
 unfold Us at h;obtain⟨t,D,rfl,N,O⟩:=Yv h;obtain⟨M,I,rfl,B,G⟩:=Yc O;obtain⟨E,A,rfl,T,J⟩:=Yc G;obtain⟨L,F,rfl,R,Z⟩:=Yc J;obtain rfl:=VA Z;obtain rfl:=has_str T;exact⟨t,M,L,Y,N,B,R⟩
end L2
namespace K4
open PySem L2
section
variable{f g C CK:Addr}
def JU(C CK:Addr):Sp:=λG H Q _=>∃(t:Addr)(J:kS)(d:kT)(L:List Dd),G=[.ref t]/\BI H C CK t J d L/\∀Z,KI H CK Z J d->Q (.ref Z) H
def IY:Yh ["self"] ["self"] (Yd MQ):=Y2
def E9(T:BCl K C)(F:Fun K "kinds" "Book.kinds" MQ f J):Ye P w K M base CX0 (n+1) f J ["self"] (JU C CK):=by
 refine F.oq IY λG A Z s H L Q E R h=>?_;obtain⟨t,O,d,B,rfl,⟨D,N,rfl,b⟩,q⟩:=h;exists _,YZ<|Yi<|Ym (pv 0) rfl;exact⟨C,_,_,_,b.ins,T.cl,T.so,Le _,q _ b.so⟩
def Uu(C CK:Addr):Sp:=λG H Q _=>∃(t:Addr)(L:kS)(d:kT)(J:List Dd),G=[.ref t]/\BI H C CK t L d J/\∀l Z,Same H Z->H l=none->Z l=some (.lst<|J.map λx=>V.str x.1.1)->Q (.ref l) Z
def IX:Yh ["self"] ["self"] (Yd MP):=Y2
def E8(B:Blt L)(T:BCl K C)(F:Fun K "names" "Book.names" MP f M):Ye P w K L base CX0 (n+1) f M ["self"] (Uu C CK):=by
 refine F.oq IX λN A Z s H O Q E D h=>?_;obtain⟨t,R,d,I,rfl,⟨S,J,rfl,b⟩,q⟩:=h;exists _,YZ<|Yi<|VZ (U1 rfl) rfl B.list Jg (pa1<|Ym (pv 0) rfl);refine⟨C,_,_,_,b.ins,T.cl,T.td,FG _,_,_,Y,b.td,λl G=>?_⟩;refine q l _ (Yq G _) G ?_;rw[Yf];have e:(J.map λq=>kV q.1)=(J.map (·.1)).map kV:=by rw[ve];rfl
 rw[e,b.ke,ve]
 rfl
def Ge(C CK:Addr):Sp:=λJ H Q _=>∃(t:Addr)(G:kS)(d:kT)(Z:List Dd)(x:Dd),J=[.ref t,.str x.1.1]/\BI H C CK t G d Z/\x∈Z/\∀v,Has H v (Us x)->Q v H
def Ow:Yh ["self","F"] ["self","F"] (Yd BS):=Y2
def PR(B:Blt L)(T:BCl K C)(F:Fun K "told_of" "Book.told_of" BS f R):Ye P w K L base CX0 (n+1) f R ["self","F"] (Ge C CK):=by
 refine F.oq Ow λD A Z s H I Q E N h=>?_;obtain⟨t,U,d,X,x,rfl,⟨j,S,rfl,b⟩,M,q⟩:=h;have J:=JA N;obtain⟨v,G,O⟩:=b.at M;refine⟨_,YY (Y5 (PW.pt<|Um (JN<|Vv<|WW rfl B.isi rfl B.str Wr (pv 1))<|J4<|Jp<|WY J (pv 1)<|Ym (pv 0) rfl) (YZ V4) Yp)
  (YZ<|Yi<|Vl J (Ym (pv 0) rfl) (pv 1) λ_ _=>rfl),?_⟩
 show let a:=_;let b:=_;Yk (VE _ b _) a _ _ _
 intros
 refine⟨_,_,_,_,Y,.str _,G9 K "str",_,Y,Y1 (by simp) ?_⟩;refine⟨C,_,_,_,b.ins,T.cl,T.td,FG _,_,G,_,Y,Y1 (by simp) ?_⟩;exact⟨C,_,_,_,b.ins,T.cl,T.td,FG _,v,G,q v O⟩
end
end K4
namespace L2
open PySem
def Wa(o:Option Str):V:=(o.map V.str).getD .non
def zM{α:Type}{Z:List α}(h:Z.length=1):∃a,Z=[a]:=match Z,h with|[a],_=>⟨a,rfl⟩
def zL{α:Type}{Z:List α}(h:Z.length=2):∃a b,Z=[a,b]:=match Z,h with|[a,b],_=>⟨a,b,rfl⟩
def Bd.word:Bd->Str
 |.tag _=>"tag"
 |.name _=>"name"
 |.pair _ _=>"pair"
 |.one _=>"one"
 |.other _=>"other"
 |.choose _ _ _=>"choose"
 |.ask _ _=>"ask"
 |.letb _ _ _ _=>"let"
def LX{b:Bd}(h:Has H v b.dat):∃a Z,v=.ref a/\H a=some (.tup (.str b.word::Z)):=by
 obtain⟨J,e⟩:∃J,b.dat=.tup (.str b.word::J):=by cases b <;> exact⟨_,by unfold Bd.dat;rfl⟩
 rw[e]at h;obtain⟨t,Z,rfl,L,M⟩:=Yv h;obtain⟨O,G,rfl,N,_⟩:=Yc M;obtain rfl:=has_str N;exact⟨t,G,Y,L⟩
def ES(h:Has H v (Bd.letb x k e b).dat):∃a T R,v=.ref a/\H a=some (.tup [.str "let",.str x,.str k,T,R]):=by
 unfold Bd.dat at h;obtain⟨t,I,rfl,B,D⟩:=Yv h;obtain⟨C,y,rfl,A,M⟩:=Yc D;obtain⟨U,j,rfl,F,L⟩:=Yc M;obtain⟨S,Q,rfl,E,G⟩:=Yc L;obtain⟨O,P,rfl,q,J⟩:=Yc G;obtain⟨N,X,rfl,z,Z⟩:=Yc J;obtain rfl:=VA Z;obtain rfl:=has_str A;obtain rfl:=has_str F;obtain rfl:=has_str E;exact⟨t,O,N,Y,B⟩
end L2
namespace K4
open PySem L2
section
variable{f g C CK:Addr}
def Gf(C CK:Addr):Sp:=λJ H Q _=>∃(t:Addr)(G:kS)(d:kT)(Z:List Dd)(x:Dd),J=[.ref t,.str x.1.1]/\BI H C CK t G d Z/\x∈Z/\∀v,Has H v (psD x.1.2.1)->Q v H
def Rv(C CK:Addr):Sp:=λJ H Q _=>∃(t:Addr)(G:kS)(d:kT)(Z:List Dd)(x:Dd),J=[.ref t,.str x.1.1]/\BI H C CK t G d Z/\x∈Z/\Q (.str x.1.2.2) H
def Sn:Yh ["self","F"] ["self","F"] (Yd BV):=Y2
def Oj:Yh ["self","F"] ["self","F"] (Yd BW):=Y2
def PX(T:BCl K C)(F:Fun K "parameters" "Book.parameters" BV f I)(m:VI K C "told_of" g)(G:Ye P w K J base CX0 n g D ["self","F"] (Ge C CK))(X:Binds K D ["self","F"] []):Ye P w K J base CX0 (n+1) f I ["self","F"] (Gf C CK):=by
 refine F.oq Sn λU A Z s H k Q E R h=>?_;obtain⟨t,L,d,S,x,rfl,b,M,q⟩:=h;obtain⟨y,p,rfl,j⟩:=id b;exists _,YZ<|Yi<|Yr Yt (Y4 (pv 0) T.cl m G R X .nil Y3<|pa1<|pv 1) Ya;refine⟨_,_,j.ins,Aj _,y.t,L,d,S,x,Y,b,M,λv N=>?_⟩;obtain⟨a,u,z,rfl,B,O,_⟩:=Xy N;exact⟨_,_,Z2 B,Y,q u O⟩
def Kl(T:BCl K C)(F:Fun K "kind_of" "Book.kind_of" BW f D)(m:VI K C "told_of" g)(G:Ye P w K J base CX0 n g B ["self","F"] (Ge C CK))(U:Binds K B ["self","F"] []):Ye P w K J base CX0 (n+1) f D ["self","F"] (Rv C CK):=by
 refine F.oq Oj λS A Z s H z Q E O h=>?_;obtain⟨t,L,d,I,x,rfl,b,M,q⟩:=h;obtain⟨j,k,rfl,X⟩:=id b;exists _,YZ<|Yi<|Yr Yt (Y4 (pv 0) T.cl m G O U .nil Y3<|pa1<|pv 1) Ya;refine⟨_,_,X.ins,Aj _,j.t,L,d,I,x,Y,b,M,λv N=>?_⟩;obtain⟨a,u,y,rfl,R,p,_⟩:=Xy N;exact⟨_,_,Z2 R,Y,q⟩
def Xk(C CK:Addr)(p:Bd->Prop):Sp:=λO H Q _=>∃(t a M:Addr)(v:V)(Z:kS)(c d:kT)(L:List Dd)(G:kJ)(b:Bd)(J:kC),
 O=[.ref t,.ref a,v,.ref M]/\BI H C CK t Z d L/\KK 30 c d Z/\NK (Z.map (·.1)) G/\(∀x∈L,x.1.2.1.length<=3)/\Rd H a (.dK G)/\Has H v b.dat/\b.ok/\p b/\H M=some (.lst<|J.map V.str)/\J.length=b.parts.length/\(∀z∈J,z∈Z.map (·.1))/\∀N,Same H N->Q (Wa<|own Z (V1<|L.map (·.1)) G b J) N
abbrev rps:kC:=["book","around","body","found"]
def Su:Yh ["book","around","body","found"] ["book","around","body","found"] (Yd Ic):=Y2
def On:Yh ["book","around","body","found"] ["book","around","body","found"] (Yd BQ):=Y2
def Om:Yh ["book","around","body","found"] ["book","around","body","found"] (Yd BP):=Y2
def Sw:Yh ["book","around","body","found"] ["book","around","body","found"] (Yd Ie):=Y2
def PY(r:BCl K C)(TK:KCl K CK)(F:Fun K "kind_of_tag_body" "kind_of_tag_body" Ic f X)(B:VI K C "kinds" U)(e:Ye P w K J base CX0 n U z ["self"] (JU C CK))(p:Binds K z ["self"] [])(T:VI K CK "kind_of_tag" S)(l:Ye P w K J base CX0 n S y ["self","tag"] (Gh CK))(k:Binds K y ["self","tag"] []):Ye P w K J base CX0 (n+1) f X rps (Xk C CK λb=>∃t,b=.tag t):=by
 refine F.oq Su λm A Z s H vs Q E N h=>?_;obtain⟨t,a,fl,v,G,c,d,j,kv,b,x,rfl,O,kk,nk,pl,ha,M,ok,⟨R,rfl⟩,hf,lz,hz,q⟩:=h;obtain⟨i,kt,rfl,u⟩:=id O;exists _,YZ<|Yi<|Y4 (Vj (pv 0) r.cl B e N p .nil Y3) TK.cl T l N k .nil Y3<|pa1<|Yr Yt (pv 2) Ya;unfold Bd.dat at M;obtain⟨bt,rfl,I⟩:=Xx M;refine⟨_,_,u.ins,Y,i.t,G,d,j,Y,O,λso L=>?_⟩;obtain⟨o,SK,rfl,D,kr⟩:=id L;exact⟨_,_,D.ins,Y,_,_,Z2 I,Y,o.t,G,d,R,Y,L,q H<|Z8 _⟩
def Kk(F:Fun K "kind_of_name_body" "kind_of_name_body" BQ f B):Ye P w K j base CX0 (n+1) f B rps (Xk C CK λb=>∃x,b=.name x):=by
 refine F.oq On λD A G s H S Q E R h=>?_;obtain⟨t,a,r,v,z,c,d,l,J,b,I,rfl,i,m,N,U,M,L,X,⟨x,rfl⟩,u,y,p,q⟩:=h;have O:=JA R;exists _,YZ<|Yi<|G5 O (pv 1) (Yr Yt (pv 2) Ya) ⟨rfl,rfl,rfl,rfl⟩;unfold Bd.dat at L;obtain⟨o,rfl,T⟩:=Xx L;exists .inl ⟨J,M⟩,_,_,Z2 T,Y,_,.inl ⟨J,Sum.inr x,M,Y,Y⟩;have Z:Q (Wa<|(VC J<|Sum.inr x).bind OZ) H:=q H<|Z8 _
 cases e:VC J (Sum.inr x)with
 |none=>rw[e]at Z;exact Z
 |some v=>
  obtain⟨k,rfl,_⟩:=N.at e;rw[e]at Z;exact Z
def Kj(l:BCl K C)(TK:KCl K CK)(F:Fun K "kind_of_pair_body" "kind_of_pair_body" BP f j)(D:VI K C "kinds" X)(i:Ye P w K J base CX0 n X m ["self"] (JU C CK))(u:Binds K m ["self"] [])(B:VI K CK "kind_of_pair" U)(o:Ye P w K J base CX0 n U z ["self","one","other"] (WL CK))(p:Binds K z ["self","one","other"] []):Ye P w K J base CX0 (n+1) f j rps (Xk C CK λb=>∃e g,b=.pair e g):=by
 refine F.oq Om λk A Z s H vs Q E M h=>?_;obtain⟨t,a,fl,v,G,c,d,y,kv,b,zs,rfl,O,kk,nk,pl,ha,hv,ok,⟨e,g,rfl⟩,N,I,hz,q⟩:=h;obtain⟨T,R,rfl⟩:=zL I;obtain⟨A',kt,rfl,r⟩:=id O;exists _,YZ<|Yi<|Y4 (Vj (pv 0) l.cl D i M u .nil Y3) TK.cl B o M p .nil Y3<|pa2 (Yr VH (pv 3) Ya)<|Yr VH (pv 3) Ya;refine⟨_,_,r.ins,Y,A'.t,G,d,y,Y,O,λso L=>?_⟩;obtain⟨x,SK,rfl,S,kr⟩:=id L;exact⟨_,_,S.ins,Y,_,_,Z3 N,Y,_,_,Z3 N,Y,x.t,G,d,T,R,Y,L,q⟩
def Pa(F:Fun K "kind_of_let_body" "kind_of_let_body" Ie f T):Ye P w K z base CX0 (n+1) f T rps (Xk C CK λb=>∃x k e g,b=.letb x k e g):=by
 refine F.oq Sw λB A J s H I Q E l h=>?_;obtain⟨t,a,i,v,p,c,d,ds,m,b,D,rfl,bi,u,y,X,o,O,j,⟨x,k,e,g,rfl⟩,L,N,r,q⟩:=h;obtain⟨G,M,rfl⟩:=zL N;refine⟨_,YY (Y5 (Ys UR (Yr VH (pv 3) Ya) (Yr Yt (pv 2) Ya)<|Y0 _) (YZ<|Yi Vi) Yp)
  (YZ<|Yi<|Yr VH (pv 3) Ya),?_⟩
 obtain⟨bt,U,S,rfl,R⟩:=ES O;have Z:Q (Wa<|if G=k then some M else none) H:=q H<|Z8 _;exists _,_,Z3 L,Y,_,_,Z2 R,Y,Y,_,Y
 by_cases c1:G=k
 .rw [Zp c1]at Z
  exact Y1 (by simp[c1]) ⟨_,_,Z3 L,Y,Z⟩
 .rw [Zq c1]at Z
  exact VF (by simpa using c1) Z
def W7(C CK:Addr):Sp:=λJ H Q _=>∃(t:Addr)(Z:kS)(d:kT)(L:List Dd)(z:Str)(s:Shp)(i:Nat),J=[.ref t,.str z,.int i]/\BI H C CK t Z d L/\Ve Z z=some s/\(∀G,s=.tags G->Q .non H)/\∀a b,s=.pair a b->(i=1/\Q (.str a) H\/i=2/\Q (.str b) H)
def Dz:Yh ["book","kind","at","shape"] ["book","kind","at"] (Yd BO):=Y2
def Ki(TB:BCl K C)(TK:KCl K CK)(F:Fun K "kind_of_part" "kind_of_part" BO f p)(X:VI K C "kinds" k)(G1:Ye P w K G base CX0 n k r ["self"] (JU C CK))(x:Binds K r ["self"] [])(U:VI K CK "shape_of" m)(G2:Ye P w K G base CX0 n m u ["self","kind"] (U7 CK))(o:Binds K u ["self","kind"] []):Ye P w K G base CX0 (n+1) f p ["book","kind","at"] (W7 C CK):=by
 refine F.oq Dz λe A J s H vs Q E O h=>?_;obtain⟨t,L,d,c,z,B,i,rfl,R,y,D,I⟩:=h;obtain⟨A',kt,rfl,b'⟩:=id R;refine⟨_,YY (Yx 3 Dz.nd<|Y4 (Vj (pv 0) TB.cl X G1 O x .nil Y3) TK.cl U G2 O o .nil Y3<|pa1<|pv 1)
  (YY (Y5 (Ys UR (Yr Yt (pv 3) Ya) Yw<|Y0 _) (YZ<|Yi Vi) Yp)
  (YZ<|Yi<|Yr Yt (pv 3) (pv 2) λ_ _=>rfl)),?_⟩
 refine⟨_,_,b'.ins,Y,A'.t,L,d,c,Y,R,λso M=>?_⟩;obtain⟨AK,SK,rfl,j,kr⟩:=id M;refine⟨_,_,j.ins,Y,AK.t,L,d,z,_,Y,M,y,λv N=>?_⟩
 cases B with
 |tags T=>
  obtain⟨S,l,rfl,Z,hl⟩:=Xz N;exact⟨_,_,Z2 Z,Y,Y,_,Y,VF (by decide +kernel)<|D T rfl⟩
 |pair a b=>
  obtain⟨S,rfl,Z⟩:=Ud N;refine⟨_,_,Z2 Z,Y,Y,_,Y,Y1 (by decide +kernel) ?_⟩;rcases I a b rfl with⟨rfl,q⟩|⟨rfl,q⟩
  .exact ⟨_,_,Z2 Z,rfl,q⟩
  .exact ⟨_,_,Z2 Z,rfl,q⟩
def Sv:Yh ["book","around","body","found"] ["book","around","body","found"] (Yd Id):=Y2
def IU:Yh ["book","around","body","found"] ["book","around","body","found"] (Yd ML):=Y2
def PZ(F:Fun K "kind_of_one_body" "kind_of_one_body" Id f D)(X:Df P w K N base n "kind_of_part" ["book","kind","at"] (W7 C CK)):Ye P w K N base CX0 (n+1) f D rps (Xk C CK λb=>∃e,b=.one e):=by
 refine F.oq Sv λS A J s H y Q E T h=>?_;obtain⟨t,a,x,v,G,c,d,I,r,b,j,rfl,U,l,u,k,i,o,p,⟨e,rfl⟩,B,O,R,q⟩:=h;obtain⟨z,rfl⟩:=zM O;exists _,YZ<|Yi<|VP X T<|pa3 (pv 0) (Yr VH (pv 3) Ya) Ya;obtain⟨M,L⟩:=JM (R z<|by simp);have Z:Q (Wa<|match Ve G z with|some (.pair a _)=>some a|_=>none) H:=q H<|Z8 _;rw[L]at Z;exact⟨_,_,Z3 B,Y,t,G,d,I,z,M,1,Y,U,L,λm e=>by rw[e]at Z;exact Z,λa b e=>.inl ⟨Y,by rw[e]at Z;exact Z⟩⟩
def E5(F:Fun K "kind_of_other_body" "kind_of_other_body" ML f D)(X:Df P w K N base n "kind_of_part" ["book","kind","at"] (W7 C CK)):Ye P w K N base CX0 (n+1) f D rps (Xk C CK λb=>∃e,b=.other e):=by
 refine F.oq IU λS A J s H y Q E T h=>?_;obtain⟨t,a,x,v,G,c,d,I,r,b,j,rfl,U,l,u,k,i,o,p,⟨e,rfl⟩,B,O,R,q⟩:=h;obtain⟨z,rfl⟩:=zM O;exists _,YZ<|Yi<|VP X T<|pa3 (pv 0) (Yr VH (pv 3) Ya) Ya;obtain⟨M,L⟩:=JM (R z<|by simp);have Z:Q (Wa<|match Ve G z with|some (.pair _ b)=>some b|_=>none) H:=q H<|Z8 _;rw[L]at Z;exact⟨_,_,Z3 B,Y,t,G,d,I,z,M,2,Y,U,L,λm e=>by rw[e]at Z;exact Z,λa b e=>.inr ⟨Y,by rw[e]at Z;exact Z⟩⟩
end
end K4
namespace L2
open PySem
def Px(h:Has H v (Bd.ask fn B).dat):∃a u,v=.ref a/\H a=some (.tup [.str "ask",.str fn,u])/\Has H u (.tup<|Bd.dats B):=by
 unfold Bd.dat at h;obtain⟨t,D,rfl,M,N⟩:=Yv h;obtain⟨F,S,rfl,T,G⟩:=Yc N;obtain⟨E,I,rfl,R,J⟩:=Yc G;obtain⟨L,A,rfl,O,Z⟩:=Yc J;obtain rfl:=VA Z;obtain rfl:=has_str T;obtain rfl:=has_str R;exact⟨t,L,Y,M,O⟩
def EQ(h:V1 J fn=some (Z,y)):(fn,Z,y)∈J:=by
 unfold V1 at h
 cases e:J.find? (λh=>decide<|h.1=fn)with
 |none=>rw[e]at h;cases h
 |some g=>
  rw[e]at h;have m:=vm e;have q:g.1=fn:=by simpa using List.find?_some e
  have G:g.2=(Z,y):=ZT h;obtain⟨M,L⟩:=g;dsimp only at q G;subst q G;exact m
theorem G4:∀Z J:kC,Dat.pqs (Z.map Dat.str) (J.map Dat.str)=decide (Z=J)
 |[],[]=>by unfold List.map Dat.pqs;rfl
 |[],w::J=>by unfold List.map Dat.pqs;rfl
 |z::Z,[]=>by unfold List.map Dat.pqs;rfl
 |z::Z,w::J=>by
  rw[ZV,ZV];unfold Dat.pqs;rw[G4 Z J,jr];simp[Dat.pq]
def LO{ds:List Dd}(Z:(ds.map λx=>x.1.1).Nodup)(h:x∈ds):V1 (ds.map (·.1)) x.1.1=some x.1.2:=
 LP (h:=x.1) (by rw[ve];exact Z) (ZW.mpr ⟨x,h,rfl⟩)
def Af{Z:List Dd}(h:fn∉Z.map λx=>x.1.1):V1 (Z.map (·.1)) fn=none:=by
 cases e:V1 (Z.map (·.1)) fn with
 |none=>rfl
 |some p=>
  obtain⟨x,J,G⟩:=ZW.mp<|EQ e;exact Zr (ZW.mpr ⟨x,J,by rw[G]⟩) h
end L2
namespace K4
open PySem L2
section
def Sx:Yh ["book","around","body","found"] ["book","around","body","found"] (Yd Ig):=Y2
def K3:List.Nodup [("name":Str),"kind"]:=by decide +kernel
def Pb(TB:BCl K C)(F:Fun K "kind_of_ask_body" "kind_of_ask_body" Ig f fd)(m1:VI K C "names" m)(G1:Ye P w K i base CX0 (n+2) m d1 ["self"] (Uu C CK))(b1:Binds K d1 ["self"] [])(m2:VI K C "parameters" g2)(G2:Ye P w K i base CX0 (n+2) g2 d2 ["self","F"] (Gf C CK))(b2:Binds K d2 ["self","F"] [])(m3:VI K C "kind_of" g3)(G3:Ye P w K i base CX0 (n+2) g3 d3 ["self","F"] (Rv C CK))(b3:Binds K d3 ["self","F"] []):
  Ye P w K i base CX0 (n+2+1) f fd rps (Xk C CK λb=>∃g as,b=.ask g as):=by
 refine F.oq Sx λR4 A o s H O Q E X h=>?_;obtain⟨t,a,fl,v,ks,c,d,I,kv,b,e,rfl,p,kk,nk,pl,ha,hv,ok,⟨g,as,rfl⟩,hf,lz,hz,q⟩:=h;have M2:=X.mono (show 2<=n+2 by omega);refine⟨_,YY (Y5 (Ys JX (Yr Yt (pv 2) Ya) (Vj (pv 0) TB.cl m1 G1 X b1 .nil Y3) Y) (YZ<|Yi Vi) Yp)
  (YY (Y5 (Ys (Bn M2) (V6 ["name","kind"] [] (J5<|Y4 (pv 0) TB.cl m2 G2 X b2 .nil Y3<|pa1<|Yr Yt (pv 2) Ya) Mm (λcl C fp s H=>Vg (n:=2) rfl (Yn (Yl 0 K3 rfl (Or.inl rfl) (Or.inr rfl))<|Yn (Yl 1 K3 rfl (Or.inl rfl) (Or.inr rfl)) VJ))
    (λcl C fp s H=>pv 1)) (pv 3)<|Y0 _) (YZ<|Yi Vi) Yp)
  (YZ<|Yi<|Y4 (pv 0) TB.cl m3 G3 X b3 .nil Y3<|pa1<|Yr Yt (pv 2) Ya)),?_⟩
 show let a:=_;let b:=_;let c:=Yk (VE _ b _) a;let d:=_;Yk (VE _ d _) c _ _ _
 intros
 obtain⟨bt,ub,rfl,hb,_⟩:=Px hv;obtain⟨A',kt,rfl,r⟩:=id p;have T:∀N,Same H N->Q (Wa<|match V1 (I.map (·.1)) g with|some (L,k)=>if L.map (·.2)=e then some k else none|none=>none) N:=q;refine⟨_,_,Z2 hb,Y,_,_,r.ins,Y,A'.t,ks,d,I,Y,p,λl H1 s1 hl m=>?_⟩;have el:(I.map λx=>V.str x.1.1)=(I.map λx=>x.1.1).map V.str:=by rw[ve];rfl
 rw[el]at m;exists l,_,Y,.inl<|Z3 m,rfl,Jx _,_,rfl;rw[UU]
 by_cases mf:g∈I.map λx=>x.1.1
 case neg=>
  rw[Af mf]at T;exact VF (by simp only[if_true,jO,decide_eq_false_iff_not];exact mf)<|T _ s1
 refine Y1 (by simp only[if_true,jO,decide_eq_false_iff_not,Classical.not_not];exact mf) ?_;obtain⟨x,U,D⟩:=ZW.mp mf;have Z:=LO r.nd U;rw[D]at Z;rw[Z]at T;obtain⟨⟨_,L,y⟩,bx⟩:=x;dsimp only at D T;subst D;have R3:L.length<=3:=pl _ U;have R1:=p.mono s1;refine⟨_,_,s1 _ _ r.ins,Y,_,_,Z2<|s1 _ _ hb,rfl,A'.t,ks,d,I,_,rfl,R1,U,λv B=>?_⟩;unfold psD at B;dsimp only at B;obtain⟨pa,G,rfl,M,S⟩:=Yv B;have lp:=S.length;rw[ZA]at lp;exists ⟨_,Z2 M⟩;refine Va G.length (Yu<|by omega) (λj O N=>Same H1 N/\O.length=j/\O=((L.map (·.2)).take j).map V.str) ⟨Z8 _,rfl,rfl⟩ (λj O N z=>z.2.1) ?_ ?_ ?_ ?_
 .intro j O N hj z
  exact⟨G,G[j],Z2<|z.1 _ _ M,by simp[hj]⟩
 .intro O N z
  exact⟨G,Z2<|z.1 _ _ M,ZG _⟩
 .intro j O N u H'' R hj z yl hR
  obtain⟨rfl,yy⟩:=yl;obtain⟨dd,Z,O1⟩:=S.get<|yy G<|Z2<|z.1 _ _ M;rw[ZH]at Z
  cases hp:L[j]? with
  |none=>rw[hp]at Z;cases Z
  |some pr=>
   rw[hp]at Z;cases Z;obtain⟨t2,rfl,J2⟩:=Xx O1;exists _,Z2<|z.1 _ _ J2,rfl;refine hR _ _ ⟨z.1,by rw[ZL,z.2.1];rfl,?_⟩;rw[z.2.2,show(L.map (·.2)).take (j+1)=(L.map (·.2)).take j++[pr.2]from take_snoc (by rw[ZH,hp];rfl),ZK]
   rfl
 .intro O N l2 z hl2
  obtain⟨z1,_,rfl⟩:=z;rw[Zg (by rw[ZA];omega)];refine up_in hl2 _ λH2 s2 g2=>?_;have J:=(s1.trans z1).trans s2;exists .lst<|(L.map (·.2)).map Dat.str,.lst<|e.map Dat.str,zK g2,zK<|J _ _ hf,M7 _,_,rfl;unfold Dat.pq;rw[G4]
  by_cases cz:L.map (·.2)=e
  .rw [Zp cz]at T
   refine Y1 (by simp[cz]) ?_;exact⟨_,_,J _ _ r.ins,Y,_,_,Z2<|J _ _ hb,rfl,A'.t,ks,d,I,_,rfl,p.mono J,U,T H2 J⟩
  .rw [Zq cz]at T
   exact VF (by simp[cz])<|T H2 J
end
end K4
namespace L2
open PySem PySem.Spec PyProof.Rows
def RP(S:X.calm=true):Js X (.builtin "any") (λL H Q=>∃(p:Addr)(Z:List Bool),L=[.ref p]/\SqL X.K H p (Z.map V.bl)/\Q (.bl<|Z.any id) H):=by
 intro N s U H L P Q I r h;obtain⟨p,Z,rfl,D,q⟩:=h;obtain⟨u,rfl,R⟩:=vals1 r;cases R;obtain⟨J,M,G,j⟩:=I.list D;have E:p<s.heap.objs.size:=let⟨o,_,e,_⟩:=G;ZP e
 have B:=M.length;rw[ZA]at B
 have T:((List.range J.toArray.size).any λi=>(Z[i]?).getD false)=Z.any id:=by
  rw[jr,jT,jT]
  constructor
  .rintro ⟨i,_,h⟩
   cases e:Z[i]? with
   |none=>rw[e]at h;cases h
   |some b=>rw[e]at h;exact⟨b,ZJ e,h⟩
  .rintro ⟨b,hb,h⟩
   obtain⟨i,O⟩:=vg.mp hb;exact⟨i,by have:=(ZF.mp O).1;simp;omega,by rw[O];exact h⟩
 refine call_any_walk<|qk G.isList ⟨s.heap.objs.size,_,_,J.toArray.size,_,_,λi=>(Z[i]?).getD false,rfl,Walks.list (A:=X.A.in1) (I.ok.hd S) _ p (Ze E) J.toArray,⟨⟨_,ZY _ rfl,rfl,rfl⟩,G.isList.push _⟩,?_,?_⟩
 .intro i v s' Q' E' hP hQ
  obtain⟨b,e,rfl⟩:=Ws M i v (by simpa using hP);dsimp only at hQ;rw[e]at hQ;exact vv hQ
 .intro h' tk hk
  rw[T];refine⟨.bl<|Z.any id,H,I.kept λb o e=>hk b o (λF=>?_)<|ZE _ e,rfl,q⟩;have C:b=s.heap.objs.size:=by simpa using F
  rw[C]at e;exact vx _<|ZP e
end L2
namespace L2
open PySem
def B6(h:Has H v (Bd.choose e N F).dat):∃a u l Z,v=.ref a/\H a=some (.tup [.str "choose",u,.ref l])/\H l=some (.tup Z)/\HasL H Z (Bd.brs F N):=by
 unfold Bd.dat at h;obtain⟨t,A,rfl,O,R⟩:=Yv h;obtain⟨S,X,rfl,E,L⟩:=Yc R;obtain⟨M,C,rfl,P,G⟩:=Yc L;obtain⟨I,U,rfl,D,J⟩:=Yc G;obtain rfl:=VA J;obtain rfl:=has_str E;obtain⟨l,Z,rfl,B,T⟩:=Yv D;exact⟨t,M,l,Z,Y,O,B,T⟩
theorem brs_len:∀{bs:List Bd}{ts:kC},bs.length=ts.length->(Bd.brs bs ts).length=ts.length
 |[],[],_=>by simp[Bd.brs]
 |[],_::_,h=>by simp at h
 |_::_,[],h=>by simp at h
 |b::bs,t::ts,h=>by
  unfold Bd.brs;have:=brs_len (bs:=bs) (ts:=ts) (by simpa using h);simp[this]
theorem brs_get:∀{bs:List Bd}{ts:kC}{i:Nat}{d:Dat},(Bd.brs bs ts)[i]?=some d->∃t b,ts[i]?=some t/\d=.tup [.str t,Bd.dat b]
 |[],ts,i,d,h=>by unfold Bd.brs at h;simp at h
 |b::bs,[],i,d,h=>by unfold Bd.brs at h;simp at h
 |b::bs,t::ts,0,d,h=>by
  unfold Bd.brs at h;exact⟨t,b,Y,(ZT h).symm⟩
 |b::bs,t::ts,i+1,d,h=>by
  unfold Bd.brs at h;exact brs_get (bs:=bs) (ts:=ts) h
def vM{z y:Str}{r:kC}:UW ((z::y::r).map V.str) (some 2) none=r.map V.str:=by
 have e:HT.sIx ((z::y::r).map V.str).length 0 (some 2)=2:=by
  unfold HT.sIx;simp
  try omega
 unfold UW;rw[e];simp[HT.sIx];exact Zg (by rw[ZA];exact ZG _)
def PN(h:Ve J z=some (.tags Z))(g:∀u∈r,u=y):own J hd G (.choose e Z L) (z::y::r)=some y:=Zp ⟨h,g⟩
def MY(h:¬(Ve J z=some (.tags Z)/\∀u∈r,u=y)):own J hd G (.choose e Z L) (z::y::r)=none:=Zq h
def OD(y:Str)(r:kC):((r.map λu=>!decide (V.str u=V.str y)).any id=false)↔∀u∈r,u=y:=by
 rw[qR]
 constructor
 .intro h u Z
  have:=h _<|ZW.mpr ⟨u,Z,rfl⟩;simpa using this
 .intro h b hb
  obtain⟨u,Z,rfl⟩:=ZW.mp hb;simp[h u Z]
end L2
namespace K4
open PySem L2
section
def RU:bootBuiltins "any"=some (.builtin "any"):=by decide +kernel
def WP:Yh ["book","around","body","found","shape","kind"] ["book","around","body","found"] (Yd Gu):=Y2
def K2:List.Nodup [("tag":Str),"branch"]:=by decide +kernel
def C9:List.Nodup [("other":Str),"kind"]:=by decide +kernel
def Bs(B:Blt U)(ma:U "any"=none)(TB:BCl K C)(TK:KCl K k)(F:Fun K "kind_of_choose_body" "kind_of_choose_body" Gu f fd)(m1:VI K C "kinds" g1)(G1:Ye P w K U base CX0 (n+2) g1 d1 ["self"] (JU C k))(b1:Binds K d1 ["self"] [])(m2:VI K k "shape_of" g2)(G2:Ye P w K U base CX0 (n+2) g2 d2 ["self","kind"] (U7 k))(b2:Binds K d2 ["self","kind"] []):Ye P w K U base CX0 (n+2+1) f fd rps (Xk C k λb=>∃e L g,b=.choose e L g/\1<=g.length):=by
 refine F.oq WP λR6 A J2 s H Z Q E hr h=>?_;obtain⟨t,a,fl,v,ks,c,d,ds,kv,b,zs,rfl,bi,kk,nk,pl,ha,hv,ok,⟨e,L,g,rfl,b0⟩,hf,lz,hz,q⟩:=h;have O1:=hr.mono (show 2<=n+2 by omega);refine⟨_,YY (Yx 4 WP.nd<|Y4 (Vj (pv 0) TB.cl m1 G1 hr b1 .nil Y3) TK.cl m2 G2 hr b2 .nil Y3<|pa1<|Yr VH (pv 3) Ya)
  (YY (Y5 (PW.pt<|Um (Ys UR (Yr Yt (pv 4) Ya) Yw<|Y0 _)<|J4<|Ys (Bn O1) (VZ Jj rfl B.tuple JC (pa1<|V6 ["tag","branch"] [] (J5<|Yr Yt (pv 2) Ya) Mm (λcl C fp s H=>Vg (n:=2) rfl (Yn (Yl 0 K2 rfl (Or.inl rfl) (Or.inr rfl))<|Yn (Yl 1 K2 rfl (Or.inl rfl) (Or.inr rfl)) VJ)) λcl C fp s H=>pv 0)) (Yr Yt (pv 4) Ya)<|Y0 _) (YZ<|Yi Vi) Yp)
  (YY (Yx 5 WP.nd (hx:=Or.inr rfl)<|Yr VH (pv 3) Ya)
  (YY (Y5 (Vv<|VB (RP rfl) rfl ma RU (pa1<|V6 ["other"] [5] (Ju<|Vy Xm (pv 3) (JE Ya) JV) (Vm (i:=0)<|by decide) (λcl C fp s H=>Yl 0 C9 rfl (Or.inl rfl) (Or.inr rfl)) λcl C fp s H=>JF UR (pv 0) (pv 1) rfl)) (YZ<|Yi Vi) Yp)
  (YZ<|Yi<|pv 5)))),?_⟩
 dsimp only[VY,Cx.nox,Cx.wish];show let a:=_;let b:=_;let c:=Yk (VE _ b _) a;let d:=Yk _ c;let e:=_;let f:=Yk (VE _ e _) d;Yk _ f _ _ _
 intros
 obtain⟨bt,ub,bl,O,rfl,hb,N,D⟩:=B6 hv;obtain⟨A',kt,rfl,b'⟩:=id bi;unfold Bd.ok at ok;obtain⟨_,lb,l7,_⟩:=ok;have lx:=D.length;rw[brs_len lb]at lx;obtain⟨z,zr,rfl⟩:∃z zr,zs=z::zr:=match zs,lz with|z::zr,_=>⟨z,zr,rfl⟩
 have lr:zr.length=g.length:=Nat.succ.inj lz;obtain⟨y,r,rfl⟩:∃y r,zr=y::r:=match zr,lr with|[],e=>by rw[<-e]at b0;exact Zr b0 (by decide)|y::r,_=>⟨y,r,rfl⟩
 rw[Zf]at lr;obtain⟨sz,M⟩:=JM (hz z<|by simp);refine⟨_,_,b'.ins,Y,A'.t,ks,d,ds,Y,bi,λso ki=>?_⟩;obtain⟨AK,SK,rfl,kd,kr⟩:=id ki;refine⟨_,_,kd.ins,Y,_,_,Z3 hf,VD (j:=0) Y,AK.t,ks,d,z,sz,Y,ki,M,λv I=>?_⟩
 cases sz with
 |pair pa pb=>
  obtain⟨ps,rfl,X⟩:=Ud I;rw[MY (λz=>by rw[M]at z;cases z.1)]at q;exact⟨_,_,Z2 X,Y,Y,_,Y,VF (by decide +kernel)<|q H<|Z8 _⟩
 |tags x=>
 obtain⟨ps,l,rfl,X,hl⟩:=Xz I;refine⟨_,_,Z2 X,Y,Y,_,Y,Y1 (by decide +kernel) ?_⟩;exists _,_,Z2 hb,Y,⟨_,Z2 N⟩;refine Va O.length (Yu<|by omega) (λj Z G=>Same H G/\Z.length=j/\Z=(L.take j).map V.str) ⟨Z8 _,rfl,rfl⟩ (λj Z G z=>z.2.1) ?_ ?_ ?_ ?_
 .intro j Z G hj z
  exact⟨O,O[j],Z2<|z.1 _ _ N,by simp[hj]⟩
 .intro Z G z
  exact⟨O,Z2<|z.1 _ _ N,ZG _⟩
 .intro j Z G u H'' R hj z yl hR
  obtain⟨rfl,o⟩:=yl;obtain⟨dd,R4,R3⟩:=D.get<|o O<|Z2<|z.1 _ _ N;obtain⟨tg,bb,ht,rfl⟩:=brs_get R4;obtain⟨t2,R5,rfl,M2,_⟩:=LU R3;exists _,Z2<|z.1 _ _ M2,rfl;refine hR _ _ ⟨z.1,by rw[ZL,z.2.1];rfl,?_⟩;rw[z.2.2,take_snoc ht,ZK]
  rfl
 .intro Z H1 l2 z hl2
  obtain⟨p,_,rfl⟩:=z;rw[Zg (by omega)];refine up_in hl2 (.lst<|L.map V.str) λH2 s2 g2=>?_;refine⟨l2,_,Y,.inl ⟨Z3 g2,λt3 G3=>?_⟩⟩;refine up_in G3 (.tup<|L.map V.str) λH3 s3 g3=>?_;have J:=(p.trans s2).trans s3;exists _,_,Z2<|J _ _ X,rfl,.tup<|L.map Dat.str,.tup<|x.map Dat.str,Yo g3<|U6 L,Yo (J _ _ hl)<|U6 x,?_,_,rfl
  .have:=M7 L
   unfold Dat.dep at this |-;exact this
  unfold Dat.pq;rw[G4]
  by_cases ct:L=x
  case neg=>
   rw[MY (λz=>ct (by have p:=M.symm.trans z.1;injection p with z2;injection z2 with z3;exact z3.symm))]at q;exact VF (by simp[ct])<|q H3 J
  subst ct;refine Y1 (by simp) ?_;have S:=J _ _ hf;exists _,.str y,Z3 S,VD (j:=1) Y;refine⟨2,Y,fl,_,Y,Z3 S,λl4 R1=>?_⟩;rw[vM];refine up_in R1 (.lst<|r.map V.str) λH4 s4 m=>?_;exists ⟨_,Z3 m⟩;refine Va r.length (Yu<|by omega) (λj Z G=>Same H4 G/\Z=((r.take j).map λu=>!decide (V.str u=V.str y)).map V.bl/\Z.length=j) ⟨Z8 _,rfl,rfl⟩ (λj Z G z=>z.2.2) ?_ ?_ ?_ ?_
  .intro j Z G hj z
   exact⟨_,.str r[j],Z3<|z.1 _ _ m,by rw[ZH,ZD hj];rfl⟩
  .intro Z G z
   exact⟨_,Z3<|z.1 _ _ m,by rw[ZA];exact ZG _⟩
  .intro j Z G u H'' R hj z yl hR
   obtain⟨rfl,o⟩:=yl;have e5:=o _<|Z3<|z.1 _ _ m;rw[ZH,ZD hj]at e5;cases ZT e5;refine⟨Y,hR _ _ ⟨z.1,?_,by rw[ZL,z.2.2];rfl⟩⟩;rw[z.2.1,take_snoc<|ZD hj,ZK,ZK]
   rfl
  .intro Z H5 l6' z hl6
   obtain⟨z5,rfl,_⟩:=z;rw[ka];refine up_in hl6 (.lst<|(r.map λu=>!decide (V.str u=V.str y)).map V.bl) λH6 s6 g6=>?_;have T:=((J.trans s4).trans z5).trans s6;exists l6',_,Y,Z3 g6,_,Y
   by_cases cu:∀u∈r,u=y
   .rw [PN M cu]at q
    exact Y1 (by rw[(OD y r).mpr cu];simp)<|q H6 T
   .rw [MY (λz=>cu z.2)]at q
    refine VF ?_<|q H6 T
    cases ea:(r.map λu=>!decide (V.str u=V.str y)).any id with
    |true=>rfl
    |false=>exact Zr ((OD y r).mp ea) cu
end
end K4
namespace L2
open PySem
def TX{g:TG}{O:TS}{D:Ends}(Z:kM)(P:Z 0 U H)(S:∀i U H,i<=xs.length->Z i U H->Sq K tp H a xs)(A:∀i x U H r,xs[i]?=some x->Z i U H->H r=none->g (.ref r) U (upd H r<|.tup [.int ((i:Nat):Int),x]) fun σ2 M=>O {D with nx:=Z<|i+1,ct:=Z<|i+1,bk:=D.nx} σ2 M)(hd:∀U H,Z xs.length U H->D.nx U H):
  ∃W:Nat->Nat->St->Hp->Prop,(∃m,W 0 m U H)/\∀i m U H,W i m U H->
   ((Ite K tp a).stop i H/\D.nx U H)\/((Ite K tp a).go i H/\∃N:kO,(∀L J,N L J->∃R,R<m/\W (i+1) R L J)/\∀x J,(Ite K tp a).yld i H x J->g x U J fun σ2 M=>O {D with nx:=N,ct:=N,bk:=D.nx} σ2 M):=by
 refine⟨λi m U H=>m=xs.length-i/\i<=xs.length/\Z i U H,⟨xs.length,by simp,Zc _,P⟩,λi m U H z=>?_⟩;obtain⟨rfl,C,p⟩:=z;have q:=S i U H C p;rcases jB i xs.length with G|X
 .refine .inr ⟨⟨xs,xs[i],q,ZD G⟩,Z<|i+1,λL J B=>⟨xs.length-(i+1),by omega,rfl,G,B⟩,λx J y=>?_⟩
  obtain⟨r,T,rfl,I,rfl,F⟩:=y;exact A i T U H r (F xs q) p I
 .have e:i=xs.length:=by omega
  exact .inl ⟨⟨xs,q,by omega⟩,by subst e;exact hd U H p⟩
def GX{g:TG}{L:TS}{D:Ends}(Z:kM)(S:Z 0 U H)(I:∀i U H,i<=xs.length->Z i U H->Sq K tp H a xs)(F:∀(B:kO)(R:VK) i x U H r,xs[i]?=some x->Z i U H->H r=none->g (.ref r) U (upd H r<|.tup [.int ((i:Nat):Int),x]) fun σ2 G=>L {nx:=Z<|i+1,rt:=R,bk:=B,ct:=Z (i+1)} σ2 G)(hd:∀U H,Z xs.length U H->D.nx U H):
  ∃W:Nat->Nat->St->Hp->Prop,(∃m,W 0 m U H)/\∀i m U H,W i m U H->
   ((Ite K tp a).stop i H/\D.nx U H)\/((Ite K tp a).go i H/\∃N:kO,(∀O J,N O J->∃M,M<m/\W (i+1) M O J)/\∀x J,(Ite K tp a).yld i H x J->g x U J fun σ2 G=>L {D with nx:=N,ct:=N,bk:=D.nx} σ2 G):=
 TX Z S I (λi x U H r E p A=>F _ _ i x U H r E p A) hd
def Rd.same(r:Rd H a u)(e:Same H Z):Rd Z a u:=r.imp (λh=>e _ _ h) λ⟨o,h⟩=>⟨o,e _ _ h⟩
def OP(Z:kJ)(b:Bd):(wth Z b).length<=Z.length+1:=by
 cases b with
 |letb x z e g=>exact ND Z _ _
 |_=>exact qz _
def WZ{o:Option Str}(h:o=none):Wa o=.non:=by rw[h];rfl
end L2
namespace K4
open PySem L2
section
variable{f g C CK:Addr}
def Tx(C CK:Addr)(n:Nat):Sp:=λM H Q _=>∃(t a:Addr)(v:V)(Z:kS)(c d:kT)(G:List Dd)(J:kJ)(b:Bd),
 M=[.ref t,.ref a,v]/\BI H C CK t Z d G/\KK 30 c d Z/\HK (Z.map (·.1)) (V1<|G.map (·.1))/\NK (Z.map (·.1)) J/\(∀x∈G,x.1.2.1.length<=3)/\Rd H a (.dK J)/\J.length+b.dep<=500/\Has H v b.dat/\b.ok/\b.dep<n/\n<=500/\
 ∀r p L,Same H L->L r=some (.tup [Wa (kdn Z (V1<|G.map (·.1)) n J b),p])->(kdn Z (V1<|G.map (·.1)) n J b=none->∃l w r,p=.ref l/\L l=some (.tup<|List.map V.int w)/\w.length<=n/\wr Z (V1<|G.map (·.1)) n J b=w::r)->Q (.ref r) L
def Tp:Yh ["book","around","body","within","found","number","part","kind","place","rule"] ["book","around","body"] (Yd sKP):=Y2
def Dx(h:U[i]?=some (some v))(k:u D (U.set j<|some v) H):Yk (Ep (N0 i)<|Vo j) u D U H:=by
 show Fn U[i]? _;rw[h];exact k
def C0(B:Blt mg)(me:mg "enumerate"=none)(TB:BCl K C)(TC:KCl K CK)(F:Fun K "kind_or_place" "kind_or_place" sKP f fd)(G:Ye P w K mg base CX0 (L+3) f fd ["book","around","body"] (Tx C CK n))(bG:Binds K fd ["book","around","body"] [])(mG:mg "kind_or_place"=some (.ref f))(m1:VI K C "kinds" g1)(G1:Ye P w K mg base CX0 (L+3) g1 d1 ["self"] (JU C CK))(b1:Binds K d1 ["self"] [])(m2:VI K CK "names" g2)(G2:Ye P w K mg base CX0 (L+3) g2 d2 ["self"] (U8 CK))(b2:Binds K d2 ["self"] [])(DP:Df P w K mg base (L+3) "parts" ["body"] Xl)(mU:mg "RULES"=some (.ref aR))(hM:base.MapOf (Y9 P w) aR mR)(hR:∀b:Bd,(∀e ts bs,b=.choose e ts bs->1<=bs.length)->∃(g:Addr)(gd:FuncData)(p:Bd->Prop),mR (Sum.inr b.word)=some (.ref g)/\Ye P w K mg base CX0 (L+3) g gd rps (Xk C CK p)/\p b/\W.keepIn K (.ref g)=true/\Binds K gd rps []):
  Ye P w K mg base CX0 (L+3+1) f fd ["book","around","body"] (Tx C CK<|n+1):=by
 refine F.oq Tp λF2 A T3 s H vs Q E hr h=>?_;obtain⟨t,a,v,J,c,d,T,M,b,rfl,bi,kk,hk,nk,pl,ha,kl,hv,ok,dn,n5,q⟩:=h;have hu:=JA hr;have DG:Df P w K mg base (L+3) "kind_or_place" ["book","around","body"] (Tx C CK n):=⟨f,fd,mG,F.kp,bG,G⟩;refine⟨_,YY (Yx 3 Tp.nd<|pv 1)
  (YY (Y5 (Ys Vc (Yr Yt (pv 2) Ya) Yw<|Y0 _)
   (YY (Y5 (PW.pt<|Um (Jp<|Ux hu (Yr Yt (pv 2) Ya)<|pv 1)<|J4<|Ys JX (Yr Yt (pv 2) Ya) (Vj (Vj (pv 0) TB.cl m1 G1 hr b1 .nil Y3) TC.cl m2 G2 hr b2 .nil Y3) rfl) (YZ<|Yi<|Yj<|pa2 Vi<|Yj VR) Yp)
   (YY (Yx 3 Tp.nd<|VZ DU rfl B.dict Ui (pa1<|pv 1))
   (YZ<|Vf hu (pv 3) (Yr Yt (pv 2) Ya) (Yr Yt (pv 2) Ya) rfl))) Yp)
  (YY (Yx 4 Tp.nd<|JJ VR)
  (YY (V9 Zv rfl (XC rfl me (pa1<|VP DP hr<|pa1<|pv 2)) (Vg (n:=2) rfl (Yn (Yl 5 Tp.nd)<|Yn (Yl 6 Tp.nd) VJ))
   (YY (Jq (VP DG hr<|pa3 (pv 0) (pv 3)<|pv 6)<|Vg (n:=2) rfl (Yn (Yl 7 Tp.nd)<|Yn (Yl 8 Tp.nd) VJ))
   (YY (Y5 (Ys Wb (pv 7) Vi<|Y0 _) (YZ<|Yi<|Yj<|pa2 Vi<|Y7 MZ (Yj<|pa1<|pv 5)<|pv 8) Yp)
   (YZ<|VS<|Uw Zz Z0 Z1 JR (pv 4)<|pa1<|pv 7))))
  (YY (Yx 9 Tp.nd<|PD rfl mU hM hu (Yr Yt (pv 2) Ya) (λ_ _=>rfl))
  (YY (Yx 7 Tp.nd<|KN (pv 9) hr Y3<|pa4 (pv 0) (pv 1) (pv 2)<|pv 4)
  (YY (Y5 (Ys Wb (pv 7) Vi<|Y0 _) (YZ<|Yi<|Yj<|pa2 Vi<|Yj VR) Yp)
  (YZ<|Yi<|Yj<|pa2 (pv 7) Vi))))))),?_⟩
 dsimp only[VY,Cx.nox,Cx.wish];show let a:=_;let b:=_;let c:=Yk (VE _ b _) a;let d:=Yk _ c;let e:=Yk _ d;let f:=_;let g:=_;let h:=Yk (VE _ g _) f;let i:=Yk _ h;let j:=Yk (Uq _ _ i) e;let k:=Yk _ j;let l:=_;let m:=Yk _ l;let n:=_;let o:=Yk (VE _ n _) m;let p:=Yk (VE _ o _) k;Yk _ p _ _ _
 intros
 obtain⟨bt,ys,rfl,hb⟩:=LX hv;have F1:=Bd.few ok
 have R3:kdn J (V1<|T.map (·.1)) (n+1) M b=none->[[]]=wr J (V1<|T.map (·.1)) (n+1) M b->∀R,Same H R->∀O r0,R O=none->(upd R O<|.tup []) r0=none->Q (.ref r0) (upd (upd R O<|.tup []) r0<|.tup [.non,.ref O]):=λe T5 R s1 O r0 h0 h1=>by
  have s2:=Yq h0<|.tup [];have g2:upd R O (.tup []) O=some (.tup []):=Yf;refine q r0 (.ref O) _ ((s1.trans s2).trans<|Yq h1 _) (by rw[WZ e];exact Yf) λ_=>⟨O,[],[],rfl,(Yq h1 _) _ _ g2,Zc _,T5.symm⟩
 refine Dx Y ?_;refine XA (λU' R=>∃wa,Same H R/\ ¬Jr J M b/\Rd R wa (.dK<|wth M b)/\U'=[some (.ref t),some<|.ref a,some<|.ref bt,some<|.ref wa,none,none,none,none,none,none]) ?_ ?_
 .rintro U' R ⟨wa,s1,nb,hw,rfl⟩
  have R6:=nk.wth nb;refine⟨sl 0,λfl T0=>?_⟩;refine up_in T0 _ λH2 s2 g2=>?_;refine⟨.ref bt,b,Y,(hv.mono s1).mono s2,ok,λu H3 s3 T6=>?_⟩;obtain⟨pa,xs,rfl,R8,R7⟩:=Yv T6;have lx:=R7.length;rw[Z9,ZA]at lx;exists pa,true,xs,Y,Z2 R8
  let I:kM:=λi U Hi=>Same R Hi/\Hi pa=some (.tup xs)/\HasL Hi xs (Bd.dats b.parts)/\(∃zs:kC,(b.parts.take i).map (kdn J (V1<|T.map (·.1)) n<|wth M b)=zs.map some/\Hi fl=some (.lst<|zs.map V.str))/\∃z5 z6 z7 z8,U=[some (.ref t),some<|.ref a,some<|.ref bt,some<|.ref wa,some<|.ref fl,z5,z6,z7,z8,none]
  refine TX (tp:=true) (xs:=xs) I ⟨s2.trans s3,R8,R7,⟨[],Y,s3 _ _ g2⟩,_,_,_,_,Y⟩ (λi U Hi _ z=>Z2 z.2.1) ?_ ?_
  .rintro i x U Hi r hx ⟨si,hai,hxi,⟨zs,ez,hfi⟩,z5,z6,z7,z8,rfl⟩ hr'
   refine up_in hr' _ λHR sR gR=>?_;obtain⟨dd,X,D0⟩:=hxi.get hx;rw[Z9,ZH]at X
   cases hc:b.parts[i]? with
   |none=>rw[hc]at X;cases X
   |some c'=>
    rw[hc]at X;cases X;have G3:=ZJ hc;have dc:=Bd.dep_mem G3;have il:=(ZF.mp hc).1;have wl:=OP M b;have M2:=(s1.trans si).trans sR
    have lz:zs.length<=i:=by
     have:=congrArg List.length ez;rw[ZA,ZA,ZN]at this;omega
    exists _,Z2 gR,Y;refine⟨t,wa,x,J,c,d,T,wth M b,c',Y,bi.mono M2,kk,hk,R6,pl,hw.same<|si.trans sR,by omega,D0.mono sR,Bd.ok_parts ok c' G3,by omega,by omega,λr2 p2 H4 s4 h4 hp=>?_⟩;exists _,Z2 h4,Y
    cases ek:kdn J (V1<|T.map (·.1)) n (wth M b) c' with
    |none=>
     have en:kdn J (V1<|T.map (·.1)) (n+1) M b=none:=TF<|ZW.mpr ⟨c',G3,ek⟩;obtain⟨l2,ws,wt,rfl,J2,lw,ew⟩:=hp ek;have pn:none∈b.parts.map (kdn J (V1<|T.map (·.1)) n<|wth M b):=ZW.mpr ⟨c',G3,ek⟩;obtain⟨R4,D2⟩:=El (f:=wr J (V1<|T.map (·.1)) n<|wth M b) hc ((Fc λe he=>by have:=Bd.dep_mem<|Zk he;omega).mpr (by rw[ez];simp)) ew;have T2:=(OQ nb pn).trans D2;refine⟨Y,_,Y,VF (by simp[Wa]) ?_⟩;refine⟨sl 1,λt1 T8=>?_⟩;refine up_in T8 _ λH5 s5 g5=>?_;refine⟨t1,l2,_,_,Y,Y,Z2 g5,Z2<|s5 _ _ J2,by simp,Zh<|Yu (by show 1+(ws.map V.int).length<=1000;rw[ZA];omega),λe0=>?_,λe0 t2 T7=>?_⟩
     .refine ⟨sl 2,λD Z=>?_⟩
      exact q D _ _ (((M2.trans s4).trans s5).trans<|Yq Z _) (by rw[WZ en];exact Yf) λ_=>⟨t1,[((i:Nat):Int)],R4,rfl,(Yq Z _) _ _ g5,by show 1<=n+1;omega,by rw[T2];cases ws with|nil=>rfl|cons _ _=>cases e0⟩
     .refine up_in T7 _ λH6 s6 g6=>?_
      refine⟨sl 2,λD Z=>?_⟩;exact q D _ _ ((((M2.trans s4).trans s5).trans s6).trans<|Yq Z _) (by rw[WZ en];exact Yf) λ_=>⟨t2,((i:Nat):Int)::ws,R4,rfl,(Yq Z _) _ _ g6,by rw[Zf];omega,T2⟩
    |some zk=>
     refine⟨Y,_,Y,Y1 (by simp[Wa]) ?_⟩;have O1:=s4 _ _<|sR _ _ hfi;refine⟨.inl ⟨Y,_,Z3 O1⟩,fl,_,_,Y,Y,O1,Yu (by rw[ZA];omega),?_⟩;have T9:=s4 _ _<|sR _ _ hai;have tk:TK H4 (upd H4 fl<|.lst<|zs.map V.str++[Wa (some zk)]):=λb us h=>by rw[Yg (λe=>by rw[e,O1]at h;cases h)];exact h
     refine⟨((si.trans sR).trans s4).putN T0,tk _ _ T9,GU tk _ (Bd.sts _)<|(hxi.mono sR).mono s4,⟨zs++[zk],?_,?_⟩,_,_,_,_,rfl⟩
     .rw [take_snoc hc,ZK,ZK,ez]
      show _++[kdn _ _ _ _ _]=_;rw[ek];rfl
     .rw [Yf,ZK];rfl
  .rintro U Hi ⟨si,hai,hxi,⟨zs,ez,hfi⟩,z5,z6,z7,z8,rfl⟩
   rw[Zg (by omega)]at ez;have sH:=s1.trans si;have a0:atI (V.str b.word::ys) 0=some (.str b.word):=VD (j:=0) rfl
   obtain⟨gr,D1,pr,r1,r2,r3,r4,r5⟩:=hR b (λe' D3 F4 eb=>by
    subst eb;unfold Bd.ok at ok;rw[ok.2.1];exact ok.2.2.1.1)
   have lz:zs.length=b.parts.length:=by
    have:=congrArg List.length ez;rw[ZA,ZA]at this;exact this.symm
   have mz:∀z∈zs,z∈J.map (·.1):=λz hz=>by
    have m:some z∈b.parts.map (kdn J (V1<|T.map (·.1)) n<|wth M b):=by rw[ez];exact ZW.mpr ⟨z,hz,Y⟩
    obtain⟨p,_,e⟩:=ZW.mp m;exact EL kk hk n _ p z R6 e
   have eo:=Mc nb ez;exists _,_,Z2<|sH _ _ hb,a0,Sum.inr b.word,_,.ref gr,rfl,r1,rfl;refine⟨gr,D1,rps,Xk C CK pr,Y,r2,r4,r5,t,a,fl,.ref bt,J,c,d,T,M,b,zs,Y,bi.mono sH,kk,nk,pl,ha.same sH,hv.mono sH,ok,r3,hfi,lz,mz,λH5 s5=>?_⟩;rw[<-eo];have R5:=sH.trans s5
   cases ek:kdn J (V1<|T.map (·.1)) (n+1) M b with
   |none=>exact⟨Y,_,Y,VF (by simp[Wa]) ⟨sl 0,λO S=>⟨sl 2,λD Z=>R3 ek (Q9 nb (by rw[ez];simp) ek) H5 R5 O D S Z⟩⟩⟩
   |some y=>
    refine⟨Y,_,Y,Y1 (by simp[Wa]) ⟨sl 2,λD Z=>?_⟩⟩;exact q D _ _ (R5.trans<|Yq Z _) (by rw[ek];exact Yf) λe=>by rw[ek]at e;cases e
 .intro N key
  have a0:atI (V.str b.word::ys) 0=some (.str b.word):=VD (j:=0) rfl;exists _,_,Z2 hb,a0,Y,_,Y
  cases b with
  |letb x k e g=>
   obtain⟨F3,u1,u2,e1,R1⟩:=ES hv;cases e1;obtain⟨A',kt,rfl,b'⟩:=id bi;refine VF (decide_eq_true Y) ?_;exists _,_,Z2 R1,Y,_,.inl ⟨M,Sum.inr x,ha,Y,Y⟩,_,Y
   by_cases kn:(VC M<|Sum.inr x).isSome=true
   .exact VF (by rw[kn]) ⟨sl 0,λO S=>⟨sl 2,λD Z=>R3 (GO<|.inl kn) (Fd<|.inl kn) H (Z8 _) O D S Z⟩⟩
   refine Y1 (by simpa using kn) ?_;refine⟨_,_,Z2 R1,Y,_,_,b'.ins,Y,A'.t,J,d,T,Y,bi,λso ki=>?_⟩;obtain⟨AK,SK,rfl,T4,D7⟩:=id ki;refine⟨_,_,T4.ins,Y,AK.t,J,d,Y,ki,λl R s1 hl g1=>?_⟩;have el:(J.map λk=>V.str k.1)=(J.map (·.1)).map V.str:=by rw[ve];rfl
   rw[el]at g1;exists l,_,Y,.inl<|Z3 g1,rfl,Jx _,_,rfl;rw[UU]
   by_cases km:k∈J.map (·.1)
   case neg=>exact VF (by simp only[if_true,jO,decide_eq_false_iff_not];exact km) ⟨sl 0,λO S=>⟨sl 2,λD Z=>R3 (GO<|.inr km) (Fd<|.inr km) R s1 O D S Z⟩⟩
   refine Y1 (by simp only[if_true,jO,decide_eq_false_iff_not,Classical.not_not];exact km) ?_;refine⟨a,M,Y,ha.same s1,λl2 J2=>?_⟩;refine up_in J2 _ λH2 s2 g2=>?_;have T1:=s2 _ _<|s1 _ _ R1;refine⟨_,_,Z2 T1,Y,_,_,Z2 T1,Y,_,Je.k (k:=Sum.inr x) g2<|Yu<|by omega,?_⟩;exact key _ _ ⟨l2,(s1.trans s2).putN<|s1.free J2,λz=>z.elim (λz=>kn z) λz=>z km,.inl Yf,rfl⟩
  |_=>exact Y1 (λz=>by have z1:=Zt z;injection z1 with z2;exact Zr z2 (by dsimp only[Bd.word];decide +kernel))<|key _ _ ⟨a,Z8 _,λz=>z,ha,rfl⟩
end
end K4
namespace L2
open PySem
def Ul(ks:kS)(ps:List (Str×Str)):List (List W):=ps.foldl (λrows p=>rows.flatMap λr=>(Y6 ks 3 p.2).map λu=>r++[u]) [[]]
def WV(r:List W):Dat:=.tup<|r.map W.dat
def Bc(Z:kS)(J:List (Str×Str))(p:Str×Str):Ul Z (J++[p])=(Ul Z J).flatMap λr=>(Y6 Z 3 p.2).map λu=>r++[u]:=by
 unfold Ul;rw[j8]
 rfl
theorem RK{α β:Type}(f:α->List β)(k:Nat):∀l:List α,(∀a∈l,(f a).length=k)->(l.flatMap f).length=l.length*k
 |[],_=>by simp
 |a::l,h=>by
  rw[qX,ZL,h a Za,RK f k l λb Z=>h b<|ZM _ Z,Zf,jq,Nat.add_comm]
theorem Ua(c:kT):∀(Z:List (Str×Str))(n:Nat),Z.foldl (λr p=>r*c p.2) n=n*V3 c Z
 |[],n=>by unfold V3;simp
 |p::Z,n=>by
  unfold V3;rw[jF,jF,Ua c Z<|n*c p.2,Ua c Z<|1*c p.2,Nat.one_mul,Nat.mul_assoc]
def Gx(h:∀p∈ps,0<c p.2)(i:Nat):V3 c (ps.take i)<=V3 c ps/\0<V3 c ps:=by
 have J:∀Z:List (Str×Str),(∀p∈Z,0<c p.2)->0<V3 c Z:=λZ=>by
  induction Z with
  |nil=>intro _;exact Nat.one_pos
  |cons q Z ih=>
   intro L;unfold V3;rw[jF,Ua,Nat.one_mul];exact Nat.mul_pos (L q Za)<|ih λp G=>L p<|ZM _ G
 refine⟨?_,J ps h⟩
 have e:V3 c ps=V3 c (ps.take i)*V3 c (ps.drop i):=by
  conv=>lhs;rw[<-qx i ps]
  unfold V3;rw[j8,Ua]
  rfl
 rw[e];exact Nat.le_mul_of_pos_right _<|J _ λp G=>h p<|jW G
def KK.c0(h:KK 30 c d Z)(J:y∈Z.map (·.1)):(Y6 Z 3 y).length=c y/\0<c y:=by
 have s:=h.small J;obtain⟨a,b,_⟩:=UQ h 3 y J (by omega);exact⟨a,b⟩
def Ey(h:KK 30 c d J)(Z:List (Str×Str))(L:∀p∈Z,p.2∈J.map (·.1)):(Ul J Z).length=V3 c Z:=by
 have go:∀(Z:List (Str×Str))(rows:List (List W)),(∀p∈Z,p.2∈J.map (·.1))->(Z.foldl (λrows p=>rows.flatMap λr=>(Y6 J 3 p.2).map λu=>r++[u]) rows).length=Z.foldl (λr p=>r*c p.2) rows.length:=λZ=>by
  induction Z with
  |nil=>intro rows _;rfl
  |cons p Z ih=>
   intro rows G;rw[jF,jF,ih _ λq m=>G q<|ZM _ m,RK _ (c p.2) rows λa _=>by rw[ZA];exact(h.c0<|G p Za).1]
 exact go Z [[]] L
def Be(Z:List (Str×Str)):∀r∈Ul ks Z,r.length=Z.length:=by
 have go:∀(Z:List (Str×Str))(n:Nat)(rows:List (List W)),(∀r∈rows,r.length=n)->∀r∈Z.foldl (λrows p=>rows.flatMap λr=>(Y6 ks 3 p.2).map λu=>r++[u]) rows,r.length=n+Z.length:=λZ=>by
  induction Z with
  |nil=>intro n rows h r J;exact h r J
  |cons p Z ih=>
   intro n rows h r J
   have:=ih (n+1) _ (λr J=>by
    obtain⟨G,M,L⟩:=List.mem_flatMap.mp J;obtain⟨u,_,rfl⟩:=ZW.mp L;rw[ZL,h G M];rfl) r J
   rw[this,Zf];omega
 intro r J;have:=go Z 0 [[]] (λr J=>by rw[ZQ.mp J];rfl) r J;omega
def QI(N:Has H x (WV r))(J:H b=some (.tup [wv]))(O:Has H wv u.dat)(B:r.length<=3)(q:∀v G,Same H G->Has G v (WV<|r++[u])->Q v G):
  J3 K x (.ref b) H Q\/J1 K x (.ref b) H Q:=by
 unfold WV at N q;obtain⟨a,L,rfl,R,Z⟩:=Yv N;have M:=Z.length;rw[ZA]at M
 cases r with
 |nil=>
  obtain rfl:=VA Z;exact .inl ⟨a,b,[wv],Y,Y,Z2 R,Z2 J,q _ _ (Z8 _)<|Yo J<|Z5 O⟩
 |cons y r=>
  refine .inr ⟨a,b,L,[wv],Y,Y,Z2 R,Z2 J,(λz=>by subst z;cases M),Zh (Yu (by simp only[vc];omega)),(λz=>nomatch z),λ_ p T=>?_⟩;have s:=Yq T<|.tup<|L++[wv];refine q _ _ s<|Yo Yf ?_;rw[ZK];exact Z7 (Z.mono s)<|Z5<|O.mono s
def Bk{J:List (Str×Str)}{i:Nat}(h:HasL H G (J.map λp=>.tup [.str p.1,.str p.2]))(L:G[i]?=some x):∃p t,J[i]?=some p/\x=.ref t/\H t=some (.tup [.str p.1,.str p.2]):=by
 obtain⟨d,Z,N⟩:=h.get L;rw[ZH]at Z
 cases e:J[i]? with
 |none=>rw[e]at Z;cases Z
 |some p=>
  rw[e]at Z;cases Z;obtain⟨t,rfl,M⟩:=Xx N;exact⟨p,t,Y,Y,M⟩
end L2
namespace K4
open PySem L2
section
variable{f g C CK:Addr}
def MA(CK:Addr):Sp:=λM H Q _=>∃(G:Addr)(J:kS)(d:kT)(Z:List (Str×Str))(v:V),M=[.ref G,v]/\KI H CK G J d/\J.length<=6/\Has H v (psD Z)/\Z.length<=3/\(∀p∈Z,p.2∈J.map (·.1))/\(Z.map (·.1)).Nodup/\(∀p∈Z,WdS p.1)/\
 ∀L,Same H L->Q (.bl true) L
def W8:Yh ["kinds","parameters","seen","name","kind"] ["kinds","parameters"] (Yd Bb):=Y2
def Kv(B:Blt T)(TC:KCl K CK)(F:Fun K "are_parameters" "are_parameters" Bb f fd)(hM:T "MOST_PARAMETERS"=some u)(rM:RelV (.int 3) u)(DN:Df P w K T base n "is_name" ["text"] (Ut 97))(m2:VI K CK "names" g)(G2:Ye P w K T base CX0 n g gd ["self"] (U8 CK))(b2:Binds K gd ["self"] []):Ye P w K T base CX0 (n+1) f fd ["kinds","parameters"] (MA CK):=by
 refine F.oq W8 λJ2 A j s H vs Q E m h=>?_;obtain⟨so,y,d,ps,v,rfl,ki,k6,hv,l3,pk,nd,S,q⟩:=h;have hu:=JA m;unfold psD at hv;obtain⟨pa,xs,rfl,Z,M⟩:=Yv hv;have lx:=M.length;rw[ZA]at lx;refine⟨_,YY (Y5 (Ys Xt (VB Y8 Y B.len Zu (pa1<|pv 1)) (V5 rfl hM rM)<|Y0 _) (YZ V4) Yp)
  (YY (Yx 2 W8.nd Vz)
  (YY (V9 Zv rfl (J5<|pv 1) (Vg (n:=2) rfl (Yn (Yl 3 W8.nd)<|Yn (Yl 4 W8.nd) VJ))
   (YY (Y5 (PW.pt<|Um (JN<|Vv<|VP DN m<|pa1<|pv 3)<|Um (Jp<|Ux hu (pv 3)<|pv 2)<|J4<|Ys JX (pv 4) (Vj (pv 0) TC.cl m2 G2 m b2 .nil Y3) rfl) (YZ V4) Yp)
   (YZ<|Vf hu (pv 2) (pv 3) XN rfl)))
  (YZ<|Yi XN))),?_⟩
 dsimp only[VY,Cx.nox,Cx.wish];show let a:=_;let b:=_;let c:=_;let d:=Yk (VE _ c _) b;let e:=Yk (Uq _ _ d) a;let f:=Yk _ e;let g:=_;Yk (VE _ g _) f _ _ _
 intros
 refine⟨pa,_,Y,.inr<|Z2 Z,_,rfl,Y1 (by simp;omega) ?_⟩;intro X N;refine up_in N _ λH1 s1 g1=>?_;exists ⟨_,Z2<|s1 _ _ Z⟩
 let I:kM:=λi U J=>Same H J/\∃G z3 z4,J X=some (.dK G)/\G.map (·.1)=(ps.take i).map (λp=>(Sum.inr p.1:Key))/\U=[some (.ref so),some<|.ref pa,some<|.ref X,z3,z4]
 refine TY (xs:=xs) I ⟨s1,[],_,_,g1,Y,Y⟩ (λi U J _ z=>Z2<|z.1 _ _ Z) ?_ ?_
 .rintro BB RR i x U J hx ⟨si,G,z3,z4,hk,ek,rfl⟩
  obtain⟨p,t,D,rfl,ht⟩:=Bk M hx;have O:=ZJ D;have i3:=(ZF.mp D).1;obtain⟨w1,w2,w3⟩:=S p O
  have nk:VC G (Sum.inr p.1)=none:=Ri (by
   rw[ek];intro z;obtain⟨q1,r,o⟩:=ZW.mp z;exact RB nd (show(ps.map (·.1))[i]?=some p.1 by rw[ZH,D];rfl) (by rw[<-qb];exact ZW.mpr ⟨q1,r,Sum.inr.inj o⟩))
  exists _,Z2<|si _ _ ht,rfl;refine⟨p.1,Y,w1,w2,w3,λH2 R=>⟨_,Y,Y1 (by simp) ?_⟩⟩;refine⟨_,(show Vd H2 X (.str p.1) none by rw[<-nk];exact Vd.k (k:=Sum.inr p.1)<|R _ _ hk),_,Y,Y1 (by simp) ?_⟩;have L:=ki.mono<|si.trans R;obtain⟨AK,SK,o,kd,kr⟩:=id L;refine⟨_,_,by rw[<-o];exact kd.ins,Y,so,y,d,Y,L,λl H3 s3 hl g3=>?_⟩;have el:(y.map λk=>V.str k.1)=(y.map (·.1)).map V.str:=by rw[ve];rfl
  rw[el]at g3;refine⟨l,_,Y,.inl<|Z3 g3,rfl,Jx _,_,rfl,Y1 ?_ ?_⟩
  .rw [UU]
   simp only[if_true,jO,decide_eq_false_iff_not,Classical.not_not];exact pk p O
  have lk:G.length<=3:=by
   have:=congrArg List.length ek;rw[ZA,ZA,ZN]at this;omega
  refine⟨_,Je.k (k:=Sum.inr p.1) (s3 _ _<|R _ _ hk)<|Yu<|by omega,?_⟩;refine⟨((si.trans R).trans s3).putN N,_,_,_,Yf,?_,Y⟩;rw[V8 _ nk,ZK,ek,take_snoc D,ZK]
  rfl
 .rintro U J ⟨si,_⟩
  exact q J si
def XX(CK:Addr):Sp:=λM H Q _=>∃(G:Addr)(J:kS)(c d:kT)(Z:List (Str×Str))(v:V),M=[.ref G,v]/\KI H CK G J d/\KK 30 c d J/\Has H v (psD Z)/\(∀p∈Z,p.2∈J.map (·.1))/\V3 c Z<=1000/\
 ∀L,Same H L->Q (.int (V3 c Z:Nat)) L
def J0:Yh ["kinds","parameters","count","name","kind"] ["kinds","parameters"] (Yd WT):=Y2
def NJ(B:Blt S)(TC:KCl K CK)(F:Fun K "row_count" "row_count" WT f fd)(o:VI K CK "worths_of" g)(G2:Ye P w K S base CX0 n g gd ["self","kind"] (Jy CK))(b2:Binds K gd ["self","kind"] []):Ye P w K S base CX0 (n+1) f fd ["kinds","parameters"] (XX CK):=by
 refine F.oq J0 λJ2 A R s H vs Q E hr h=>?_;obtain⟨T,ks,c,d,ps,v,rfl,ki,j,y,D,top,q⟩:=h;unfold psD at y;obtain⟨r,xs,rfl,G,J⟩:=Yv y;have lx:=J.length;rw[ZA]at lx;refine⟨_,YY (Yx 2 J0.nd Ya)
  (YY (V9 Zv rfl (J5<|pv 1) (Vg (n:=2) rfl (Yn (Yl 3 J0.nd)<|Yn (Yl 4 J0.nd) VJ))
   (YZ<|I0 (i:=2) J0.nd rfl (Or.inl rfl) (VB Y8 rfl B.len Zu (pa1<|Y4 (pv 0) TC.cl o G2 hr b2 .nil Y3<|pa1<|pv 4)) Ps))
  (YZ<|Yi<|pv 2)),?_⟩
 dsimp only[VY,Cx.nox,Cx.wish];show let a:=_;let b:=_;let c:=Yk (Uq _ _ b) a;Yk _ c _ _ _
 intros
 refine OC ?_;exists ⟨_,Z2 G⟩
 let I:kM:=λi U L=>Same H L/\∃O N,U=[some (.ref T),some<|.ref r,some<|.int (V3 c (ps.take i):Nat),O,N]
 refine TY (xs:=xs) I ⟨Z8 _,_,_,Y⟩ (λi U L _ z=>Z2<|z.1 _ _ G) ?_ ?_
 .rintro BB RR i x U L hx ⟨si,O,N,rfl⟩
  obtain⟨p,t,M,rfl,ht⟩:=Bk J hx;have m:=D p<|ZJ M;exists _,Z2<|si _ _ ht,rfl;have Z:=ki.mono si;obtain⟨AK,SK,e1,kd,kr⟩:=id Z;refine⟨_,Y,_,_,by rw[<-e1];exact kd.ins,Y,T,ks,d,p.2,Y,Z,m,λl k H3 u hl g3 hy=>?_⟩;have X:=hy.length;obtain⟨c1,c2⟩:=j.c0 m;rw[ZA,c1]at X;have le:=(Gx (c:=c) (ps:=ps) (λp M=>(j.c0<|D p M).2) i).1;refine⟨l,_,Y,.inl<|Z3 g3,.inl ⟨by omega,by omega⟩,?_⟩;have e:((V3 c (ps.take i):Nat):Int)*((k.length:Nat):Int)=((V3 c (ps.take<|i+1):Nat):Int):=by rw[take_snoc M,Gy,X,Int.natCast_mul]
  exact⟨si.trans u,some<|.str p.1,some<|.str p.2,by rw[<-e];rfl⟩
 .rintro U L ⟨si,O,N,rfl⟩
  rw[Zg (by omega)];exact q L si
def XW(CK:Addr):Sp:=λN H Q _=>∃(M:Addr)(J:kS)(c d:kT)(Z:List (Str×Str))(v:V),N=[.ref M,v]/\KI H CK M J d/\KK 30 c d J/\Has H v (psD Z)/\(∀p∈Z,p.2∈J.map (·.1))/\Z.length<=3/\V3 c Z<=1000/\
 ∀l L G,Same H G->H l=none->G l=some (.lst L)->HasL G L ((Ul J Z).map WV)->Q (.ref l) G
def Jz:Yh ["kinds","parameters","rows","name","kind"] ["kinds","parameters"] (Yd WR):=Y2
def Ql:List.Nodup [("row":Str),"worth","kinds","kind"]:=by decide +kernel
def NI(B:Blt mg)(TC:KCl K CK)(F:Fun K "rows_over" "rows_over" WR f fd)(m2:VI K CK "worths_of" g)(G2:Ye P w K mg base CX0 n g gd ["self","kind"] (Jy CK))(b2:Binds K gd ["self","kind"] []):Ye P w K mg base CX0 (n+1) f fd ["kinds","parameters"] (XW CK):=by
 refine F.oq Jz λT0 A R4 s H vs Q E hr h=>?_;obtain⟨so,ks,c,d,ps,v,rfl,ki,kk,hv,pk,l3,top,q⟩:=h;unfold psD at hv;obtain⟨pa,xs,rfl,O1,M2⟩:=Yv hv;have lx:=M2.length;rw[ZA]at lx;refine⟨_,YY (Yx 2 Jz.nd<|JJ<|pa1<|Yj VR)
  (YY (V9 Zv rfl (J5<|pv 1) (Vg (n:=2) rfl (Yn (Yl 3 Jz.nd)<|Yn (Yl 4 Jz.nd rfl (Or.inr rfl)) VJ))
   (YZ (O5 (i0:=2) (wi2:=LL K<|Fv CK "worths_of" (Jy CK) [] E (N0 2)<|JT (N0 3) Rn) [0,4] Jz.nd rfl (Or.inl rfl) (Ju<|pv 2)
    (λcl C fp s H=>Yl 0 Ql rfl (Or.inl rfl) (Or.inr rfl)) (λcl C fp s H=>Ju<|Y4 (pv 2) TC.cl m2 G2 hr b2 .nil Y3<|pa1<|pv 3) (λcl C fp s H=>Yl 1 Ql rfl (Or.inl rfl) (Or.inr rfl))
    (λcl C fp s H=>Y7 (r:=λx y H Q=>J3 K x y H Q\/J1 K x y H Q) Jh (pv 0)<|Yj<|pa1<|pv 1))))
  (YZ<|Yi<|pv 2)),?_⟩
 dsimp only[VY,Cx.nox,Cx.wish];show let a:=_;let b:=_;let c:=Yk (Uq _ _ b) a;Yk _ c _ _ _
 intros
 refine⟨sl 0,λt0 R5=>⟨sl 1,λl0 S=>?_⟩⟩;have s1:=Yq R5<|.tup [];have g1:upd H t0 (.tup []) t0=some (.tup []):=Yf;generalize upd H t0 (.tup [])=H1 at s1 g1 S |-;refine up_in S _ λH2 s2 g2=>?_;have J2:=s1.trans s2;exists ⟨_,Z2<|J2 _ _ O1⟩;refine TY (xs:=xs) (λi U T=>Same H T/\∃l G z3 k,H l=none/\T l=some (.lst G)/\HasL T G ((Ul ks<|ps.take i).map WV)/\U=[some (.ref so),some<|.ref pa,some<|.ref l,z3,k]) ⟨J2,l0,_,_,_,s1.free S,g2,Z5<|Yo (s2 _ _ g1) Z6,rfl⟩ (λi U T _ z=>Z2<|z.1 _ _ O1) ?_ ?_
 .rintro BB RR i x U T hx ⟨si,l,G,z3,k,fl,hl,hy,rfl⟩
  obtain⟨p,t,O,rfl,ht⟩:=Bk M2 hx;have hk:=pk p<|ZJ O;obtain⟨c1,c2⟩:=kk.c0 hk;have i3:=(ZF.mp O).1;have lR:=Ey kk (ps.take i) λp O=>pk p<|Zk O;have rl:=Be (ks:=ks)<|ps.take i;have le:=(Gx (c:=c) (ps:=ps) (λp O=>(kk.c0<|pk p O).2)<|i+1).1;have eR:Ul ks (ps.take<|i+1)=(Ul ks<|ps.take i).flatMap λr=>(Y6 ks 3 p.2).map λu=>r++[u]:=by rw[take_snoc O,Bc]
  rw[take_snoc O,Gy,<-lR,<-c1]at le;rw[eR];have ly:=hy.length;rw[ZA]at ly;rw[ZN]at rl;generalize Ul ks (ps.take i)=R at lR rl le hy ly |-;generalize hus:Y6 ks 3 p.2=us at le |-;exists _,Z2<|si _ _ ht,rfl;exists ⟨G,Z3 hl⟩;refine Te G.length (λJ N m=>Same T m/\N.length=J*us.length/\J<=R.length/\HasL m N (((R.take J).flatMap λr=>us.map λu=>r++[u]).map WV)) ⟨Z8 _,by simp,Zc _,by rw[jN];exact Z6⟩
   (λJ N m z=>Yu (by rw[z.2.1];have:J*us.length<=R.length*us.length:=jA _ z.2.2.1;omega)) ?_ ?_ ?_ ?_
  .intro J N m hi z
   exact⟨G,G[J],Z3<|z.1 _ _ hl,by simp[hi]⟩
  .intro N m z
   exact⟨G,Z3<|z.1 _ _ hl,ZG _⟩
  .intro J N m x H'' RR' hi z yl hR
   obtain⟨rfl,yy⟩:=yl;obtain⟨dx,M,R7⟩:=hy.get<|yy G<|Z3<|z.1 _ _ hl;rw[ZH]at M
   cases hr1:R[J]? with
   |none=>rw[hr1]at M;cases M
   |some r=>
    rw[hr1]at M;cases M;have ri:=rl r<|ZJ hr1;have G3:=ki.mono<|si.trans z.1;obtain⟨AK,SK,e1,kd,kr⟩:=id G3;refine⟨_,_,by rw[<-e1];exact kd.ins,Y,so,ks,d,p.2,Y,G3,hk,λlw D H3 e R8 gw hw=>⟨⟨D,Z3 gw⟩,?_⟩⟩;rw[hus]at hw;have G1:=hw.length;rw[ZA]at G1;have R1:=(R7.mono z.1).mono e;refine NU D.length (λj I X=>Same H3 X/\I.length=J*us.length+j/\j<=us.length/\HasL X I (((R.take J).flatMap λr=>us.map λu=>r++[u]).map WV++ ((us.take j).map λu=>r++[u]).map WV)) ⟨Z8 _,by rw[z.2.1];rfl,Zc _,by rw[jN,jo,jo,ja];exact z.2.2.2.mono e⟩
     (λj I X Z=>Yu (by
      rw[Z.2.1];have:(J+1)*us.length<=R.length*us.length:=jA _ (by omega);rw[jq]at this;have:=Z.2.2.1;omega)) ?_ ?_ ?_ ?_
    .intro j I X hj Z
     exact⟨D,D[j],Z3<|Z.1 _ _ gw,by simp[hj]⟩
    .intro I X Z
     exact⟨D,Z3<|Z.1 _ _ gw,ZG _⟩
    .intro j I X x2 H5 T2 hj Z yl2 hT
     obtain⟨rfl,R3⟩:=yl2;obtain⟨dz,L,R6⟩:=hw.get<|R3 D<|Z3<|Z.1 _ _ gw;rw[ZH]at L
     cases hv1:us[j]? with
     |none=>rw[hv1]at L;cases L
     |some v=>
      rw[hv1]at L;cases L;refine⟨sl 1,λb hb=>?_⟩;have sb:=Yq hb<|.tup [x2];have gb:upd H5 b (.tup [x2]) b=some (.tup [x2]):=Yf;refine QI ((R1.mono Z.1).mono sb) gb ((R6.mono Z.1).mono sb) (by omega) λv' H6 s6 h6=>hT _ _ ?_;have o:=sb.trans s6;exists Z.1.trans o,by rw[ZL,Z.2.1];rfl,(ZF.mp hv1).1;rw[take_snoc hv1,ZK,ZK,<-vZ];exact Z7 (Z.2.2.2.mono o)<|Z5 h6
    .intro I X Z
     refine hR _ _ ⟨z.1.trans<|e.trans Z.1,by rw[Z.2.1,G1,jq],(ZF.mp hr1).1,?_⟩;have y4:=Z.2.2.2;rw[show us.take D.length=us from Zg (by omega)]at y4;rw[take_snoc hr1,List.flatMap_append,ZK];simp only[qX,List.flatMap_nil,ja];exact y4
  .intro N m p3 z hp3
   have e:=Yq hp3<|.lst N;have k:=z.2.2.2;rw[Zg (by omega)]at k;exact⟨si.trans<|z.1.trans e,p3,N,_,_,(si.trans z.1).free hp3,Yf,k.mono e,rfl⟩
 .rintro U T ⟨si,l,G,z3,k,fl,hl,hy,rfl⟩
  rw[Zg (by omega)]at hy;exact q l G T si fl hl hy
end
end K4
namespace L2
open PySem
def Xs(H:Hp)(x:Addr):Hp:=λb=>if b=x then none else H b
structure BB(Hm H:Hp)(C CK:Addr)(A:BA)(ks:List (Str×Shp))(d:Str->Nat):Prop where
 ins:H A.t=some (.ins C A.dx (UI A))
 sm:Same Hm H
 so:KI Hm CK A.so ks d
 nd:Hm A.td=none
 nr:Hm A.rd=none
 ne:A.td≠A.rd
 n1:A.t≠A.td
 n2:A.t≠A.rd
def BB.same(b:BB J H C L A Z d)(s:Same H G):BB J G C L A Z d:=⟨s _ _ b.ins,b.sm.trans s,b.so,b.nd,b.nr,b.ne,b.n1,b.n2⟩
def BB.td(b:BB J H C G A Z d)(o:HO):BB J (upd H A.td o) C G A Z d:=⟨by rw[Yg b.n1];exact b.ins,b.sm.putN b.nd,b.so,b.nd,b.nr,b.ne,b.n1,b.n2⟩
def BB.rd(b:BB J H C G A Z d)(o:HO):BB J (upd H A.rd o) C G A Z d:=⟨by rw[Yg b.n2];exact b.ins,b.sm.putN b.nr,b.so,b.nd,b.nr,b.ne,b.n1,b.n2⟩
structure BT(H:Hp)(A:BA)(kv rv:List (Key×V))(ks:List (Str×Shp))(ds:List Dd):Prop where
 td:H A.td=some (.dK kv)
 rd:H A.rd=some (.dK rv)
 ke:kv.map (·.1)=ds.map (λx=>(Sum.inr x.1.1:Key))
 va:HasL H (kv.map (·.2)) (ds.map Us)
 ro:∀x∈ds,∃l xs,VC rv (Sum.inr x.1.1)=some (.ref l)/\H l=some (.lst xs)/\HasL H xs ((Ul ks x.1.2.1).map WV)
 ln:rv.length<=ds.length
def BT.same(b:BT H A G J L T)(s:Same H B):BT B A G J L T:=
 ⟨s _ _ b.td,s _ _ b.rd,b.ke,b.va.mono s,λx M=>let⟨l,Z,R,O,N⟩:=b.ro x M;⟨l,Z,R,s _ _ O,N.mono s⟩,b.ln⟩
theorem Mi(e:TK H L):∀(u:W){v:V},Has H v u.dat->Has L v u.dat
 |.non,_,h=>by unfold W.dat Has at h |-;exact h
 |.tag _,_,h=>by unfold W.dat Has at h |-;exact h
 |.pair a b,_,h=>by
  obtain⟨p,N,M,rfl,Z,G,J⟩:=X0 h;unfold W.dat Has;exact⟨p,_,Y,e _ _ Z,Z4 (Mi e a G)<|Z5<|Mi e b J⟩
theorem Mj{α:Type}{D:α->Dat}(e:∀u {v:V},Has H v (D u)->Has G v (D u)):∀{J:List α}{Z:kL},HasL H Z (J.map D)->HasL G Z (J.map D)
 |[],[],_=>Z6
 |[],_::_,h=>by rw[jo]at h;unfold HasL at h;exact h.elim
 |_::_,[],h=>by rw[ZV]at h;unfold HasL at h;exact h.elim
 |u::J,x::Z,h=>by
  rw[ZV]at h |-;unfold HasL at h;exact Z4 (e u h.1)<|Mj e h.2
def ET(e:TK H R){Z:List (List W)}(h:HasL H L (Z.map WV)):HasL R L (Z.map WV):=Mj (λu v J=>by
 unfold WV Has at J |-;obtain⟨a,G,O,N,M⟩:=J;exact⟨a,G,O,e _ _ N,Mj (λu {v}=>Mi e u) M⟩) h
def M4(x:Dd):(Us x).st=true:=by
 unfold Us psD;simp[Dat.st,Dat.sts,D9,Bd.st]
theorem M3:∀Z:List Dd,Dat.sts (Z.map Us)=true
 |[]=>by unfold List.map Dat.sts;rfl
 |x::Z=>by rw[ZV];unfold Dat.sts;rw[M3 Z,M4];rfl
def Pw(h:Has H v (Tq x)):∃a u w,v=.ref a/\H a=some (.tup [.str x.1.1,u,.str x.1.2.2,w])/\Has H u (psD x.1.2.1)/\Has H w x.2.dat:=by
 unfold Tq at h;obtain⟨t,F,rfl,O,R⟩:=Yv h;obtain⟨I,X,rfl,E,L⟩:=Yc R;obtain⟨N,C,rfl,D,G⟩:=Yc L;obtain⟨A,U,rfl,B,J⟩:=Yc G;obtain⟨M,S,rfl,T,Z⟩:=Yc J;obtain rfl:=VA Z;obtain rfl:=has_str E;obtain rfl:=has_str B;exact⟨t,N,M,Y,O,D,T⟩
def vC(A:BA):(UI A).lookup ("is_head":Str)=none:=rfl
def y9(A:BA):(UI A).lookup ("rows":Str)=some (V.ref A.rd):=rfl
def PB(Z:X.calm=true)(M:PG X (.Name x1 p1) t1)(L:PG X (.Name x2 p2) t2)(G:PG X (.Name x3 p3) t3)(J:PG X (.Name x4 p4) t4):
  PG X (.Tuple [.Name x1 p1,.Name x2 p2,.Name x3 p3,.Name x4 p4] k pos) (NY X.K 4<|Jc t1<|Jc t2<|Jc t3<|Jc t4 TV):=
 Vg (n:=4) Z (Yn M<|Yn L<|Yn G<|Yn J VJ)
def BT.put(b:BT H0 A N M Q S)(P:A.td≠A.rd)(C:x.1.1∉S.map λy=>y.1.1)(R:U=upd H0 A.td (.dK<|putK N (Sum.inr x.1.1) v))(r:Has H0 v (Us x))(s:Same U Hb)(j:Hb l=some (.lst B))(w:HasL Hb B ((Ul Q x.1.2.1).map WV))(L:H4=upd Hb A.rd (.dK<|putK M (Sum.inr x.1.1)<|.ref l)):
  BT H4 A (putK N (Sum.inr x.1.1) v) (putK M (Sum.inr x.1.1)<|.ref l) Q (S++[x]):=by
 have X:VC N (Sum.inr x.1.1)=none:=Ri (by
  rw[b.ke];intro z;obtain⟨t,I,i⟩:=ZW.mp z;exact C<|ZW.mpr ⟨t,I,Sum.inr.inj i⟩)
 have F:U A.td=some (.dK<|putK N (Sum.inr x.1.1) v):=by rw[R];exact Yf
 have Z:Hb A.rd=some (.dK M):=s _ _ (by rw[R,Yg (Zs P)];exact b.rd);have D:TK H0 U:=by rw[R];exact Ny b.td λq z=>nomatch z
 have G:TK Hb H4:=by rw[L];exact Ny Z λq z=>nomatch z
 have E:TK H0 H4:=λb J h=>G _ _<|s _ _<|D _ _ h
 have p:∀b J,H0 b=some (.lst J)->H4 b=some (.lst J):=λc J h=>by
  have k:c≠A.td:=JQ h b.td (by intro z;cases z);have O:Hb c=some (.lst J):=s _ _ (by rw[R,Yg k];exact h);have g:c≠A.rd:=JQ O Z (by intro z;cases z);rw[L,Yg g];exact O
 have d:H4 l=some (.lst B):=by
  rw[L,Yg (JQ j Z (by intro z;cases z))];exact j
 exists by rw[L,Yg P];exact s _ _ F,by rw[L];exact Yf,by rw[V8 _ X,ZK,b.ke,ZK];rfl,?_,λy u=>?_
 .rw [V8 _ X,ZK,ZK]
  exact Z7 (GU E _ (M3 S) b.va)<|Z5<|B5 E _ (M4 x) r
 .rw [Vx]
  rcases ZX.mp u with m|m
  .have ny:¬(Sum.inr y.1.1:Key)=Sum.inr x.1.1:=λz=>C<|ZW.mpr ⟨y,m,Sum.inr.inj z⟩
   rw[Zq ny];obtain⟨f,T,o,O,e⟩:=b.ro y m;exact⟨f,T,o,p _ _ O,ET E e⟩
  .cases ZQ.mp m
   rw[Zp rfl];exact⟨l,B,Y,d,ET G w⟩
 .have:=ND M (Sum.inr x.1.1)<|.ref l
  have:=b.ln;rw[ZL,vc];omega
end L2
namespace K4
open PySem L2
section
variable{f g C CK:Addr}
def R9(C CK:Addr):Sp:=λM H Q _=>∃(A:BA)(G:kJ)(J:kS)(d:kT)(y k:Str)(Z:List (Str×Str))(v:V),M=[.ref A.t,.str y,v,.str k]/\H A.t=some (.ins C A.dx<|UI A)/\H A.td=some (.dK G)/\KI H CK A.so J d/\J.length<=6/\VC G (Sum.inr y)=none/\WdS y/\
 Has H v (psD Z)/\Z.length<=3/\(∀p∈Z,p.2∈J.map (·.1))/\(Z.map (·.1)).Nodup/\(∀p∈Z,WdS p.1)/\k∈J.map (·.1)/\∀L,Same H L->Q (.bl true) L
def Oy:Yh ["self","name","parameters","kind"] ["self","name","parameters","kind"] (Yd BY):=Y2
def Ku(J:BCl K C)(TC:KCl K CK)(F:Fun K "is_head" "Book.is_head" BY f fd)(DN:Df P w K R base n "is_name" ["text"] (Ut 97))(DA:Df P w K R base n "are_parameters" ["kinds","parameters"] (MA CK))(u:VI K CK "names" g)(G2:Ye P w K R base CX0 n g gd ["self"] (U8 CK))(b2:Binds K gd ["self"] []):Ye P w K R base CX0 (n+1) f fd ["self","name","parameters","kind"] (R9 C CK):=by
 refine F.oq Oy λJ2 A O s H vs Q E M h=>?_;obtain⟨B,kv,G,d,y,k,t,v,rfl,T,x,D,o,p,⟨X,U,S⟩,i,r,m,c,N,hk,q⟩:=h;have a:=JA M;refine⟨_,YY (Y5 (PW.pt<|Um (JN<|Vv<|VP DN M<|pa1<|pv 1)<|J4<|Jp<|Ux a (pv 1)<|Ym (pv 0) rfl) (YZ V4) Yp)
  (YZ<|Yi<|WX (VP DA M<|pa2 (Ym (pv 0) rfl)<|pv 2)<|Xb<|JF XD (pv 3) (Vj (Ym (pv 0) rfl) TC.cl u G2 M b2 .nil Y3) rfl),?_⟩
 dsimp only[VY,Cx.nox,Cx.wish];refine⟨y,Y,X,U,S,λH1 s1=>⟨_,Y,Y1 (by simp) ?_⟩⟩;refine⟨C,_,_,_,s1 _ _ T,J.cl,J.td,FG _,_,(show Vd H1 B.td (.str y) none by rw[<-p];exact Vd.k (k:=Sum.inr y)<|s1 _ _ x),_,Y,Y1 (by simp) ?_⟩;refine⟨C,_,_,_,s1 _ _ T,J.cl,J.so,Le _,B.so,G,d,t,v,Y,D.mono s1,o,i.mono s1,r,m,c,N,λH2 z=>⟨true,Y,VF Y ?_⟩⟩;have Z:=s1.trans z;have L:=D.mono Z;obtain⟨AK,SK,e1,b,kr⟩:=id L;refine⟨C,_,_,_,Z _ _ T,J.cl,J.so,Le _,_,_,by rw[<-e1];exact b.ins,Y,B.so,G,d,Y,L,λl H3 j hl I=>?_⟩;have el:(G.map λk=>V.str k.1)=(G.map (·.1)).map V.str:=by rw[ve];rfl
 rw[el]at I;exists l,_,Y,.inl<|Z3 I,rfl,Jx _;rw[UU];have e:decide (k∈G.map (·.1))=true:=decide_eq_true hk;dsimp only[rI0,rI,UT];rw[e];exact q H3<|Z.trans j
end
section
variable{f g C CK:Addr}
def IN(C CK:Addr):Sp:=λO H Q _=>∃(G:Hp)(A:BA)(N:Addr)(M:kL)(Z:kS)(c d:kT)(J:List Dd),O=[.ref A.t,.ref N]/\BB G H C CK A Z d/\BT H A [] [] Z []/\KK 30 c d Z/\Z.length<=6/\G N=some (.lst M)/\HasL G M (J.map Tq)/\0<J.length/\J.length<=8/\
 Wds 97 (J.map λx=>x.1.1)/\(∀x∈J,FZ (Z.map (·.1)) c 50 x.1)/\∀L T R,BB G L C CK A Z d->BT L A T R Z J->Q .non L
def Xo:Yh ["self","definitions","in_all","number","name","parameters","kind","body","count"] ["self","definitions"] (Yd BU):=Y2
def Ks(B:Blt T)(me:T "enumerate"=none)(R:BCl K C)(F:Fun K "take_heads" "Book.take_heads" BU f fd)(h1:T "MOST_DEFINITIONS"=some u1)(r1:RelV (.int 8) u1)(h2:T "MOST_ROWS"=some u2)(r2:RelV (.int 200) u2)(h3:T "MOST_ROWS_IN_ALL"=some u3)(r3:RelV (.int 400) u3)(mH:VI K C "is_head" g)(GH:Ye P w K T base CX0 n g gd ["self","name","parameters","kind"] (R9 C CK))(bH:Binds K gd ["self","name","parameters","kind"] [])(DC:Df P w K T base n "row_count" ["kinds","parameters"] (XX CK))(DO:Df P w K T base n "rows_over" ["kinds","parameters"] (XW CK)):Ye P w K T base CX0 (n+1) f fd ["self","definitions"] (IN C CK):=by
 refine F.oq Xo λT9 A R6 s H vs Q E hr h=>?_;obtain⟨Hm,D,dl,zs,o,c,d,ds,rfl,bb,bt,kk,k6,X,J2,d0,d8,wd,ho,q⟩:=h;have hu:=JA hr;have lz:=J2.length;rw[ZA]at lz;refine⟨_,YY (Y5 (Ys Vc (VB Y8 Y B.len Zu (pa1<|pv 1)) Ya<|Y0 _) (YZ V4) Yp)
  (YY (Yx 2 Xo.nd Ya)
  (YZ (V9 Zv rfl (XC rfl me (pa1<|pv 1)) (Vg (n:=2) rfl (Yn (Yl 3 Xo.nd)<|Yn (PB rfl (Yl 4 Xo.nd) (Yl 5 Xo.nd) (Yl 6 Xo.nd) (Yl 7 Xo.nd)) VJ))
   (YY (Y5 (PW.pt<|Um (Ys Qf (pv 3) (V5 rfl h1 r1)<|Y0 _)<|J4<|JN<|Vv<|Y4 (pv 0) R.cl mH GH hr bH .nil Y3<|pa3 (pv 4) (pv 5)<|pv 6) (YZ V4) Yp)
   (YY (Yx 8 Xo.nd<|VP DC hr<|pa2 (Ym (pv 0) rfl)<|pv 5)
   (YY (I0 (i:=2) Xo.nd rfl (Or.inl rfl) (pv 8) Pu)
   (YY (Y5 (PW.pt<|Um (Ys Xt (pv 8) (V5 rfl h2 r2)<|Y0 _)<|J4<|Ys Xt (pv 2) (V5 rfl h3 r3)<|Y0 _) (YZ V4) Yp)
   (YY (Vf hu (Ym (pv 0) rfl) (pv 4) (Yj<|pa3 (pv 5) (pv 6)<|pv 7) rfl)
   (YZ<|Vf hu (Ym (pv 0) rfl) (pv 4) (VP DO hr<|pa2 (Ym (pv 0) rfl)<|pv 5) rfl))))))))),?_⟩
 dsimp only[VY,Cx.nox,Cx.wish];show let a:=_;let b:=Yk _ a;let c:=_;let d:=Yk (VE _ c _) b;let e:=Yk _ d;let f:=Yk _ e;let g:=_;let h:=Yk (VE _ g _) f;let i:=Uq _ _ h;let j:=Yk _ i;let k:=_;Yk (VE _ k _) j _ _ _
 intros
 refine⟨dl,_,Y,.inl<|Z3<|bb.sm _ _ X,rfl,_,rfl,Y1 (λz=>by have z1:=Zt z;injection z1 with z2;omega) ?_⟩;refine OC ?_;exists dl,false,zs,Y,Z3<|bb.sm _ _ X
 let I:kM:=λi U t=>BB Hm t C CK D o d/\∃(M v:kJ)(n:Nat)(z3 z4 z5 z6 z7 z8:kP),BT t D M v o (ds.take i)/\n<=50*i/\U=[some (.ref D.t),some<|.ref dl,some<|.int (n:Nat),z3,z4,z5,z6,z7,z8]
 refine GX (tp:=false) (xs:=zs) I
  ⟨bb,[],[],0,_,_,_,_,_,_,bt,ZG _,rfl⟩ (λi U t _ z=>Z3<|z.1.sm _ _ X) ?_ ?_
 .rintro BB' RR i x U t r hx ⟨bbi,M,v,n',z3,z4,z5,z6,z7,z8,bti,n40,rfl⟩ hr'
  obtain⟨dd,G,T4⟩:=J2.get hx;rw[ZH]at G
  cases hc:ds[i]? with
  |none=>rw[hc]at G;cases G
  |some Z=>
   rw[hc]at G;cases G;have i8:=(ZF.mp hc).1;have hm:=ZJ hc;obtain⟨p3,pk,hk,R5,R4,T8⟩:=ho Z hm;refine up_in hr' _ λHR sR gR=>?_;have J:=bbi.same sR;have G3:=bti.same sR;obtain⟨ta,u,wv,rfl,T2,G1,R8⟩:=Pw<|T4.mono J.sm
   have nx:Z.1.1∉(ds.take i).map λy=>y.1.1:=by
    rw[qb];exact RB wd.nd (show(ds.map λy:Dd=>y.1.1)[i]?=some Z.1.1 by rw[ZH,hc];rfl)
   have nk:VC M (Sum.inr Z.1.1)=none:=Ri (by
    rw[bti.ke];intro z;obtain⟨q1,T3,e1⟩:=ZW.mp z;exact nx<|ZW.mpr ⟨q1,T3,Sum.inr.inj e1⟩)
   have lk:M.length<=8:=by
    have:=congrArg List.length bti.ke;rw[ZA,ZA,ZN]at this;omega
   have lr:=bti.ln;rw[ZN]at lr;refine⟨_,Z2 gR,Y,⟨_,Z2 T2,Y,?_⟩⟩;refine⟨_,Y,Y1 (by simp;omega) ?_⟩;refine⟨_,_,J.ins,vC _,D,M,o,d,Z.1.1,Z.1.2.2,Z.1.2.1,u,Y,J.ins,G3.td,J.so.mono J.sm,k6,nk,wd.wdS<|ZW.mpr ⟨Z,hm,rfl⟩,G1,p3,pk,R5,R4,hk,λH1 s1=>⟨_,rfl,Y1 (by simp) ?_⟩⟩;have O:=J.same s1;have T6:=G3.same s1;have S:=G1.mono s1;refine⟨C,_,_,_,O.ins,R.cl,R.so,Le _,D.so,o,c,d,Z.1.2.1,u,Y,O.so.mono O.sm,kk,S,pk,by omega,λH2 p=>?_⟩;have T7:=O.same p;have T5:=T6.same p;exists _,Y;refine⟨_,Y,Y1 (by simp;omega) ?_⟩;refine⟨_,Y,Y1 (by simp;omega) ?_⟩;refine⟨sl 3,λtt T1=>?_⟩;refine up_in T1 _ λH3 m g3=>?_;have O1:=T7.same m;have N:=T5.same m;have T0:Has H3 (.ref tt) (Us Z):=Yo g3<|Z4 ((S.mono p).mono m)<|Z4 Yz<|Z5<|((R8.mono s1).mono p).mono m;refine⟨C,_,_,_,O1.ins,R.cl,R.td,FG _,_,Je.k (k:=Sum.inr Z.1.1) N.td<|Yu<|by omega,?_⟩;have L:=O1.td<|.dK<|putK M (Sum.inr Z.1.1)<|.ref tt;obtain⟨H4,e4⟩:∃H4,H4=upd H3 D.td (.dK<|putK M (Sum.inr Z.1.1)<|.ref tt):=⟨_,rfl⟩;have R1:TK H3 H4:=by rw[e4];exact Ny N.td λys z=>nomatch z
   have R3:H4 D.rd=some (.dK v):=by rw[e4,Yg (Zs bb.ne)];exact N.rd
   rw[<-e4]at L;dsimp only[rI0,rI,UT];rw[<-e4];refine⟨C,_,_,_,L.ins,R.cl,R.so,Le _,D.so,o,c,d,Z.1.2.1,u,Y,L.so.mono L.sm,kk,B5 R1 _ (by unfold psD;unfold Dat.st;exact D9 _)<|(S.mono p).mono m,pk,p3,by omega,λl xs H5 s5 fl hl R7=>?_⟩;have M2:=L.same s5;refine⟨C,_,_,_,M2.ins,R.cl,R.rd,y9 _,_,Je.k (k:=Sum.inr Z.1.1) (s5 _ _ R3)<|Yu<|by omega,?_⟩;have G2:=N.put bb.ne nx e4 T0 s5 hl R7 rfl;rw[<-take_snoc hc]at G2;exact⟨M2.rd _,_,_,n'+V3 c Z.1.2.1,_,_,_,_,_,_,G2,by omega,Y⟩
 .rintro U t ⟨bbi,M,v,n',z3,z4,z5,z6,z7,z8,bti,n40,rfl⟩
  rw[Zg (by omega)]at bti;exact q t M v bbi bti
end
end K4
namespace L2
open PySem
def BD.mono(k:BD H C M A Z J d G)(e:Same H L):BD L C M A Z J d G:=⟨e _ _ k.ins,k.so.mono e,e _ _ k.td,k.ke,k.va.mono e,k.nd⟩
def Bm(n:b≠x)(h:H b=some o):Xs H x b=some o:=by unfold Xs;rw[Zq n];exact h
def KI.out(k:KI H R t L d)(N:H x=some (.ins C O [])):KI (Xs H x) R t L d:=by
 obtain⟨A,S,rfl,Z,M⟩:=k;have go:∀{b:Addr}{o:HO},H b=some o->o≠.ins C O []->Xs H x b=some o:=λ{b o} h n=>Bm (JQ h N n) h;have G:TL H (Xs H x):=⟨λb J h=>go h (by intro z;cases z),λb J h=>go h (by intro z;cases z)⟩;refine⟨A,S,Y,⟨go Z.ins λz=>?_,go Z.sh (λz=>by cases z),go Z.wo (λz=>by cases z),go Z.he (λz=>by cases z),go Z.pd (λz=>by cases z),go Z.tk (λz=>by cases z),go Z.pk (λz=>by cases z),Z.nd⟩,M.tl G⟩;injection z with _ _ z;unfold Wm at z;cases z
end L2
namespace K4
open PySem L2
section
variable{f g C CK N fI:Addr}
structure vP(x:Dd):Prop where
 ok:x.2.ok
 dep:x.2.dep<=12
 size:x.2.size<=100
def Jl:Yh ["self","number","name","parameters","kind","body","found","place"] ["self"] (Yd MR):=Y2
def zY(A:BA):(UI A).lookup ("names":Str)=none:=rfl
def Ox:Yh ["self","kinds","definitions"] ["self","kinds","definitions"] (Yd BX):=Y2
def y6(A:BA):(UI A).lookup ("take_heads":Str)=none:=rfl
def vD(A:BA):(UI A).lookup ("check_bodies":Str)=none:=rfl
end
end K4
namespace L2
open PySem
def Pn{K:W.Frag}(X:K.In h)(L:K.lookup a=some ⟨.type "dict",none,.dict Z n,#[]⟩)(M:W.KeysLit w.params Z.toList):h.MapOf (Y9 P w) a λk=>findBy V0 Z k:=by
 have keys:KeysOf (Y9 P w) Z:=λd hd=>by
  have⟨x,t,J,G⟩:=W.KeysLit.all M d (by simpa using hd);refine⟨Sum.inr x,?_,G⟩;show V0 (Sum.inr x) d.key=true;rw[J,Wl]
 exact⟨_,Z,n,X a _ L,⟨Y,Y,Y⟩,Y,keys,λk=>Y⟩
def Uz(Z:K.lookup a=some ⟨.type "dict",none,.dict J n,#[]⟩)(e:W.nsIn K a x=some (some v)):findBy V0 J (Sum.inr x)=some v:=by
 have q:=W.find_K Z e;exact q
end L2
namespace K4
open PySem L2
section
variable{f g C CK:Addr}
abbrev wps:kC:=["book","around","body"]
def RA(P:Program)(w:World)(K:W.Frag)(mg:Str->Option Value)(base:Heap)(C CK:Addr)(mR:Key->Option Value)(x:Str)(p:Bd->Prop):Prop:=∃g Z,mR (Sum.inr x)=some (.ref g)/\Ye P w K mg base CX0 3 g Z rps (Xk C CK p)/\W.keepIn K (.ref g)=true/\Binds K Z rps []
def RA.at(r:RA P w K J base C CK G x p)(L:Nat)(e:b.word=x)(h:p b):∃(g:Addr)(Z:FuncData)(p:Bd->Prop),G (Sum.inr b.word)=some (.ref g)/\Ye P w K J base CX0 (L+3) g Z rps (Xk C CK p)/\p b/\W.keepIn K (.ref g)=true/\Binds K Z rps []:=by
 obtain⟨g,Z,R,O,N,M⟩:=r;exact⟨g,Z,p,by rw[e];exact R,O.mono<|by omega,h,N,M⟩
theorem Ij(L:Nat)(S:RA P w K Z base C CK J "tag" λb=>∃t,b=.tag t)(I:RA P w K Z base C CK J "name" λb=>∃x,b=.name x)(A:RA P w K Z base C CK J "pair" λb=>∃e g,b=.pair e g)(F:RA P w K Z base C CK J "one" λb=>∃e,b=.one e)(E:RA P w K Z base C CK J "other" λb=>∃e,b=.other e)(D:RA P w K Z base C CK J "choose" λb=>∃e M G,b=.choose e M G/\1<=G.length)(B:RA P w K Z base C CK J "ask" λb=>∃N O,b=.ask N O)(T:RA P w K Z base C CK J "let" λb=>∃x k e g,b=.letb x k e g):
  ∀b:Bd,(∀e M G,b=.choose e M G->1<=G.length)->∃(g:Addr)(R:FuncData)(p:Bd->Prop),J (Sum.inr b.word)=some (.ref g)/\Ye P w K Z base CX0 (L+3) g R rps (Xk C CK p)/\p b/\W.keepIn K (.ref g)=true/\Binds K R rps []
 |.tag t,_=>S.at L rfl ⟨t,rfl⟩
 |.name x,_=>I.at L rfl ⟨x,rfl⟩
 |.pair e g,_=>A.at L rfl ⟨e,g,rfl⟩
 |.one e,_=>F.at L rfl ⟨e,rfl⟩
 |.other e,_=>E.at L rfl ⟨e,rfl⟩
 |.choose e M G,h=>D.at L rfl ⟨e,M,G,rfl,h e M G rfl⟩
 |.ask N O,_=>B.at L rfl ⟨N,O,rfl⟩
 |.letb x k e g,_=>T.at L rfl ⟨x,k,e,g,rfl⟩
theorem Qr(B:Blt Z)(J:Z "enumerate"=none)(y:BCl K C)(j:KCl K CK)(F:Fun K "kind_or_place" "kind_or_place" sKP f A)(S:Binds K A wps [])(M:Z "kind_or_place"=some (.ref f))(O:VI K C "kinds" d)(q:Ye P w K Z base CX0 3 d v ["self"] (JU C CK))(X:Binds K v ["self"] [])(N:VI K CK "names" c)(z:Ye P w K Z base CX0 3 c u ["self"] (U8 CK))(U:Binds K u ["self"] [])(t:Df P w K Z base 3 "parts" ["body"] Xl)(G:Z "RULES"=some (.ref r))(T:base.MapOf (Y9 P w) r k)(R:∀(L:Nat)(b:Bd),(∀e m I,b=.choose e m I->1<=I.length)->∃(g:Addr)(D:FuncData)(p:Bd->Prop),k (Sum.inr b.word)=some (.ref g)/\Ye P w K Z base CX0 (L+3) g D rps (Xk C CK p)/\p b/\W.keepIn K (.ref g)=true/\Binds K D rps []):
  ∀n,Ye P w K Z base CX0 (n+3) f A wps<|Tx C CK n
 |0=>.none λl H Q E h=>by
  obtain⟨_,_,_,_,_,_,_,_,_,_,_,_,_,_,_,_,_,_,_,hd,_⟩:=h;exact Zw _ hd
 |n+1=>(C0 (L:=n) B J y j F (Qr B J y j F S M O q X N z U t G T R n) S M O (q.mono<|by omega) X N (z.mono<|by omega) U (t.up<|by omega) G T<|R n).mono<|by omega
end
end K4
namespace L2
open PySem PySem.Spec PyProof.Rows
section
def Bv:fillsNumberSlot (.type "tuple") "mul"=pure false:=
 PySem.fillsNumberSlot_seq (id:="tuple.__mul__") (r:=some<|.builtin "tuple.__rmul__") F.slot_tuple_mul.lookup (by decide +kernel) F.slot_tuple_rmul.lookup (by decide +kernel)
def Bg:seqRepeat? (.type "tuple")=pure (some<|.builtin "tuple.__mul__"):=by
 unfold seqRepeat?;rw[PySem.seqSlot_of (T:="tuple") (name:="__mul__") (id:="tuple.__mul__") F.slot_tuple_mul.lookup (by decide +kernel),PySem.seqSlot_of (T:="tuple") (name:="__rmul__") (id:="tuple.__rmul__") F.slot_tuple_rmul.lookup (by decide +kernel)]
 rfl
def Il(a:Int)(t:Tok)(l:Addr)(o:Obj)(items:kI)(n:Nat)(L:o.cls=.type "tuple")(hd:o.data=.seq items n):
  Meets (Builtin.«int.__rmul__» ⟨[.int a t,.ref l],[]⟩) (λ_ R s=>s.heap.get? l=some o/\R (.ok<|.ret Value.notImplemented) s):=
 .of_wp λG w A R s h=>by
  obtain⟨J,dict,data,Z⟩:=o;obtain rfl:J=.type "tuple":=L;obtain rfl:data=.seq items n:=hd;obtain⟨O,g,d,M,N⟩:=s;obtain⟨T,h⟩:=h
  wp_walk
  exact⟨_,Y,h⟩
def Pl(k:Nat)(t:Tok)(l:Addr)(o:Obj)(x:Value)(n:Nat)(S:k<=100)(O:o.cls=.type "tuple")(hd:o.data=.seq #[x] n):
  Meets (Builtin.«tuple.__mul__» ⟨[.ref l,.int k t],[]⟩) (λ_ R s=>s.heap.get? l=some o/\if k=1 then R (.ok<|.ret<|.ref l) s else R (.ok<|.ret<|.ref s.heap.objs.size) {s with heap:=s.heap.push {cls:=.type "tuple",data:=.seq (List.replicate k x).toArray}}):=
 .of_wp λL w A R s h=>by
  obtain⟨Z,dict,data,J⟩:=o;obtain rfl:Z=.type "tuple":=O;obtain rfl:data=.seq #[x] n:=hd;obtain⟨I,g,d,E,F⟩:=s;obtain⟨G,h⟩:=h
  wp_walk
  rw[Zq (by simp only[Bool.or_eq_true,decide_eq_true_eq];omega)];dsimp only
  by_cases k1:k=1
  .rw [Zp k1]at h
   have e:(((k:Nat):Int)==1)=true:=by simp[k1]
   wp_walk using wpAny_loadPart' G
   exact⟨_,Y,h⟩
  .rw [Zq k1]at h
   have e:(((k:Nat):Int)==1)=false:=by
    rw[beq_eq_false_iff_ne];omega
   by_cases k0:k=0
   .subst k0
    wp_walk using wpAny_loadPart' G
    exact⟨_,Y,h⟩
   .have e2:decide (((k:Nat):Int)<=0)=false:=Zy<|by omega
    have D:¬(((#[x]:kI).size:Nat):Int)*(k:Int) > (2 ^ 63-1) / 8:=by show ¬((1:Nat):Int)*(k:Int) > (2 ^ 63-1) / 8;omega
    have B:Builtin.Tuple.tupleTooMany ((((#[x]:kI).size:Nat):Int)*(k:Int))=false:=by show Builtin.Tuple.tupleTooMany (((1:Nat):Int)*(k:Int))=false;unfold Builtin.Tuple.tupleTooMany;rw[ql];exact Zy<|by omega
    have T:List.foldl (λN M=>N++ M) #[] (List.replicate k #[x])=(List.replicate k x).toArray:=by
     have:=foldl_rep [x] k [];rw[List.nil_append]at this;rw[show(#[x]:kI)=[x].toArray from rfl];refine this.trans ?_
     congr 1
     simp
    wp_walk using wpAny_loadPart' G
    rw[Zq D,Zq (by rw[B];exact Zi),vV,T];unfold Builtin.Tuple.tupleExact;refine Zl<|vS (Zm ⟨_,rfl,h⟩) ?_;simp only[sizeOk,ZO,jt,ql];omega
def Ce:R2:=λx y H Q=>∃(a:Addr)(k:Nat)(z:V),x=.ref a/\y=.int (k:Nat)/\H a=some (.tup [z])/\k<=100/\∀p Z,Same H Z->Z p=some (.tup<|List.replicate k z)->Q (.ref p) Z
def EB:OpR X (binaryOp .Mult) Ce:=by
 intro J s U H x y v u Q I O N h;obtain⟨a,k,z,rfl,rfl,L,G,q⟩:=h;cases O;obtain⟨t,rfl⟩:=N;obtain⟨_,B,r,o,e,hd,Z,n,hdat⟩:=I.hok a _ L;obtain⟨b,rfl,R⟩:=vals1 r;refine wpAny_binaryOp_repeat_ref (T:="tuple") (U:="int") (by decide) ⟨_,e,Z⟩ (λM=>typeIs_int M k t) Bv F.fills_int_mul F.slot_int_rmul Bg F.slot_int_index.lookup
  (qe F.slot_int_rmul (typeIs_int s k t) F.entry_int_rmul (F.args_int_rmul_2 _ _) (Il k t a o #[b] n Z hdat)
   ⟨e,rfl,⟨_,e,Z⟩,qe F.slot_tuple_mul ⟨_,e,Z⟩ F.entry_tuple_mul (F.args_tuple_mul_2 _ _) (Pl k t a o b n G Z hdat) ⟨e,?_⟩⟩)
 by_cases k1:k=1
 .rw [Zp k1]
  exact⟨.ref a,H,I,Y,q a H (Z8 _) (by rw[k1];exact L)⟩
 .rw [Zq k1]
  refine⟨.ref s.heap.objs.size,_,I.laid (t':=s.toks) (o:=.tup<|List.replicate k z) (λb D q=>ZE _ q) (ZG _) ⟨?_,List.replicate k b,?_,Wu.new _ _⟩,rfl,q _ _ (Yq (I.hok.fresh<|ZG _) _) Yf⟩
  .rw [jt,ql];omega
  .clear k1 G q
   induction k with
   |zero=>exact .nil
   |succ k ih=>exact .cons R ih
end
end L2
namespace L2
open PySem
def Fun.oi{K:W.Frag}{st:Stmt}(F:Fun K x qual st f T)(S:Yh N O (Yd st))(J:∀(L:Value)(A:Around)(Z:List Env)(s:Shared)(H:Hp)(G:kL)(Q:VK)(E:XK),Vr k (A.deeper<|PyProof.Rows.envOfC qual (Yd st) s.heap.objs.size f L)->M G H Q E->
   ∃t,PSs (VY CX0 P w K R base N qual (Yd st) f L A Z s H E).nox (Vp st) t/\t {nx:=λ_ B=>Q .non B,rt:=Q} (start N G) H)(len:∀G H Q E,M G H Q E->G.length=O.length:=by intro G H Q E h;cases h;rfl):Ye P w K R base CX0 (k+1) f T O M:=F.ok S len J
def JI(h:n<=10000):n<sizeLine:=j3 h<|by decide
structure Itx(J:It)(H:Hp)(xs:List V):Prop where
 go:∀i,i<xs.length->J.go i H
 stop:J.stop xs.length H
 yld:∀i x H',J.yld i H x H'->H'=H/\xs[i]?=some x
def itl(h:SqL K H a Z):Itx (Itl K a) H Z:=⟨λi J=>⟨Z,Z[i],h,ZD J⟩,⟨Z,h,ZG _⟩,λi x G y=>⟨y.1,y.2 Z h⟩⟩
def itt(h:SqT K H a Z):Itx (Itt K a) H Z:=⟨λi J=>⟨Z,Z[i],h,ZD J⟩,⟨Z,h,ZG _⟩,λi x G y=>⟨y.1,y.2 Z h⟩⟩
def getD{α:Type}{J:List α}{D:α->Dat}{H:Hp}{Z:kL}{i:Nat}{x:V}(h:HasL H Z (J.map D))(e:Z[i]?=some x):∃u,J[i]?=some u/\Has H x (D u):=by
 obtain⟨d,G,M⟩:=h.get e;rw[ZH]at G;obtain⟨u,L,rfl⟩:=Zj.mp G;exact⟨u,L,M⟩
def Nd{α:Type}{us:List α}{D E:α->Dat}(L:Itx J H M)(O:HasL H M (us.map D))(U:us.length<=10000)(I:∀u x (R:V->Hp->Prop),u∈us->Has H x (D u)->(∀v,Has H v (E u)->R v H)->g x s0 H λB S=>te B S R)(hd:∀Z p G,H p=none->Same H G->G p=some (.lst Z)->HasL G Z (us.map E)->Q (.ref p) G):Tn J g te s0 Q H:=by
 have N:=O.length;rw[ZA]at N;refine Va M.length (JI<|by omega) (λi Z G=>G=H/\Z.length=i/\HasL H Z ((us.take i).map E)) ⟨rfl,rfl,Z6⟩ (λi Z G z=>z.2.1) ?_ ?_ ?_ ?_
 .rintro i Z G hi ⟨rfl,_⟩
  exact L.go i hi
 .rintro Z G ⟨rfl,_⟩
  exact L.stop
 .rintro i Z G x H'' R hi ⟨rfl,z2,z3⟩ yl rT
  obtain⟨rfl,y⟩:=L.yld i x H'' yl;obtain⟨u,T,A⟩:=getD O y;refine I u x R (ZJ T) A λv F=>rT _ _ ⟨Y,by rw[ZL,z2];rfl,?_⟩;rw[take_snoc T,ZK];exact Z7 z3<|Z5 F
 .rintro Z G p ⟨rfl,z2,z3⟩ hp
  rw[Zg (qg N.symm)]at z3;exact hd Z p _ hp (Yq hp _) Yf<|z3.mono<|Yq hp _
def Td{α:Type}{us:List α}{D F:α->Dat}(O:∀Z,Same H Z->Itx J Z T)(A:HasL H T (us.map D))(P:us.length<=10000)(U:∀u x N (R:V->Hp->Prop),u∈us->Same H N->Has N x (D u)->(∀v M,Same N M->Has M v (F u)->R v M)->g x s0 N λL X=>te L X R)(hd:∀G q Z,H q=none->Same H Z->Z q=some (.lst G)->HasL Z G (us.map F)->Q (.ref q) Z):Tn J g te s0 Q H:=by
 have E:=A.length;rw[ZA]at E;refine Va T.length (JI<|by omega) (λi G Z=>Same H Z/\G.length=i/\HasL Z G ((us.take i).map F)) ⟨Z8 _,rfl,Z6⟩ (λi G Z z=>z.2.1) ?_ ?_ ?_ ?_
 .rintro i G Z hi ⟨s,_⟩
  exact(O Z s).go i hi
 .rintro G Z ⟨s,_⟩
  exact(O Z s).stop
 .rintro i G Z x H'' R hi ⟨s,z2,z3⟩ yl rT
  obtain⟨rfl,y⟩:=(O Z s).yld i x H'' yl;obtain⟨u,I,S⟩:=getD A y;refine U u x _ R (ZJ I) s (S.mono s) λv M B C=>rT _ _ ⟨s.trans B,by rw[ZL,z2];rfl,?_⟩;rw[take_snoc I,ZK];exact Z7 (z3.mono B)<|Z5 C
 .rintro G Z q ⟨s,z2,z3⟩ hq
  rw[Zg (qg E.symm)]at z3;have L:=Yq hq<|.lst G;exact hd G q _ (s.free hq) (s.trans L) Yf<|z3.mono L
def UH{K:W.Frag}{Q:VK}(O:Has H x (Jt Z))(L:Has H y (Jt J))(n:J≠[])(l:Z.length+J.length<=1000)(q:∀u G,Same H G->Has G u (Jt<|Z++ J)->Q u G):J3 K x y H Q\/J1 K x y H Q:=by
 obtain⟨a,rfl,N⟩:=Ji O;obtain⟨b,rfl,M⟩:=Ji L
 cases Z with
 |nil=>exact .inl ⟨a,b,_,Y,Y,Z2 N,Z2 M,q _ H (Z8 _) L⟩
 |cons w Z=>
  refine .inr ⟨a,b,_,_,Y,Y,Z2 N,Z2 M,(by simp),?_,(λz=>Zr (List.map_eq_nil_iff.mp z) n),λ_ p R=>?_⟩
  .rw [ZA,ZA];exact Zh<|Yu l
  .exact q _ _ (Yq R _) (JL<|by rw[Yf,ZK])
def UD(h:H a=some (.tup [.int k])):Has H (.ref a) (Jt [k]):=JL h
end L2
namespace K4
open PySem L2
section
def Og:Yh ["worth","way","part","number"] ["worth","way"] (Yd MK):=Y2
inductive SPO(H:Hp)(Q:VK):List V->Prop
 |mk (v y:V) (wo:W) (ws:List Int) (hv:Has H v wo.dat) (hy:Has H y (Jt ws)) (hw:Way ws) (q:∀u,Has H u (wo.part ws).dat->Q u H):SPO H Q [v,y]
def Sd:Sp:=λZ H Q _=>SPO H Q Z
def Cu(B:Blt R)(F:Fun K "part_of" "part_of" MK f X):Ye P w K R base CX0 (n+1) f X ["worth","way"] Sd:=by
 refine F.oi Og λm A L s H d Q E l h=>?_;obtain⟨v,y,N,G,I,T,D,q⟩:=h;obtain⟨a,rfl,O⟩:=Ji T;refine⟨_,YY (Yx 2 Og.nd<|pv 0) (YY (V9 Zv rfl (J5<|pv 1) (Yl 3 Og.nd)
  (YY (Y5 (JN<|Vv<|WW rfl B.isi rfl B.tuple JC (pv 2)) (YZ<|Yi Vi) Yp)<|YZ<|Yx 2 Og.nd<|Yr Yt (pv 2) (pv 3) λ_ _=>rfl))
  (YZ<|Yi<|pv 2)),?_⟩
 dsimp only[VY,Cx.nox,Cx.wish];exists ⟨_,Z2 O⟩;refine EV (xs:=G.map V.int) (λi U J=>J=H/\∃u z Z,U=[some v,some<|.ref a,some u,z]/\Has H u Z.dat/\Z.part (G.drop i)=N.part G) ⟨rfl,v,none,N,rfl,I,rfl⟩ ?_ ?_ ?_
 .rintro i U J _ ⟨rfl,_⟩
  exact Z2 O
 .rintro i x U J hx ⟨rfl,u,z,Z,rfl,hu,e⟩
  obtain⟨n,r,rfl,M,j,C⟩:=RL hx;have t:=Mh (K:=K) hu;exists _,_,_,_,Y,t,Mb K _ (by simp),_,Y
  cases Z with
  |non=>
   refine VF (by simp[isD,tyD,W.dat])<|q _ ?_;rw[<-e,M];unfold W.part;exact GS
  |tag y=>
   refine VF (by simp[isD,tyD,W.dat])<|q _ ?_;rw[<-e,M];unfold W.part;exact GS
  |pair b c=>
   refine Y1 (by simp[isD,tyD,W.dat]) ?_;obtain⟨p,k,g,rfl,S,h1,o⟩:=X0 hu;exists _,_,Z2 S,PL<|D n C,rfl,_,_,(if n=0 then b else c),rfl,?_
   .split <;> assumption
   .rw [<-e,M,j]
    conv=>rhs;unfold W.part
    split <;> rfl
 .rintro U J ⟨rfl,u,z,Z,rfl,hu,e⟩
  refine q _ ?_;rw[ZA,List.drop_length]at e;rw[<-e];cases Z <;> (unfold W.part;exact hu)
end
end K4
namespace L2
open PySem
end L2
namespace K4
open PySem L2
end K4
namespace L2
open PySem
theorem L8:∀{bs:List Bool}{Z:kL},HasL H Z (bs.map Dat.bl)->Z=bs.map V.bl
 |[],[],_=>rfl
 |[],_::_,h=>by unfold HasL at h;exact h.elim
 |_::_,[],h=>by rw[ZV]at h;unfold HasL at h;exact h.elim
 |b::bs,x::xs,h=>by
  rw[ZV]at h;unfold HasL at h;obtain⟨J,G⟩:=h;unfold Has at J;rw[J,L8 G];rfl
end L2
namespace K4
open PySem L2
section
def Jg:bootBuiltins "list"=some (.type "list"):=by decide +kernel
end
end K4
namespace L2
open PySem
end L2
namespace K4
open PySem L2
end K4
namespace L2
open PySem
end L2
namespace K4
open PySem L2
end K4
namespace L2
open PySem
end L2
namespace K4
open PySem L2
end K4
namespace L2
open PySem
def okW(ks:kS):W->Str->Prop
 |.non,_=>True
 |.tag x,y=>∃ts,Ve ks y=some (.tags ts)/\x∈ts
 |.pair u v,y=>∃a b,Ve ks y=some (.pair a b)/\okW ks u a/\okW ks v b
end L2
namespace K4
open PySem L2
section
variable{CK:Addr}
def An(A:KA6):(Wm A).lookup ("is_worth":Str)=none:=rfl
abbrev iwp:kC:=["self","kind","thing"]
def Qc:Yh ["self","kind","thing","shape"] iwp (Yd Xp):=Y2
inductive zp(CK:Addr)(n:Nat)(H:Hp)(Q:VK):List V->Prop
 |mk (t:Addr) (y:Str) (v:V) (ks:List (Str×Shp)) (d:Str->Nat) (wo:W) (ki:KI H CK t ks d) (hv:Has H v wo.dat) (ok:okW ks wo y) (dn:wo.dep<n) (q:Q (.bl true) H):zp CK n H Q [.ref t,.str y,v]
def NA(CK:Addr)(n:Nat):Sp:=λZ H Q _=>zp CK n H Q Z
def AH(B:Blt r)(T:KCl K CK)(F:Fun K "is_worth" "Kinds.is_worth" Xp f g)(G:Ye P w K r base CX0 L f g iwp (NA CK n))(bG:Binds K g iwp [])(l:VI K CK "is_worth" f):Ye P w K r base CX0 (L+1) f g iwp (NA CK<|n+1):=by
 refine F.oi Qc λJ2 A R s H vs Q E C h=>?_;obtain⟨t,y,v,o,d,wo,ki,N,O,dn,q⟩:=h;have hu:=JA C;refine⟨_,YY (Y5 (Ys Wb (pv 2) Vi<|Y0 _) (YZ<|Yi<|XN) Yp)
  (YY (Yx 3 Qc.nd<|Vl hu (Ym (pv 0) rfl) (pv 1) λ_ _=>rfl)
  (YY (Y5 (Ys Vc (Yr Yt (pv 3)<|Ya) Yw<|Y0 _) (YZ<|Yi<|WX (WW rfl B.isi rfl B.str Wr (pv 2))<|Xb<|JF XD (pv 2) (Yr Yt (pv 3)<|Ya) rfl) Yp)
  (YY (Y5 (PW.pt<|Um (JN<|Vv<|WW rfl B.isi rfl B.tuple JC (pv 2))<|J4<|Ys UR (VB Y8 rfl B.len Zu (pa1<|pv 2)) Ya<|Y0 _) (YZ<|Yi<|XN) Yp)
  (YZ<|Yi<|WX (Y4 (pv 0) T.cl l G C bG .nil Y3<|pa2 (Yr Yt (pv 3)<|Ya)<|Yr Yt (pv 2)<|Ya)<|Xb<|Y4 (pv 0) T.cl l G C bG .nil Y3<|pa2 (Yr Yt (pv 3)<|Ya)<|Yr Yt (pv 2)<|Ya)))),?_⟩
 dsimp only[VY,Cx.nox,Cx.wish];show let T0:=_;let T1:=_;let T2:=Yk (VE _ T1 _) T0;let T3:=_;let T4:=Yk (VE _ T3 _) T2;let T5:=Yk _ T4;let T6:=_;Yk (VE _ T6 _) T5 _ _ _
 intros
 have M:=ki;obtain⟨A',S,rfl,Z,i⟩:=ki
 cases wo with
 |non=>
  have e:v=.non:=by unfold W.dat Has at N;exact N
  subst e;exact⟨Y,_,Y,VF Y q⟩
 |tag x=>
  have e:v=.str x:=has_str N;subst e;unfold okW at O;obtain⟨ts,U,hm⟩:=O;refine⟨Y,_,Y,Y1 (by simp) ?_⟩;obtain⟨v0,m,z⟩:=WN Z i U;obtain⟨b,c,rfl,J,I⟩:=Xz z;exists CK,_,_,_,Z.ins,T.cl,T.sh,Mq _,_,m;refine⟨_,.str "tags",Z2 J,VD (j:=0) Y,Y,_,Y,VF (by decide +kernel) ?_⟩;refine⟨_,_,_,_,Y,.str x,G9 K "str",_,Y,VF Y ?_⟩;exists _,.ref c,Z2 J,VD (j:=1) Y,c,_,Y,.inr<|Z2 I,rfl,Jx _;rw[UU x ts,decide_eq_true hm];exact q
 |pair u k=>
  have D:=N;obtain⟨p,x1,x2,rfl,X,h1,h2⟩:=X0 N;unfold okW at O;obtain⟨a,b,U,o1,o2⟩:=O;have da:u.dep<n:=by unfold W.dep at dn;omega
  have db:k.dep<n:=by unfold W.dep at dn;omega
  refine⟨Y,_,Y,Y1 (by simp) ?_⟩;obtain⟨v0,m,z⟩:=WN Z i U;obtain⟨b',rfl,J⟩:=Ud z;exists CK,_,_,_,Z.ins,T.cl,T.sh,Mq _,_,m;refine⟨_,.str "pair",Z2 J,VD (j:=0) Y,Y,_,Y,Y1 (by decide +kernel) ?_⟩;refine⟨_,_,_,_,Y,Mh (K:=K) D,Mb K _ (by simp),_,Y,Y1 (by simp[isD,tyD,W.dat]) ?_⟩;refine⟨p,_,Y,.inr<|Z2 X,rfl,_,rfl,Y1 (by simp) ?_⟩;exists _,_,Z.ins,An _,_,_,Z2 J,VD (j:=1) Y,_,_,Z2 X,VD (j:=0) Y;refine⟨_,a,x1,o,d,u,M,h1,o1,da,_,Y,VF Y ?_⟩;exists _,_,Z.ins,An _,_,_,Z2 J,VD (j:=2) Y,_,_,Z2 X,VD (j:=1) Y;exact⟨_,b,x2,o,d,k,M,h2,o2,db,q⟩
theorem LJ(B:Blt L)(T:KCl K CK)(F:Fun K "is_worth" "Kinds.is_worth" Xp f J)(G:Binds K J iwp [])(Z:VI K CK "is_worth" f):∀n:Nat,Ye P w K L base CX0 (n+1) f J iwp<|NA CK n
 |0=>.none λO H Q E h=>by
  obtain⟨t,y,v,D,d,N,A,I,R,M,q⟩:=h;exact Zr M<|by omega
 |n+1=>AH B T F (LJ B T F G Z n) G Z
end
end K4
namespace L2
open PySem
def FO{K:W.Frag}(T:∀Z,Same H Z->Sq K t1 Z a L)(O:∀Z,Same H Z->Sq K t2 Z b G)(C:L.length=n)(U:G.length=n)(X:n<=100)(A:∀(i:Nat) x y r N (R:V->Hp->Prop),L[i]?=some x->G[i]?=some y->Same H N->N r=some (.tup [x,y])->R (.bl true) N->g (.ref r) s0 N λM S=>te M S R)(hd:∀p Z,H p=none->Same H Z->Z p=some (.lst<|(List.replicate n true).map V.bl)->Q (.ref p) Z):Tn (Itz K t1 a t2 b) g te s0 Q H:=by
 refine Va n (JI<|by omega) (λi J Z=>Same H Z/\J.length=i/\J=(List.replicate i true).map V.bl) ⟨Z8 _,rfl,rfl⟩ (λi J Z z=>z.2.1) ?_ ?_ ?_ ?_
 .rintro i J Z hi ⟨s,_⟩
  exact⟨L,G,L[i]'(by omega),G[i]'(by omega),T Z s,O Z s,ZD _,ZD _⟩
 .rintro J Z ⟨s,_⟩
  exact⟨L,G,T Z s,O Z s,.inr<|by omega⟩
 .rintro i J Z x H'' R hi ⟨s,z2,z3⟩ yl rT
  obtain⟨r,D,B,rfl,I,rfl,F,E⟩:=yl;have M:=Yq I<|.tup [D,B];refine A i D B r _ R (F L<|T Z s) (E G<|O Z s) (s.trans M) Yf<|rT _ _ ⟨s.trans M,by rw[ZL,z2];rfl,?_⟩;rw[z3,jz,ZK];rfl
 .rintro J Z p ⟨s,z2,z3⟩ hp
  have M:=Yq hp<|.lst J;exact hd p _ (s.free hp) (s.trans M)<|by rw[Yf,z3]
def Py{K:W.Frag}:∀x U H (Q Z:kO),(∀a b,Q a b->Z a b)->NY K 2 (Jc (Vo i)<|Jc (Vo j) TV) x U H Q->NY K 2 (Jc (Vo i)<|Jc (Vo j) TV) x U H Z:=λx U H Q Z h q=>by
 match x,q with
 |.ref a,q=>
  obtain⟨J,L,G,q⟩:=q;exists J,L,G
  match J,G,q with
  |[u,v],_,q=>exact h _ _ q
def zV{K:W.Frag}:GK 3 (NY K 2<|Jc (NY K 2<|Jc (Vo 0)<|Jc (Vo 1) TV)<|Jc (Vo 2) TV):=
 B7 (XG (B7 (XG (Vm (i:=0)<|by decide) (XG (Vm (i:=1)<|by decide) B8 (λ_ _ _ _ _ h z=>h _ _ z) (λx _ _ _ _ h z=>by
  match x,z with
  |[],z=>exact h _ _ z)) (λ_ _ _ _ _ h z=>h _ _ z) (λx _ _ _ _ h z=>by
  match x,z with
  |[v],z=>exact h _ _ z))) (XG (Vm (i:=2)<|by decide) B8 (λ_ _ _ _ _ h z=>h _ _ z) (λx _ _ _ _ h z=>by
  match x,z with
  |[],z=>exact h _ _ z)) Py (λx _ _ _ _ h z=>by
  match x,z with
  |[v],z=>exact h _ _ z))
end L2
namespace K4
open PySem L2
section
variable{C CK:Addr}
def Ov:Yh ["self","F"] ["self","F"] (Yd BZ):=Y2
inductive OJ(C CK:Addr)(H:Hp)(Q:VK):List V->Prop
 |mk (t:Addr) (ks:List (Str×Shp)) (d:Str->Nat) (ds:List Dd) (x:Dd) (b:BI H C CK t ks d ds) (hx:x∈ds) (q:∀v,Has H v x.2.dat->Q v H):OJ C CK H Q [.ref t,.str x.1.1]
def Rz(C CK:Addr):Sp:=λZ H Q _=>OJ C CK H Q Z
def Kt(T:BCl K C)(F:Fun K "body_of" "Book.body_of" BZ f S)(m:VI K C "told_of" g)(G:Ye P w K L base CX0 n g I ["self","F"] (Ge C CK))(j:Binds K I ["self","F"] []):Ye P w K L base CX0 (n+1) f S ["self","F"] (Rz C CK):=by
 refine F.oi Ov λX A Z s H k Q E B h=>?_;obtain⟨t,M,d,U,x,b,N,q⟩:=h;obtain⟨z,p,rfl,y⟩:=id b;exists _,YZ<|Yi<|Yr Yt (Y4 (pv 0) T.cl m G B j .nil Y3<|pa1<|pv 1) Ya;refine⟨_,_,y.ins,Aj _,z.t,M,d,U,x,Y,b,N,λv R=>?_⟩;obtain⟨a,u,J,rfl,D,_,O⟩:=Xy R;exact⟨_,_,Z2 D,Y,q J O⟩
def yU:Yh ["kinds","parameters","worths"] ["kinds","parameters","worths"] (Yd XZ):=Y2
def Bw:List.Nodup [("name":Str),"kind","worth","kinds"]:=by decide +kernel
inductive SRO(CK:Addr)(H:Hp)(Q:VK):List V->Prop
 |mk (so a b:Addr) (us xs:List V) (ks:List (Str×Shp)) (d:Str->Nat) (ps:List (Str×Str)) (wos:List W) (ki:KI H CK so ks d) (ha:H a=some (.tup us)) (hu:HasL H us (ps.map λp=>.tup [.str p.1,.str p.2])) (hb:H b=some (.tup xs)) (hx:HasL H xs (wos.map W.dat))
  (ln:wos.length=ps.length) (l3:ps.length<=3) (ok:∀(i:Nat)(p:Str×Str)(u:W),ps[i]?=some p->wos[i]?=some u->okW ks u p.2/\u.dep<3) (q:∀H',Same H H'->Q (.bl true) H'):SRO CK H Q [.ref so,.ref a,.ref b]
def Sa(CK:Addr):Sp:=λZ H Q _=>SRO CK H Q Z
def Cs(B:Blt z)(T:KCl K CK)(F:Fun K "is_row_over" "is_row_over" XZ f fd)(m:VI K CK "is_worth" g)(G:Ye P w K z base CX0 n g gd iwp (NA CK 3))(bG:Binds K gd iwp []):Ye P w K z base CX0 (n+1) f fd ["kinds","parameters","worths"] (Sa CK):=by
 refine F.oi yU λG1 A Z s H vs Q E hr h=>?_;obtain⟨so,a,b,us,xs,ks,d,j,J2,c,U,v,I,u,ln,l3,ok,q⟩:=h;refine⟨_,YY (Y5 (Ys UR (VB Y8 Y B.len Zu (pa1<|pv 2)) (VB Y8 rfl B.len Zu (pa1<|pv 1))<|Y0 _) (YZ<|Yi<|XN) Yp)
  (YZ<|Yi<|VB (Nk rfl) rfl B.all RV (pa1<|V6 ["name","kind","worth"] [0] (S8 rfl B.zip (pa2 (pv 1)<|pv 2)) zV (λcl C l s H=>Vg (n:=2) rfl (Yn (Vg (n:=2) rfl (Yn (Yl 0 Bw rfl (Or.inl rfl) (Or.inr rfl))<|Yn (Yl 1 Bw rfl (Or.inl rfl) (Or.inr rfl)) VJ))<|Yn (Yl 2 Bw rfl (Or.inl rfl) (Or.inr rfl)) VJ)) λcl C l s H=>Y4 (pv 3) T.cl m G hr bG .nil Y3<|pa2 (pv 1)<|pv 2)),?_⟩
 dsimp only[VY,Cx.nox,Cx.wish];show let T0:=_;let T1:=_;Yk (VE _ T1 _) T0 _ _ _
 intros
 have J:=v.length;have k:=u.length;rw[ZA]at J k;refine⟨b,_,Y,.inr<|Z2 I,a,_,rfl,.inr<|Z2 U,rfl,_,rfl,Y1 (by simp[J,k,ln]) ?_⟩;exists a,b,true,true,us,xs,Y,Z2 U,Z2 I;refine FO (n:=j.length) (λo s=>Z2<|s _ _ U) (λo s=>Z2<|s _ _ I) J (by omega) (by omega) (λi x y r H1 R hi hj s1 M hR=>?_) λp o l s1 hp=>?_
 .obtain ⟨pr,hpr,hd1⟩:=getD v hi
  obtain⟨X,L,D⟩:=getD u hj;obtain⟨t,ys,rfl,ht,hl⟩:=Yv hd1;obtain⟨x1,r1,rfl,e1,O⟩:=Yc hl;obtain⟨x2,r2,rfl,e2,N⟩:=Yc O;obtain rfl:=VA N;obtain rfl:=has_str e1;obtain rfl:=has_str e2;obtain⟨o1,o2⟩:=ok i pr X hpr L;obtain⟨A',S,eA,kd,kr⟩:=id<|c.mono s1;subst eA;exists _,Z2 M,Y,_,Z2<|s1 _ _ ht,rfl;exact⟨_,_,kd.ins,An _,_,pr.2,y,ks,d,X,c.mono s1,D.mono s1,o1,o2,hR⟩
 .refine ⟨p,_,rfl,Z3 hp,?_⟩
  have e:(List.replicate j.length true).all id=true:=by simp
  rw[e];exact q _ s1
end
section
variable{C CK:Addr}
abbrev bfw:kC:=["book","F","worths"]
def vA(A:BA):(UI A).lookup ("kinds":Str)=none:=rfl
def zX(A:BA):(UI A).lookup ("parameters":Str)=none:=rfl
def yY:Yh bfw bfw (Yd WU):=Y2
def ye:Yh bfw bfw (Yd UZ):=Y2
def yd:Yh ["most","highest"] ["most","highest"] (Yd Xa):=Y2
inductive SIA(C CK:Addr)(r:V)(H:Hp)(Q:VK):List V->Prop
 |mk (t b:Addr) (xs:List V) (ks:List (Str×Shp)) (d:Str->Nat) (ds:List Dd) (x:Dd) (wos:List W) (bi:BI H C CK t ks d ds) (hx:x∈ds) (hb:H b=some (.tup xs)) (hw:HasL H xs (wos.map W.dat))
  (ln:wos.length=x.1.2.1.length) (l3:x.1.2.1.length<=3) (ok:∀(i:Nat)(p:Str×Str)(u:W),x.1.2.1[i]?=some p->wos[i]?=some u->okW ks u p.2/\u.dep<3) (q:∀H',Same H H'->Q r H'):SIA C CK r H Q [.ref t,.str x.1.1,.ref b]
def N4(C CK:Addr)(r:V):Sp:=λZ H Q _=>SIA C CK r H Q Z
def C1(B:BCl K C)(F:Fun K "is_asking" "is_asking" WU f fd)(p:VI K C "names" g1)(G1:Ye P w K G base CX0 n g1 d1 ["self"] (Uu C CK))(b1:Binds K d1 ["self"] [])(k:VI K C "kinds" g2)(G2:Ye P w K G base CX0 n g2 d2 ["self"] (JU C CK))(b2:Binds K d2 ["self"] [])(g:VI K C "parameters" g3)(G3:Ye P w K G base CX0 n g3 d3 ["self","F"] (Gf C CK))(b3:Binds K d3 ["self","F"] [])(DR:Df P w K G base n "is_row_over" ["kinds","parameters","worths"] (Sa CK)):Ye P w K G base CX0 (n+1) f fd bfw (N4 C CK<|.bl true):=by
 refine F.oi yY λJ2 A O s H vs Q E M h=>?_;obtain⟨t,b,X,L,d,Z,x,N,R,I,i,e,c,u,m,q⟩:=h;exists _,YZ<|Yi<|WX (JF XD (pv 1) (Vj (pv 0) B.cl p G1 M b1 .nil Y3) rfl)<|Xb<|VP DR M<|pa3 (Vj (pv 0) B.cl k G2 M b2 .nil Y3) (Y4 (pv 0) B.cl g G3 M b3 .nil Y3<|pa1<|pv 1)<|pv 2;dsimp only[VY,Cx.nox,Cx.wish];obtain⟨D,kv,rfl,T⟩:=id R;refine⟨_,_,T.ins,zY _,D.t,L,d,Z,Y,R,λl H1 s1 fl U=>?_⟩;have el:(Z.map λx=>V.str x.1.1)=(Z.map λx=>x.1.1).map V.str:=by rw[ve];rfl
 rw[el]at U;exists l,_,Y,.inl<|Z3 U,rfl,Jx _;rw[UU,decide_eq_true (ZW.mpr ⟨x,I,rfl⟩)];refine⟨_,Y,VF Y ?_⟩;have J:=R.mono s1;refine⟨_,_,s1 _ _ T.ins,vA _,D.t,L,d,Z,Y,J,λy r=>?_⟩;refine⟨_,_,s1 _ _ T.ins,zX _,D.t,L,d,Z,x,Y,J,I,λv S=>?_⟩;unfold psD at S;obtain⟨a,j,rfl,ha,o⟩:=Yv S;exact⟨y,a,b,j,X,L,d,x.1.2.1,N,r,ha,o,s1 _ _ i,e.mono s1,c,u,m,λH2 z=>q _<|s1.trans z⟩
def C6(F:Fun K "check_asking" "check_asking" UZ f S)(z:Df P w K M base n "is_asking" bfw (N4 C CK<|.bl true)):Ye P w K M base CX0 (n+1) f S bfw (N4 C CK .non):=by
 refine F.oi ye λX A J s H m Q E D h=>?_;obtain⟨t,b,G,R,d,U,x,Z,j,T,I,B,N,O,L,q⟩:=h;exists _,YZ<|Y5 (JN<|Vv<|VP z D<|pa3 (pv 0) (pv 1)<|pv 2) (YZ<|V4) Yp;show let y:=_;VE _ y _ _ _ _
 intros
 exact⟨t,b,G,R,d,U,x,Z,j,T,I,B,N,O,L,λg s1=>⟨_,Y,Y1 (by simp)<|q _ s1⟩⟩
inductive SCM(H:Hp)(Q:VK):List V->Prop
 |mk (a b:Int) (h1:1<=a) (h2:a<=b) (q:Q .non H):SCM H Q [.int a,.int b]
def Oc:Sp:=λZ H Q _=>SCM H Q Z
def C5(F:Fun K "check_most" "check_most" Xa f L):Ye P w K R base CX0 (n+1) f L ["most","highest"] Oc:=by
 refine F.oi yd λM A Z s H O Q E T h=>?_;obtain⟨a,b,G,J,q⟩:=h;exists _,YZ<|Y5 (JN<|Xr XO XO Ya (pv 0)<|pv 1) (YZ<|V4) Yp;show let N:=_;VE _ N _ _ _ _
 intros
 exact⟨_,Y,VF (decide_eq_true G) ⟨_,Y,Y1 (by simp[J]) q⟩⟩
end
end K4
namespace L2
open PySem
structure GA where
 t:Addr
 dx:Addr
 bk:Addr
 gv:Addr
 bs:Addr
 nu:Addr
 st:Addr
 gs:List Str
def Up(A:GA):List (Str×V):=[("book",.ref A.bk),("given",.ref A.gv),("births",.ref A.bs),("numbers",.ref A.nu),("starts",.ref A.st)]
structure GCl(K:W.Frag)(C:Addr):Prop where
 cl:Cls K C
 bk:VG K C "book"
 gv:VG K C "given"
 bs:VG K C "births"
 nu:VG K C "numbers"
 st:VG K C "starts"
def Qx(A:GA):(Up A).lookup ("given":Str)=some (V.ref A.gv):=rfl
def zW(A:GA):(Up A).lookup ("part_given":Str)=none:=rfl
structure GV(H:Hp)(C:Addr)(A:GA)(wos:List W):Prop where
 ins:H A.t=some (.ins C A.dx (Up A))
 gv:∃xs,H A.gv=some (.tup xs)/\HasL H xs (wos.map W.dat)
def GV.mono(g:GV H C A wos)(s:Same H L):GV L C A wos:=⟨s _ _ g.ins,let⟨Z,G,J⟩:=g.gv;⟨Z,s _ _ G,J.mono s⟩⟩
def TQ(i:Nat)(ws:kE):Dat:=.tup [.str "given",.int (i:Nat),Jt ws]
def hgD(i:Nat)(ws:kE):W->Dat
 |.non=>.tup [.str "never",.int (i:Nat),Jt ws]
 |.tag t=>.tup [.str "head",.tup [.str "tag",.str t]]
 |.pair _ _=>.tup [.str "head",.tup [.str "pair",TQ i<|ws++[0],TQ i (ws++[1])]]
def Mn(h:H t=some (.tup [.str "given",.int (k:Nat),u]))(J:Has H u (Jt Z)):Has H (.ref t) (TQ k Z):=by
 unfold TQ;exact Yo h<|Z4 Yz<|Z4 (by unfold Has;rfl)<|Z5 J
theorem Ta:∀Z:List Bool,(∀b∈Z,b=false)->Z.any id=false
 |[],_=>rfl
 |b::Z,h=>by
  rw[jU,h b Za,Ta Z λc J=>h c (ZM _ J)];rfl
end L2
namespace K4
open PySem L2
section
variable{C:Addr}
abbrev iwy:kC:=["self","i","way"]
def yV:Yh iwy iwy (Yd Xf):=Y2
def zB:List.Nodup [("number":Str)]:=by decide +kernel
inductive SPG(C:Addr)(H:Hp)(Q:VK):List V->Prop
 |mk (A:GA) (wos:List W) (i:Nat) (wo:W) (y:V) (ws:List Int) (g:GV H C A wos) (hi:wos[i]?=some wo) (l3:wos.length<=3) (hy:Has H y (Jt ws)) (hw:Way ws) (lw:ws.length<=100) (q:∀u H',Same H H'->Has H' u (wo.part ws).dat->Q u H'):SPG C H Q [.ref A.t,.int (i:Nat),y]
def Se(C:Addr):Sp:=λZ H Q _=>SPG C H Q Z
def Cv(B:Blt O)(ma:O "any"=none)(TG:GCl K C)(F:Fun K "part_given" "Ground.part_given" Xf f fd)(DP:Df P w K O base n "part_of" ["worth","way"] Sd):Ye P w K O base CX0 (n+1) f fd iwy (Se C):=by
 refine F.oi yV λJ2 A N s H o Q E hr h=>?_;obtain⟨A',M,i,X,y,G,g,c,l3,j,m,lw,q⟩:=h;refine⟨_,YY (Y5 (PW.pt<|Um (JN<|Xr XO Ck Ya (pv 1)<|VB Y8 rfl B.len Zu (pa1<|Ym (pv 0) rfl))<|J4<|Vv<|VB (RP rfl) rfl ma RU (pa1<|V6 ["number"] [] (J5<|pv 2) (Vm (i:=0)<|by decide) (λcl C l s H=>Yl 0 zB rfl (Or.inl rfl) (Or.inr rfl)) λcl C l s H=>JF (r:=rIn K true) JX (pv 0) (Yj<|pa2 Ya Ya)<|by rfl)) (YZ<|Yi<|Vi) Yp)
  (YZ<|Yi<|VP DP hr<|pa2 (Yr Yt (Ym (pv 0) rfl) (pv 1) λ_ _=>rfl)<|pv 2),?_⟩
 dsimp only[VY,Cx.nox,Cx.wish];show let T0:=_;let T1:=_;Yk (VE _ T1 _) T0 _ _ _
 intros
 obtain⟨U,d,z⟩:=g.gv;obtain⟨a,rfl,v⟩:=Ji j;have lx:=z.length;rw[ZA]at lx;have il:i<M.length:=(ZF.mp c).1;refine⟨_,Y,VF (decide_eq_true<|by omega) ?_⟩;refine⟨C,_,_,_,g.ins,TG.cl,TG.gv,Qx _,A'.gv,_,Y,.inr<|Z2 d,_,rfl,Y1 (by simp;omega) ?_⟩;exists ⟨_,Z2 v⟩;refine Td (us:=G) (D:=Dat.int) (F:=λ_=>.bl false) (λH' s=>itt<|Z2<|s _ _ v) (TJ G) (by omega) (λk x H1 R hm s1 J hR=>?_) λo p H1 l s1 hp S=>?_
 .have e:x=.int k:=by unfold Has at J;exact J
  subst e;refine⟨sl 2,λt ht=>?_⟩;refine up_in ht _ λH2 s2 g2=>⟨t,_,Y,.inr<|Z2 g2,rfl,rfl,hR _ _ s2 ?_⟩;rcases m k hm with rfl|rfl <;> (unfold Has;rfl)
 have e:=L8 (bs:=G.map λ_=>false) (by rw[ve];exact S);refine⟨p,_,Y,Z3 (by rw[hp,e]),_,Y,Y1 (by rw[Ta _ (λb hb=>by obtain⟨_,_,rfl⟩:=ZW.mp hb;rfl)];simp) ?_⟩;have g1:=g.mono s1
 obtain⟨x,I,T⟩:∃x,U[i]?=some x/\Has H x X.dat:=by
  have Z:i<U.length:=by omega
  obtain⟨u,L,hd⟩:=getD z<|ZD Z;rw[c]at L;cases L;exact⟨_,ZD Z,hd⟩
 exists C,_,_,_,g1.ins,TG.cl,TG.gv,Qx _,_,_,Z2<|s1 _ _ d,VD I;exact⟨x,_,X,G,T.mono s1,j.mono s1,m,λu L=>q _ _ s1 L⟩
def CQ:Yh ["self","i","way","worth"] iwy (Yd Xg):=Y2
inductive SHG(C:Addr)(H:Hp)(Q:VK):List V->Prop
 |mk (A:GA) (wos:List W) (i:Nat) (wo:W) (y:V) (ws:List Int) (g:GV H C A wos) (hi:wos[i]?=some wo) (l3:wos.length<=3) (hy:Has H y (Jt ws)) (hw:Way ws) (lw:ws.length<=100) (q:∀u H',Same H H'->Has H' u (hgD i ws (wo.part ws))->Q u H'):SHG C H Q [.ref A.t,.int (i:Nat),y]
def Sg(C:Addr):Sp:=λZ H Q _=>SHG C H Q Z
def C2(B:Blt mg)(TG:GCl K C)(F:Fun K "head_given" "Ground.head_given" Xg f fd)(m:VI K C "part_given" g)(G:Ye P w K mg base CX0 n g gd iwy (Se C))(bG:Binds K gd iwy []):Ye P w K mg base CX0 (n+1) f fd iwy (Sg C):=by
 refine F.oi CQ λJ2 A X s H vs Q E hr h=>?_;obtain⟨A',I,i,wo,y,ws,g,hi,l3,hy,hw,lw,q⟩:=h;refine⟨_,YY (Yx 3 CQ.nd<|Y4 (pv 0) TG.cl m G hr bG .nil Y3<|pa2 (pv 1)<|pv 2)
  (YY (Y5 (Ys Wb (pv 3) Vi<|Y0 _) (YZ<|Yi<|Yj<|pa3 (Yw) (pv 1)<|pv 2) Yp)
  (YY (Y5 (Vv<|WW rfl B.isi rfl B.tuple JC (pv 3)) (YZ<|Yi<|Yj<|pa2 (Yw)<|Yj<|pa3 (Yw) (Yj<|pa3 (Yw) (pv 1)<|Y7 (r:=λx y H Q=>J3 K x y H Q\/J1 K x y H Q) Jh (pv 2)<|Yj<|pa1<|Ya)<|Yj<|pa3 (Yw) (pv 1)<|Y7 (r:=λx y H Q=>J3 K x y H Q\/J1 K x y H Q) Jh (pv 2)<|Yj<|pa1<|Ya) Yp)
  (YZ<|Yi<|Yj<|pa2 (Yw)<|Yj<|pa2 (Yw)<|pv 3))),?_⟩
 dsimp only[VY,Cx.nox,Cx.wish];show let T0:=_;let T1:=_;let T2:=Yk (VE _ T1 _) T0;let T3:=_;let T4:=Yk (VE _ T3 _) T2;Yk _ T4 _ _ _
 intros
 refine⟨_,_,g.ins,zW _,A',I,i,wo,y,ws,g,hi,l3,hy,hw,lw,λu H1 s1 L=>?_⟩;have J:=hy.mono s1;generalize wo.part ws=w' at L q
 cases w' with
 |non=>
  have e:u=.non:=by unfold W.dat Has at L;exact L
  subst e;refine⟨Y,_,Y,VF Y ⟨sl 3,λt ht=>?_⟩⟩;refine up_in ht _ λH2 Z R=>q _ _ (s1.trans Z) ?_;unfold hgD;exact Yo R<|Z4 Yz<|Z4 (by unfold Has;rfl)<|Z5<|J.mono Z
 |tag x=>
  have e:u=.str x:=has_str L;subst e;refine⟨Y,_,Y,Y1 (by simp) ?_⟩;refine⟨_,_,_,_,Y,Mh (K:=K) L,Mb K _ (by simp),_,Y,Y1 (by simp[isD,tyD,W.dat]) ⟨sl 2,λt ht=>?_⟩⟩;refine up_in ht _ λH2 Z R=>⟨sl 2,λt' a=>?_⟩;refine up_in a _ λH3 D g3=>q _ _ ((s1.trans Z).trans D) ?_;unfold hgD;exact Yo g3<|Z4 Yz<|Z5<|Dn<|D _ _ R
 |pair b c=>
  have j:=L;obtain⟨p,x1,x2,rfl,hp,h1,h2⟩:=X0 L;refine⟨Y,_,Y,Y1 (by simp) ?_⟩;refine⟨_,_,_,_,Y,Mh (K:=K) j,Mb K _ (by simp),_,Y,VF (by simp[isD,tyD,W.dat]) ⟨sl 1,λt2 o=>?_⟩⟩;refine up_in o _ λH2 Z R=>?_;refine UH (J.mono Z) (UD R) (by simp) (by simp;omega) λu3 H3 D h3=>⟨sl 3,λt4 l=>?_⟩;refine up_in l _ λH4 s4 g4=>⟨sl 1,λt5 v=>?_⟩;refine up_in v _ λH5 s5 g5=>?_;have O:=(((Z.trans D).trans s4).trans s5);refine UH (J.mono O) (UD g5) (by simp) (by simp;omega) λu6 H6 s6 h6=>⟨sl 3,λt7 d=>?_⟩;refine up_in d _ λH7 U g7=>⟨sl 3,λt8 k=>?_⟩;refine up_in k _ λH8 S g8=>⟨sl 2,λt9 z=>?_⟩;refine up_in z _ λH9 T g9=>q _ _ (((((s1.trans O).trans s6).trans U).trans S).trans T) ?_;have N:=(((s5.trans s6).trans U).trans S).trans T;have M:=S.trans T;unfold hgD;exact Yo g9<|Z4 Yz<|Z5<|Yo (T _ _ g8)<|Z4 Yz<|Z4 (Mn (N _ _ g4)<|h3.mono<|s4.trans N)<|Z5<|Mn (M _ _ g7)<|h6.mono<|U.trans M
end
section
def XB:Yh ["body","place","part","number"] ["body","place"] (Yd Gr):=Y2
inductive Ek(H:Hp)(Q:VK):List V->Prop
 |mk (v:V) (a:Addr) (b c:Bd) (ws:List Int) (hv:Has H v b.dat) (ok:b.ok) (ha:H a=some (.tup (ws.map V.int))) (hc:b.at ws=some c) (q:∀u H',Same H H'->Has H' u c.dat->Q u H'):Ek H Q [v,.ref a]
def Jv:Sp:=λZ H Q _=>Ek H Q Z
def Br(F:Fun K "part_at" "part_at" Gr f p)(DP:Df P w K X base n "parts" ["body"] Xl):Ye P w K X base CX0 (n+1) f p ["body","place"] Jv:=by
 refine F.oi XB λJ2 A L s H vs Q E t h=>?_;obtain⟨v,a,b,c,R,y,C,T,g,q⟩:=h;refine⟨_,YY (Yx 2 XB.nd<|pv 0) (YY (V9 Zv rfl (J5<|pv 1) (Yl 3 XB.nd)
  (YZ<|Yx 2 XB.nd<|Yr Yt (VP DP t<|pa1<|pv 2) (pv 3) λ_ _=>rfl))
  (YZ<|Yi<|pv 2)),?_⟩
 dsimp only[VY,Cx.nox,Cx.wish];show let T0:=_;let T1:=_;let T2:=Yk (Uq _ _ T1) T0;Yk _ T2 _ _ _
 intros
 refine Dx Y ?_;exists ⟨_,Z2 T⟩
 let I:kM:=λi U J=>Same H J/\∃u z Z,U=[some v,some<|.ref a,some u,z]/\Has J u (Bd.dat Z)/\Z.ok/\Z.at (R.drop i)=some c
 refine TY (xs:=R.map V.int) I ⟨Z8 _,v,none,b,Y,y,C,g⟩ (λi U J _ z=>Z2<|z.1 _ _ T) ?_ ?_
 .rintro BB RR i x U J hx ⟨sj,u,z,Z,rfl,hu,okb,e⟩
  obtain⟨m,r,rfl,o,l,hm⟩:=RL hx;rw[o]at e;unfold Bd.at at e
  by_cases hm0:0<=m
  case neg=>rw[Zq hm0]at e;cases e
  rw[Zp hm0]at e
  cases hp:Z.parts[m.toNat]? with
  |none=>rw[hp]at e;cases e
  |some D=>
   rw[hp]at e;refine⟨u,Z,Y,hu,okb,λu2 H2 S k=>?_⟩;obtain⟨p2,xs,rfl,N,O⟩:=Yv k;rw[Z9]at O;have j:=O.length;rw[ZA]at j;have hi:=(ZF.mp hp).1;have G:m.toNat<xs.length:=by omega
   obtain⟨d,hd,M⟩:=getD O<|ZD G;rw[hp]at hd;cases hd;have B:=VD<|ZD G;rw[show((m.toNat:Nat):Int)=m by omega]at B;exact⟨_,xs[m.toNat],Z2 N,B,sj.trans S,_,_,D,Y,M,Bd.ok_parts okb D<|ZJ hp,by rw[l];exact e⟩
 .rintro U J ⟨sj,u,z,Z,rfl,hu,okb,e⟩
  rw[ZA,List.drop_length]at e;unfold Bd.at at e;cases e;exact q u J sj hu
end
end K4
namespace L2
open PySem PySem.Spec PyProof.Rows
def ZI(h:Heap)(z TI TO:Addr)(f0 f1:Value):Prop:=h.get? z=some {cls:=.type "zip",dict:=none,data:=.fields #[f0,f1,.bool false,.ref TI,.ref TO],slots:= #[]}
section
variable{prog:Program}{w:World}{A:Around}{E:kz}{s:Shared}
def Nr{α:Type}{a:Addr}{o:Obj}{m:Option Obj->Sem α}{Q:α->Shared->Prop}(h:s.heap.get? a=some o)(q:wpAny (model prog w) A (m<|some o) Q E s):wpAny (model prog w) A (loadIfAlive a >>=m) Q E s:=by
 intro Γ p Z;show Sem.wp _ Γ (Sem.loadIfAlive a λx=>m x) _ _ p s;rw[Sem.wp_loadIfAlive,h];exact q Γ p Z
def OO{z TI TO G Z q F T:Addr}{d X:Bool}{k:Nat}{p C:kI}{x y S:Value}{f:Obj}{Q:Option Value->Shared->Prop}(D:ZipApart z TI TO G Z q F)(L:ZI s.heap z TI TO (rawInt T) S)(h:s.heap.get? T=some f)(i:S=.bool false\/S=.bool true)(t:IsPair s.heap TI (.ref G) (.ref Z))(one:SI d s.heap G q k p)(two:SI X s.heap Z F k C)(l:p[k]?=some x)(r:C[k]?=some y)(n:∀g,ZI g z TI TO (rawInt T) (.bool true)->SJ d g G q (k+1)->SJ X g Z F (k+1)->IsPair g s.heap.objs.size x y->g.objs.size=s.heap.objs.size+1->(∀c o,c≠z->c≠G->c≠Z->s.heap.get? c=some o->g.get? c=some o)->Q (some<|.ref s.heap.objs.size) {s with heap:=g}):
  wpAny (model prog w) A (pyNext<|.ref z) Q E s:=by
 have R:s.TypeIs (.ref z) "zip":=⟨_,L,rfl⟩;simp only[pyNext];refine Zl<|jZ<|wpAny_callSpecial?_slot (name:=Str.ofString "__next__") R jj<|vq jj R qA ?_<|qu _;refine Zl (m:=field (.ref z) 2)<|Zo L rfl (x:=.bool false) rfl (Zl (m:=field (.ref z) 3)<|Zo L rfl (x:=.ref TI) rfl (Zl<|vz t rfl ?_));refine Zl (m:=Builtin.SmallTypes.ownedTupleIsFree<|.ref z)<|Zl (m:=field (.ref z) 0)<|Zo L rfl (x:=rawInt T) rfl ?_;simp only[rawInt];refine Nr (o:=f) (by simpa using h) ?_;rw[Zq (by simp)];refine Zl (m:=field (.ref z) 1) (Zo L Y (x:=S) Y ?_)
 suffices main:∀J,ZI J z TI TO (rawInt T) (.bool true)->Heap.SameBut z s.heap J->wpAny (model prog w) A.in1 _ _ _ {s with heap:=J} by
  rcases i with rfl|rfl
  .rw [Zp (by rfl)]
   refine Zl<|vk L (by simp) λJ U O=>Zm ?_;rw[Zq (by simp)];exact main J U O
  .rw [Zq (by decide)]
   refine Zm ?_;rw[Zq (by simp)];exact main s.heap L ⟨Y,λ_ _=>Y⟩
 intro J U O;rw[<-j6];simp only[jG,qB];have v:=one.but O.extBut D.i1z D.l1z;have u:=two.but O.extBut D.i2z D.l2z;refine Zl<|Zl<|Zl<|wpAny_holding (?_:wpAny _ _ (Builtin.SmallTypes.nextOf (.ref G) >>=_) _ _ _);refine Zl<|U9 (s:={s with heap:=J}) v D.l1i1 l λI a2 N=>Zm<|Zm ?_;replace N:Heap.SameBut G J I:=N;have j:SI X I Z F k C:=u.but N.extBut D.i12.symm D.l2i1;refine Zl<|Zl<|wpAny_holding (?_:wpAny _ _ (Builtin.SmallTypes.nextOf (.ref Z) >>=_) _ _ _);refine Zl<|U9 (s:={s with heap:=I}) j D.l2i2 r λB a M=>Zm<|Zm<|Zm ?_;replace M:Heap.SameBut Z I B:=M;refine Zl<|wpAny_newTuple (hsz:=by show 2<=sizeLine;decide)<|Zm ⟨_,rfl,Zm ?_⟩;have P:B.objs.size=s.heap.objs.size:=by rw[M.1,N.1,O.1]
 show Q (some<|.ref B.objs.size) _;have b:=n<|B.push {cls:=.type "tuple",data:=.seq #[x,y]};rw[P];refine b (ZE _<|M.extBut _ _ D.i2z.symm<|N.extBut _ _ D.i1z.symm U) ?_ ?_ ?_ (by rw[vX,P]) ?_
 .exact (a2.sj.to λo e=>M.extBut _ _ D.i12 e).to λo e=>ZE _ e
 .exact a.sj.to λo e=>ZE _ e
 .have:=ZY B (o:={cls:=.type "tuple",data:=.seq #[x,y]}) rfl
  rw[P]at this;exact this
 .intro c o c1 c2 c3 e
  exact ZE _<|M.extBut _ _ c3<|N.extBut _ _ c2<|O.extBut _ _ c1 e
def Q8{z TI TO G R S X T:Addr}{U v:Bool}{k:Nat}{F:kI}{N:Value}{I:Obj}{Q:Option Value->Shared->Prop}(y:A.handled=none)(D:ZipApart z TI TO G R S X)(Z:ZI s.heap z TI TO (rawInt T) N)(p:s.heap.get? T=some I)(q:N=.bool false\/N=.bool true)(O:IsPair s.heap TI (.ref G) (.ref R))(one:SI U s.heap G S k F)(P:F[k]?=none)(d:∀g,(∀c o,c≠z->c≠G->c≠R->s.heap.get? c=some o->g.get? c=some o)->Q none {s with heap:=g}):wpAny (model prog w) A (pyNext<|.ref z) Q E s:=by
 have L:s.TypeIs (.ref z) "zip":=⟨_,Z,rfl⟩;simp only[pyNext];refine Zl<|jZ<|wpAny_callSpecial?_slot (name:=Str.ofString "__next__") L jj<|vq jj L qA ?_<|qu _;refine Zl (m:=field (.ref z) 2)<|Zo Z rfl (x:=.bool false) rfl (Zl (m:=field (.ref z) 3)<|Zo Z rfl (x:=.ref TI) rfl (Zl<|vz O rfl ?_));refine Zl (m:=Builtin.SmallTypes.ownedTupleIsFree<|.ref z)<|Zl (m:=field (.ref z) 0)<|Zo Z rfl (x:=rawInt T) rfl ?_;simp only[rawInt];refine Nr (o:=I) (by simpa using p) ?_;rw[Zq (by simp)];refine Zl (m:=field (.ref z) 1) (Zo Z Y (x:=N) Y ?_)
 suffices main:∀J,ZI J z TI TO (rawInt T) (.bool true)->Heap.SameBut z s.heap J->wpAny (model prog w) A.in1 _ _ _ {s with heap:=J} by
  rcases q with rfl|rfl
  .rw [Zp (by rfl)]
   refine Zl<|vk Z (by simp) λJ B M=>Zm ?_;rw[Zq (by simp)];exact main J B M
  .rw [Zq (by decide)]
   refine Zm ?_;rw[Zq (by simp)];exact main s.heap Z ⟨Y,λ_ _=>Y⟩
 intro J B M;rw[<-j6];simp only[jG,qB];have C:=one.but M.extBut D.i1z D.l1z;refine Zl<|Zl<|Zl<|wpAny_holding (?_:wpAny _ _ (Builtin.SmallTypes.nextOf (.ref G) >>=_) _ _ _);refine Zl<|ME (s:={s with heap:=J}) y C P λr e f ⟨o,j,t⟩=>?_;refine Zl<|jY (T:="StopIteration") (b:=true) ⟨o,j,t⟩ isSubtype_stop<|Zm<|d _ ?_;intro c o u c2 l e;exact f _ _ c2<|M.extBut _ _ u e
end
def ZC(h:Heap)(z TI TO:Addr)(t1:Bool)(i1 l1:Addr)(t2:Bool)(i2 l2:Addr)(i:Nat):Prop:=
 IsPair h TI (.ref i1) (.ref i2)/\SJ t1 h i1 l1 i/\SJ t2 h i2 l2 i/\((IsZip h z TI TO .none/\∃a b,IsPair h TO a b) \/ ∃(T:Addr)(Z:Value)(J:Obj),ZI h z TI TO (rawInt T) Z/\h.get? T=some J/\T ∉ [z,TO,i1,i2]/\(Z=.bool false\/Z=.bool true))
def Wk.keep2{Z:Bool}{h G:Heap}{l:Addr}{J:kI}(z:Wk Z h l J)(k:∀o,h.get? l=some o->G.get? l=some o):Wk Z G l J:=by
 cases Z with
 |false=>exact let⟨o,e,r⟩:=z;⟨o,k _ e,r⟩
 |true=>exact let⟨o,e,r⟩:=z;⟨o,k _ e,r⟩
section
variable{prog:Program}{w:World}{A:Around}{E:kz}{R:Result->Shared->Prop}
def QA{z TI TO L G f c d:Addr}{t1 t2:Bool}{xs ys:kB}{vs:List (Key×Value)}(hh:A.handled=none)(D:ZipApart z TI TO L G f c)(T2:xs.length=ys.length)(hn:xs.length<=sizeLine)(hv:vs.length=xs.length)(nd:(vs.map (·.1)).Nodup)(R7:∀i (h1:i<xs.length) (h2:i<ys.length),∃k,vs[i]?=some (k,ys[i])/\(Y9 prog w).is k xs[i]=true)(hS:d ∉ [z,TO,L,G,TI,f,c])(F:Value):
  ∀(k i:Nat)(s:Shared)(j:Int)(t:Tok),xs.length-i=k->i<=xs.length->ZC s.heap z TI TO t1 L f t2 G c i->Wk t1 s.heap f xs.toArray->Wk t2 s.heap c ys.toArray->
  s.heap.DictOf (Y9 prog w) d (vs.take i)->TO<s.heap.objs.size->
  (∀h' tk,h'.DictOf (Y9 prog w) d vs->(∀b o,b ∉ [z,TO,L,G,d]->s.heap.get? b=some o->h'.get? b=some o)->R (.ok<|.ret F) {s with heap:=h',toks:=tk})->
  codeAny (model prog w) A (.builtin "dict.update.loop" ⟨[.ref d,.ref z,.int j t,F],[]⟩) R s:=by
 have nS:d≠z/\d≠TO/\d≠L/\d≠G/\d≠TI/\d≠f/\d≠c:=by simpa using hS
 obtain⟨n,S,n1,n2,R6,R5,R4⟩:=nS;intro k
 induction k with
 |zero=>
  intro i s j t hk hi zc y l hd M2 hR;have e:i=xs.length:=by omega
  subst e;refine j7 X2 ?_;rw[Around.under_plainId Jo _];obtain⟨M,u,j2,zz⟩:=zc;rw[<-hv,ka]at hd
  have O1:∀g,(∀b o,b ∉ [z,TO,L,G]->s.heap.get? b=some o->g.get? b=some o)->R (.ok<|.ret F) {s with heap:=g}:=λg J=>by
   obtain⟨o,es,ep,v,rest⟩:=hd
   exact hR g s.toks ⟨o,es,ep,J d o (by simp[n,S,n1,n2]) v,rest⟩ λb o O e=>J b o (λhm=>O (by
    have X:b=z\/b=TO\/b=L\/b=G:=by simpa using hm
    simp only[Zd,jS,or_false];rcases X with q|q|q|q
    .exact .inl q
    .exact .inr (.inl q)
    .exact .inr (.inr<|.inl q)
    .exact .inr (.inr<|.inr<|.inl q))) e
  refine Zl (m:=pyNext<|.ref z) ?_;rcases zz with⟨B,v⟩|⟨T,f1,oT,B,r,_,hf⟩
  .refine Fa hh D ⟨B,M,v,u.si y,j2.si l⟩ (.inl<|by simp) λg J=>Zl<|Zm<|Zm<|O1 g λb o O e=>?_
   have Z:b≠z/\b≠TO/\b≠L/\b≠G:=by simpa using O
   exact J b o Z.1 Z.2.1 Z.2.2.1 Z.2.2.2 e
  .refine Q8 (v:=t2) hh D B r hf M (u.si y) (by simp) λg J=>Zl<|Zm<|Zm<|O1 g λb o O e=>?_
   have Z:b≠z/\b≠TO/\b≠L/\b≠G:=by simpa using O
   exact J b o Z.1 Z.2.2.1 Z.2.2.2 e
 |succ k ih=>
  intro i s j t hk hi zc y l hd M2 hR;have P:i<xs.length:=by omega
  have G2:i<ys.length:=by omega
  have hx:xs.toArray[i]?=some xs[i]:=by simp[P]
  have hy:ys.toArray[i]?=some ys[i]:=by simp
  obtain⟨T3,ev,G3⟩:=R7 i P G2;refine j7 X2 ?_;rw[Around.under_plainId Jo _];obtain⟨M,u,j2,zz⟩:=zc;refine Zl (m:=pyNext<|.ref z) ?_
  suffices step:∀g,ZC g z TI TO t1 L f t2 G c (i+1)->IsPair g s.heap.objs.size xs[i] ys[i]->g.objs.size=s.heap.objs.size+1->(∀b o,b≠z->b≠TO->b≠L->b≠G->s.heap.get? b=some o->g.get? b=some o)->wpAny (model prog w) A.in1 _ _ _ {s with heap:=g} by
   have lz:∀{o:Obj}{b:Addr},s.heap.get? b=some o->b<s.heap.objs.size:=λe=>ZP e;have J2:L<s.heap.objs.size:=let⟨_,e,_⟩:=u.obj;lz e
   have x:G<s.heap.objs.size:=let⟨_,e,_⟩:=j2.obj;lz e
   rcases zz with⟨B,a,b,v⟩|⟨T,f1,oT,B,r,nT,hf⟩
   .refine Dh D ⟨B,M,⟨a,b,v⟩,u.si y,j2.si l⟩ hx hy λg zs U h J=>step g ⟨zs.its,zs.one.sj,zs.two.sj,.inr ⟨s.heap.objs.size,.bool false,_,zs.zip,U,?_,.inl rfl⟩⟩ U h J
    have I:=lz B;have p:=lz v;intro hm;have X:s.heap.objs.size=z\/s.heap.objs.size=TO\/s.heap.objs.size=L\/s.heap.objs.size=G:=by simpa using hm
    rcases X with e|e|e|e <;> rw[e]at I p J2 x <;> first|exact Zr I (vx _)|exact Zr p (vx _)|exact Zr J2 (vx _)|exact Zr x<|vx _
   .have nT':T≠z/\T≠TO/\T≠L/\T≠G:=by simpa using nT
    exact OO D B r hf M (u.si y) (j2.si l) hx hy λg z' a1 a2 U h J=>step g ⟨J _ _ D.TIz D.TIi1 D.TIi2 M,a1,a2,.inr ⟨T,.bool true,oT,z',J _ _ nT'.1 nT'.2.2.1 nT'.2.2.2 r,nT,.inr Y⟩⟩ U h λb o b1 _ b3 b4 e=>J b o b1 b3 b4 e
  intro g R1 U h J
  have T1:g.DictOf (Y9 prog w) d (vs.take i):=by
   obtain⟨o1,es,ep,C,rest⟩:=hd;exact⟨o1,es,ep,J d o1 n S n1 n2 C,rest⟩
  have r:({s with heap:=g}:Shared).TypeIs (.ref s.heap.objs.size) "tuple":=⟨_,U,rfl⟩
  have ld:d<s.heap.objs.size:=by
   obtain⟨o1,es,ep,C,rest⟩:=hd;exact ZP C
  refine Zl<|wpAny_holding<|Zl<|wpAny_tryCatch ?_;simp only[Builtin.Dict.pairItems];refine Zl (m:=typeOf<|.ref s.heap.objs.size)<|qI r ?_;rw[Zp (by decide)];refine Zl<|vz U rfl (Zm ?_);show wpAny _ A.in1 (holding [xs[i],ys[i]]<|dictSet d xs[i] ys[i]) _ _ _;refine wpAny_holding<|wpAny_dictSet_pairs (hsz:=by rw[ZN];omega) G3 T1 λh2 Q G1=>?_;rw[RM vs nd ev]at Q;have N:∀b o,b≠d->g.get? b=some o->h2.get? b=some o:=λb o O e=>(G1.2 b O).trans e;refine Zm ⟨qw Jo _,ih (i+1) _ (j+1) 0 (by omega) P ?_ ?_ ?_ Q ?_ λh3 R3 T0 R8=>?_⟩
  .obtain ⟨a1,a2,a3,a4⟩:=R1
   exists N _ _ (Zs R6) a1,a2.to λo e=>N _ _ (Zs n1) e,a3.to λo e=>N _ _ (Zs n2) e;rcases a4 with⟨I,a,b,p⟩|⟨T,f1,oT,I,p,q3,q4⟩
   .exact .inl ⟨N _ _ (Zs n) I,a,b,N _ _ (Zs S) p⟩
   .by_cases eT:T=d
    .obtain ⟨o2,es2,ep2,ho2,_⟩:=Q
     exact .inr ⟨T,f1,o2,N _ _ (Zs n) I,by rw[eT];exact ho2,q3,q4⟩
    .exact .inr ⟨T,f1,oT,N _ _ (Zs n) I,N _ _ eT p,q3,q4⟩
  .exact y.keep2 λo e=>N _ _ (Zs R5)<|J _ _ D.l1z D.l1TO D.l1i1 D.l1i2 e
  .exact l.keep2 λo e=>N _ _ (Zs R4)<|J _ _ D.l2z D.l2TO D.l2i1 D.l2i2 e
  .have e2:h2.objs.size=g.objs.size:=G1.1
   show TO<h2.objs.size;rw[e2,h];exact Nat.lt_succ_of_lt M2
  .refine hR h3 R3 T0 λb o O e=>R8 b o O ?_
   have Z:b≠z/\b≠TO/\b≠L/\b≠G/\b≠d:=by simpa using O
   exact N _ _ Z.2.2.2.2<|J b o Z.1 Z.2.1 Z.2.2.1 Z.2.2.2.1 e
end
def P9:typeLookup (.type "zip") (Str.ofString "keys")=pure none:=am_miss_of_fast<|by decide +kernel
def P8:typeLookup (.type "zip") (Str.ofString "__getattr__")=pure none:=am_miss_of_fast<|by decide +kernel
def Lo:entryFor table "zip.__getattribute__"=some Builtin.«object.__getattribute__»:=
 entryFor_alias (id':="object.__getattribute__") (by kernel_rfl) (by decide +kernel) (by decide +kernel) (by kernel_rfl)
def Ln(a:Addr)(D:kI)(sl:Array (Option Value))(name:Str)(u:Tok)(L:typeLookup (.type "zip") name=pure none)(Z:(["__module__","__name__","__qualname__","__doc__","__annotations__"]:kC).contains name=false)(G:name.length+100<=sizeLine:=by size_fits):
  Meets (Builtin.«object.__getattribute__» ⟨[.ref a,.str name u],[]⟩) (λA R s=>s.heap.get? a=some {cls:=.type "zip",dict:=none,data:=.fields D,slots:=sl}/\raisesAttr (.ref a) name A R s):=
 Meets.of_wp λM w A R s J=>by
  obtain⟨B,g,d,N,O⟩:=s;obtain⟨T,J⟩:=J;have E:(⟨B,g,d,N,O⟩:Shared).TypeIs (.ref a) "zip":=⟨_,T,rfl⟩;unfold Builtin.«object.__getattribute__»
  repeat (any_goals (first|assumption|wp_step))
  simp only[Z,jc,if_false]
  repeat (any_goals (first|assumption|wp_step))
  exact wpAny_raiseAttrError J.1 J.2<|attrMsg_fits (by decide +kernel) G
def QB{R:kI}{M:Array (Option Value)}(N:s.heap.get? a=some {cls:=.type "zip",dict:=none,data:=.fields R,slots:=M})(S:A.handled=none)(h:∀G L,(∀b o,s.heap.get? b=some o->G.get? b=some o)->Q none {s with heap:=G,toks:=L}):
  wpAny (model prog w) A (getAttr? (.ref a)<|Str.ofString "keys") Q E s:=by
 obtain⟨U,C,X,L,B⟩:=s;have Z:=F.slot_zip_getattribute;have I:=Z.lookup;have P:=Z.bind<|.ref a;have D:=P8;have j:=sub_AttributeError;have O:∀n,(Shared.mk U C X n B).TypeIs (.ref a) "zip":=λn=>⟨_,N,rfl⟩;simp only[getAttr?,getAttrBy?,getAttrBy]
 repeat (any_goals (first|assumption|exact O _|((with_reducible show wpAny _ _ (call (Value.builtin "zip.__getattribute__") _ _) _ _ _);refine qe F.slot_zip_getattribute (O _) Lo (F.args_zip_getattribute_2 _ _) (Ln a R M (Str.ofString "keys") _ P9 (by decide +kernel)<|by size_fits) ⟨N,S,λG T e J=>?_⟩)|wp_step))
 have there:=J.there;obtain⟨_,_,y⟩:=there;refine(?_:wpAny _ _ (getattributeRaised _ _ _ _ _ _ _) _ _ _);simp only[getattributeRaised]
 repeat any_goals first|assumption|wp_step
 exact h _ _ J.keeps
theorem Qq:∀{Z:kJ}{G:kB},Vals (Z.map (·.2)) G->∃J,KV Z J/\J.map (·.2)=G/\J.map (·.1)=Z.map (·.1)
 |[],_,r=>by cases r;exact⟨[],.nil,Y,Y⟩
 |kv::Z,_,r=>by
  cases r with
  | @cons _ u _ G h t=>
   obtain⟨J,N,M,L⟩:=Qq t;exact⟨(kv.1,u)::J,.cons ⟨Y,h⟩ N,by rw[ZV,M],by rw[ZV,ZV,L]⟩
def Tr{z TI TO O N P C:Addr}{t1 t2:Bool}{xs ys:kB}{vs:List (Key×Value)}{kvs:kJ}{g:Heap}(I:Inv X B U H s)(hc:X.calm=true)(D:ZipApart z TI TO O N P C)(E:xs.length=ys.length)(hn:xs.length<=1000)(hv:vs.length=xs.length)(nd:(vs.map (·.1)).Nodup)(n:∀i (j:i<xs.length) (h2:i<ys.length),∃k,vs[i]?=some (k,ys[i])/\(Y9 X.prog X.w).is k xs[i]=true)(T:KV kvs vs)(kp:∀b o,s.heap.get? b=some o->g.get? b=some o)(y:s.heap.objs.size<=g.objs.size)(G:∀b∈ [z,TO,O,N],s.heap.objs.size<=b)(zr:ZR g z TI TO t1 O P t2 N C 0)(w1:Wk t1 g P xs.toArray)(w2:Wk t2 g C ys.toArray)(q:∀l,H l=none->Q (.ref l) (upd H l<|.dK kvs)):
  wpAny (model X.prog X.w) X.A (call (.type "dict") [.ref z]) (EP X B U Q) X.xe {s with heap:=g}:=by
 refine callType_codes (Q₁:=λob t=>ob=.ref g.objs.size/\t={s with heap:=g.push {cls:=.type "dict",data:=.dict #[]}}) F.kt_called_dict (F.kt_typeCall_dict_1 _) F.entry_dict_init (kt_code_dict_new _ ⟨Y,Y⟩) λob t ht=>?_;obtain⟨rfl,rfl⟩:=ht;have Z:(g.push {cls:=.type "dict",data:=.dict #[]}).DictOf (Y9 X.prog X.w) g.objs.size []:=Heap.DictOf.new g;have w:∀b o,g.get? b=some o->(g.push {cls:=.type "dict",data:=.dict #[]}).get? b=some o:=λb o e=>ZE _ e;refine And.intro Z.typeIs<|And.intro (F.args_dict_init_2 _ _) ?_;delta Builtin.«dict.__init__» Builtin.Dict.selfAndRest;refine Zl<|Zl<|wpAny_notOrdered_dict Z.typeIs<|Zm (?_:wpAny _ _ (Builtin.Dict.updateFrom "dict.__init__" g.objs.size (.ref z) [] .none) _ _ _);delta Builtin.Dict.updateFrom;have m:Shared.TypeIs {s with heap:=g.push {cls:=.type "dict",data:=.dict #[]}} (.ref z) "zip":=⟨_,w _ _ zr.zip,rfl⟩;refine Zl<|qI m ?_;rw[Zp (by decide)];refine Zl<|QB (s:={s with heap:=g.push {cls:=.type "dict",data:=.dict #[]}}) (w _ _ zr.zip) (I.ok.hd hc) λj R S=>?_;simp only[Option.isNone_none,if_true];refine Zl<|jD ?_;have J:∀b o,g.get? b=some o->j.get? b=some o:=λb o e=>S b o<|w b o e;refine Zl<|wpAny_pyIter_zip (s:={s with heap:=j,toks:=R}) (J _ _ zr.zip) ?_;have lz:z<g.objs.size:=ZP zr.zip;have v:TI<g.objs.size:=ZP zr.its;have u:TO<g.objs.size:=let⟨_,_,e⟩:=zr.out;ZP e
 have f:O<g.objs.size:=let⟨_,e,_⟩:=zr.one.obj;ZP e
 have d:N<g.objs.size:=let⟨_,e,_⟩:=zr.two.obj;ZP e
 have c:=w1.lt;have p:=w2.lt;have L:∀{b:Addr},b<g.objs.size->g.objs.size≠b:=λh=>jg h;refine Zm ⟨qw Jo _,QA (A:=X.A.in1) (t1:=t1) (t2:=t2) (xs:=xs) (ys:=ys) (vs:=vs) (I.ok.hd hc) D E (Zh<|Yu hn) hv nd n ?_ .none xs.length 0 {s with heap:=j,toks:=R} 0 0 rfl (Zc _) ⟨J _ _ zr.its,zr.one.to λo e=>J _ _ e,zr.two.to λo e=>J _ _ e,.inl ⟨J _ _ zr.zip,let⟨a,b,e⟩:=zr.out;⟨a,b,J _ _ e⟩⟩⟩ (w1.keep2 λo e=>J _ _ e) (w2.keep2 λo e=>J _ _ e) ?_ ?_ λh' tk G1 x=>?_⟩
 .intro r
  have M:g.objs.size=z\/g.objs.size=TO\/g.objs.size=O\/g.objs.size=N\/g.objs.size=TI\/g.objs.size=P\/g.objs.size=C:=by simpa using r
  rcases M with e|e|e|e|e|e|e
  .exact L lz e
  .exact L u e
  .exact L f e
  .exact L d e
  .exact L v e
  .exact L c e
  .exact L p e
 .rw [jN]
  obtain⟨o,es,ep,ho,rest⟩:=Z;exact⟨o,es,ep,S _ _ ho,rest⟩
 .obtain ⟨_,_,e⟩:=zr.out
  exact ZP<|J _ _ e
 .have lk:kvs.length<=sizeLine:=by
   have:=T.length;exact Zh<|Yu<|by omega
  refine⟨Y,.ref g.objs.size,_,I.laid (a:=g.objs.size) (o:=.dK kvs) (λb o e=>?_) y<|Wn lk (beq_eq_false_iff_ne.mpr<|Zs<|Ze<|Zx I.big y) T G1,rfl,q _<|I.hok.fresh y⟩;have hb:=ZP e;refine x b o (λr=>?_)<|J b o<|kp b o e;have M:b=z\/b=TO\/b=O\/b=N\/b=g.objs.size:=by simpa using r
  have J2:s.heap.objs.size<=b:=by
   rcases M with e|e|e|e|e
   .exact G b (by rw[e];simp)
   .exact G b (by rw[e];simp)
   .exact G b (by rw[e];simp)
   .exact G b (by rw[e];simp)
   .rw [e];exact y
  exact Zr hb<|Nat.not_lt_of_le J2
def tDZ(K:W.Frag)(ta:TA):TE:=λU H Q=>ta U H λG J=>∃(a b:Addr)(M L:Bool)(Z:kJ),G=[.ref a,.ref b]/\Sq K M J a (Z.map λN=>kV N.1)/\Sq K L J b (Z.map (·.2))/\Z.length<=1000/\(Z.map (·.1)).Nodup/\
 ∀l,J l=none->Q (.ref l) (upd J l<|.dK Z)
def PF{X:Cx}{a b:Expr}{n:TA}{p B y Z:Pos}(hc:X.calm=true)(hg:Gl X "dict")(hm:X.mg "dict"=none)(w:Gl X "zip")(v:X.mg "zip"=none)(ha:PA X [a,b] n)(hs:starEach [a,b] X.env=[(false,eval a X.env),(false,eval b X.env)]:=by rfl)(R:starEach [b] X.env=[(false,eval b X.env)]:=by rfl)(T:starEach [Expr.Call (.Name "zip" B) [a,b] [] Z] X.env=[(false,eval (Expr.Call (.Name "zip" B) [a,b] [] Z) X.env)]:=by rfl):
  PE X (.Call (.Name "dict" p) [.Call (.Name "zip" B) [a,b] [] Z] [] y) (tDZ X.K n):=by
 intro N s U H Q I h;refine Call_<|UN I hg hm Ui<|vo ?_ T rfl;rw[T];refine(?_:wpAny _ _ (spliced ((false,eval (Expr.Call (.Name "zip" B) [a,b] [] Z) X.env)::[])) _ _ s);refine Calls.spliced_cons (Call_<|UN I w v RS<|vo (thn (ha Z N s U H _ I h) λus s1 ⟨vs,H1,l,r1,j⟩=>?_) (by rw[hs,R]) (by rw[R];rfl));obtain⟨l1,l2,t1,t2,kvs,e,j,q2,k,nd,q⟩:=j;subst e;obtain⟨u,w',rfl,C,A⟩:=vals2 r1;cases C;cases A;obtain⟨O,M,F⟩:=l.sq j;obtain⟨J,L,E⟩:=l.sq q2;have n1:=F.lt;have n2:=E.lt;have m:=M.length;have t:=L.length;rw[ZA]at m t;obtain⟨G,P,e2,r⟩:=Qq L;have lw:G.length=kvs.length:=by rw[<-ZA (f:=(·.1)) (as:=G),r,ZA]
 refine Nj F E λg S c=>Calls.spliced_nil ?_;have D:=zap _ _ _ n1 n2;have gz:s1.heap.objs.size<=g.objs.size:=Zh<|j3 (vU _ _)<|ZP S.zip;refine Tr (xs:=O) (ys:=J) (vs:=G) (kvs:=kvs) l hc D (by omega) (by omega) (by omega) (by rw[r];exact nd) (λi h1 h2=>?_) P c gz (λb hb=>?_) S (F.keep2 λo e=>c _ _ e) (E.keep2 λo e=>c _ _ e) q
 .have ik:i<kvs.length:=by omega
  have d:i<G.length:=by omega
  have e3:G[i].2=J[i]:=by
   have:(G.map (·.2))[i]?=J[i]?:=by rw[e2]
   rw[ZH,ZD d,ZD h2]at this;exact ZT this
  have e4:G[i].1=kvs[i].1:=by
   have:(G.map (·.1))[i]?=(kvs.map (·.1))[i]?:=by rw[r]
   rw[ZH,ZH,ZD d,ZD ik]at this;exact ZT this
  refine⟨G[i].1,by rw[ZD d,<-e3],?_⟩;obtain⟨u,x,C⟩:=M.get (show(kvs.map λkv=>kV kv.1)[i]?=some (kV kvs[i].1) by rw[ZH,ZD ik];rfl);rw[ZD h1]at x;cases x;rw[e4];exact XS C
 .have z:b=s1.heap.objs.size+4\/b=s1.heap.objs.size+3\/b=s1.heap.objs.size\/b=s1.heap.objs.size+1:=by simpa using hb
  rcases z with z|z|z|z <;> rw[z] <;> first|exact ZG _|exact vU _ _
end L2
namespace L2
open PySem
def nmD(ns:kC)(vs:kL):kJ:=(ns.zip vs).map λx=>(Sum.inr x.1,x.2)
theorem NM:∀{ns:kC}{vs:kL},ns.length=vs.length->(nmD ns vs).map (λL=>kV L.1)=ns.map V.str/\(nmD ns vs).map (·.2)=vs/\(nmD ns vs).map (·.1)=ns.map Sum.inr
 |[],[],_=>⟨rfl,rfl,rfl⟩
 |[],_::_,h=>by simp at h
 |_::_,[],h=>by simp at h
 |n::ns,v::vs,h=>by
  obtain⟨G,J,Z⟩:=NM (ns:=ns) (vs:=vs) (by simpa using h);unfold nmD at G J Z |-;exists ?_,?_
  .rw [jJ,ZV,ZV,G];rfl
  .rw [jJ,ZV,ZV,J]
  .rw [jJ,ZV,ZV,Z];rfl
end L2
namespace K4
open PySem L2
section
variable{C CK:Addr}
def K5:List.Nodup [("name":Str),"kind"]:=by decide +kernel
def CP:Yh ["book","f","things","names"] ["book","f","things"] (Yd BL):=Y2
inductive SNd(C CK:Addr)(H:Hp)(Q:VK):List V->Prop
 |mk (t tl:Addr) (us:List V) (ks:List (Str×Shp)) (d:Str->Nat) (ds:List Dd) (x:Dd) (bi:BI H C CK t ks d ds) (hx:x∈ds) (ht:H tl=some (.lst us)) (ln:us.length=x.1.2.1.length) (l3:x.1.2.1.length<=3) (nd:(x.1.2.1.map (·.1)).Nodup)
  (q:∀l H',Same H H'->H l=none->H' l=some (.dK (nmD (x.1.2.1.map (·.1)) us))->Q (.ref l) H'):SNd C CK H Q [.ref t,.str x.1.1,.ref tl]
def IH(C CK:Addr):Sp:=λZ H Q _=>SNd C CK H Q Z
def Cw(B:Blt I)(TB:BCl K C)(F:Fun K "named" "named" BL f fd)(m:VI K C "parameters" g)(G:Ye P w K I base CX0 n g gd ["self","F"] (Gf C CK))(bG:Binds K gd ["self","F"] []):Ye P w K I base CX0 (n+1) f fd ["book","f","things"] (IH C CK):=by
 refine F.oi CP λJ2 A L s H vs Q E hr h=>?_;obtain⟨t,z,us,r,d,ds,x,j,i,ht,ln,l3,k,q⟩:=h;refine⟨_,YY (MU (i0:=3) ["name","kind"] [] CP.nd Y (Or.inl Y) (J5<|Y4 (pv 0) TB.cl m G hr bG .nil Y3<|pa1<|pv 1) Mm (λcl C X s H=>Vg (n:=2) rfl (Yn (Yl 0 K5 rfl (Or.inl rfl) (Or.inr rfl))<|Yn (Yl 1 K5 rfl (Or.inl rfl) (Or.inr rfl)) VJ)) (λcl C X s H=>pv 0))
  (YZ<|Yi<|PF rfl rfl B.dict rfl B.zip (pa2 (pv 3)<|pv 2)),?_⟩
 dsimp only[VY,Cx.nox,Cx.wish];show let T0:=_;Yk _ T0 _ _ _
 intros
 obtain⟨A',kv,rfl,b'⟩:=id j;refine⟨_,_,b'.ins,zX _,A'.t,r,d,ds,x,Y,j,i,λv S=>?_⟩;unfold psD at S;obtain⟨a,xs,rfl,U,hu⟩:=Yv S;exists ⟨_,Z2 U⟩;refine Nd (us:=x.1.2.1) (D:=λp=>.tup [.str p.1,.str p.2]) (E:=λp=>.str p.1) (itt<|Z2 U) hu (by omega) (λu y R hm o hR=>?_) λvs p H1 X s1 hp M=>?_
 .obtain ⟨t,ys,rfl,h2,Z⟩:=Yv o
  obtain⟨x1,r1,rfl,T,O⟩:=Yc Z;obtain⟨x2,r2,rfl,J,N⟩:=Yc O;obtain rfl:=VA N;obtain rfl:=has_str T;obtain rfl:=has_str J;exact⟨_,Z2 h2,Y,hR _ Yz⟩
 have e:=WI (by rw[ve];exact M:HasL H1 vs ((x.1.2.1.map (·.1)).map Dat.str));subst e;obtain⟨T,J,e3⟩:=NM (ns:=x.1.2.1.map (·.1)) (vs:=us) (by rw[ZA];omega);have c:(nmD (x.1.2.1.map (·.1)) us).length=us.length:=by rw[<-ZA (f:=(·.2)),J]
 refine⟨p,z,false,false,nmD (x.1.2.1.map (·.1)) us,Y,?_,?_,by omega,?_,λl Z=>?_⟩
 .rw [T];exact Z3 hp
 .rw [J];exact Z3<|s1 _ _ ht
 .rw [e3]
  exact k.map (f:=Sum.inr) λa b h e=>h<|Sum.inr.inj e
 .exact q l _ (s1.trans<|Yq Z _) (s1.free Z) Yf
end
end K4
namespace L2
open PySem
@[elab_as_elim] theorem fld_in {motive:Hp->Prop}(x:Addr) (o:HO) (k:∀H',SameB x H H'->H' x=some o->motive H'):motive (upd H x o):=k _ (λb u n h=>by rw[Yg n];exact h) Yf
def UK(J:Z x=none)(s:Same Z H)(b:SameB x H G):Same Z G:=λa o h=>b a o (Yb h J)<|s a o h
mutual
def Dat.ti:Dat->Bool
 |.tup ds=>Dat.tis ds
 |.lst _=>false
 |_=>true
def Dat.tis:List Dat->Bool
 |[]=>true
 |d::ds=>d.ti && Dat.tis ds
end
mutual
theorem VL{H Z:Hp}(b:TK H Z):∀(d:Dat){v:V},d.ti=true->Has H v d->Has Z v d
 |.str _,_,_,h=>by unfold Has at h |-;exact h
 |.non,_,_,h=>by unfold Has at h |-;exact h
 |.tup ds,_,t,h=>by
  unfold Has at h |-;obtain⟨a,J,M,L,G⟩:=h;unfold Dat.ti at t;exact⟨a,J,M,b _ _ L,Jb b ds t G⟩
 |.bl _,_,_,h=>by unfold Has at h |-;exact h
 |.int _,_,_,h=>by unfold Has at h |-;exact h
 |.lst _,_,t,_=>by unfold Dat.ti at t;cases t
theorem Jb{H L:Hp}(b:TK H L):∀(Z:kQ){J:kL},Dat.tis Z=true->HasL H J Z->HasL L J Z
 |[],[],_,h=>Z6
 |[],_::_,_,h=>by unfold HasL at h;exact h.elim
 |_::_,[],_,h=>by unfold HasL at h;exact h.elim
 |d::Z,x::J,t,h=>by
  unfold HasL at h;unfold Dat.tis at t;have G:=Bool.and_eq_true_iff.mp t;exact Z4 (VL b d G.1 h.1)<|Jb b Z G.2 h.2
end
theorem U4:∀{Z:kQ},(∀d∈Z,d.ti=true)->Dat.tis Z=true
 |[],_=>by unfold Dat.tis;rfl
 |d::Z,h=>by unfold Dat.tis;rw[h d Za,U4 λe J=>h e (ZM _ J)];rfl
def Rh(Z:kE):(Jt Z).ti=true:=by
 unfold Jt Dat.ti;exact U4 λd hd=>by obtain⟨k,_,rfl⟩:=ZW.mp hd;unfold Dat.ti;rfl
def Lb(i:Nat)(Z:kE):(TQ i Z).ti=true:=by
 unfold TQ;simp[Dat.ti,Dat.tis,Rh]
def Pz(n:Nat):Dat.tis ((List.range n).map λi=>TQ i [])=true:=U4 λd hd=>by obtain⟨k,_,rfl⟩:=ZW.mp hd;exact Lb _ _
def Pi(h:H a=some (.tup [])):Has H (.ref a) (Jt []):=JL h
end L2
namespace K4
open PySem L2
section
variable{C CK CG:Addr}
def yZ:Yh ["self","book","F","worths"] ["self","book","F","worths"] (Yd Lf):=Y2
def yq:List.Nodup [("i":Str)]:=by decide +kernel
end
end K4
namespace L2
open PySem PySem.Spec PyProof.Rows
def vH(K:W.Frag)(ta:TE)(f:Str):TG:=λv U H Q=>ta U H λx G=>∃a C J Z,x=.ref a/\G a=some (.ins C J Z)/\Cls K C/\VG K C f/\Z.length<1000/\Q U (upd G a<|.ins C J<|VQ f v Z)
def Bi(L:PE X o ta):PG X (.Attribute o f pos) (vH X.K ta f):=by
 intro Z s U H v u Q I r h;rw[assign_Attribute];refine Zl<|wpAny_holding<|thn (L Z s U H _ I h) λG s1 ⟨x,E,R,J,a,C,D,B,M,N,c,n,l,q⟩=>?_;subst M;obtain rfl:G=Value.ref a:=J;refine Zl<|jn<|Zl<|wpAny_holding<|XY R N c n l r λT O=>?_;exact wpAny_release ⟨U,_,O,q⟩
structure OCl(K:W.Frag)(C:Addr):Prop where
 cl:Cls K C
 gr:VG K C "ground"
 nu:VG K C "number"
 f:VG K C "f"
 pl:VG K C "place"
 kn:VG K C "known"
 bd:VG K C "body"
 wt:VG K C "waiting"
mutual
theorem Bd.ti:∀b:Bd,b.dat.ti=true
 |.tag t=>by simp[Bd.dat,Dat.ti,Dat.tis]
 |.name x=>by simp[Bd.dat,Dat.ti,Dat.tis]
 |.pair a b=>by simp[Bd.dat,Dat.ti,Dat.tis,Bd.ti a,Bd.ti b]
 |.one e=>by simp[Bd.dat,Dat.ti,Dat.tis,Bd.ti e]
 |.other e=>by simp[Bd.dat,Dat.ti,Dat.tis,Bd.ti e]
 |.choose e Z J=>by simp[Bd.dat,Dat.ti,Dat.tis,Bd.ti e,Bd.tib J Z]
 |.ask f G=>by simp[Bd.dat,Dat.ti,Dat.tis,Bd.tis G]
 |.letb x k e b=>by simp[Bd.dat,Dat.ti,Dat.tis,Bd.ti e,Bd.ti b]
theorem Bd.tis:∀Z:List Bd,Dat.tis (Bd.dats Z)=true
 |[]=>by simp[Bd.dats,Dat.tis]
 |b::Z=>by simp[Bd.dats,Dat.tis,Bd.ti b,Bd.tis Z]
theorem Bd.tib:∀(Z:List Bd)(J:kC),Dat.tis (Bd.brs Z J)=true
 |[],J=>by unfold Bd.brs;simp[Dat.tis]
 |b::Z,[]=>by simp[Bd.brs,Dat.tis,Dat.ti,Bd.ti b,Bd.tib Z []]
 |b::Z,t::J=>by simp[Bd.brs,Dat.tis,Dat.ti,Bd.ti b,Bd.tib Z J]
end
end L2
namespace K4
open PySem L2
section
variable{C CK CG CO:Addr}
def yW:Yh ["self","ground","number"] ["self","ground","number"] (Yd Kx):=Y2
def vE(A:BA):(UI A).lookup ("body_of":Str)=none:=rfl
end
end K4
namespace L2
open PySem
def UM(s:SameB l H J)(Z:H l=some (.lst G)):TK H J:=λb L h=>s _ _ (λz=>by rw[z,Z]at h;cases h) h
end L2
namespace K4
open PySem L2
section
variable{C CK CG CO:Addr}
def ya:Yh ["self","thing"] ["self","thing"] (Yd Xd):=Y2
end
section
variable{C CK CG CO:Addr}
def CU:Yh ["self","place","known","body"] ["self","place","known"] (Yd Wf):=Y2
def at0{v:V}{r:kL}:atI (v::r) 0=some v:=VD (j:=0) rfl
def at1{u v:V}{r:kL}:atI (u::v::r) 1=some v:=VD (j:=1) rfl
def at2{u v z:V}{r:kL}:atI (u::v::z::r) 2=some z:=VD (j:=2) rfl
def Rp{a b:Str}(h:a≠b):¬decide (V.str a=V.str b)=true:=λz=>h (by have:=Zt z;injection this)
end
end K4
namespace L2
open PySem
theorem L5:∀{bs:List Bd}{ts:kC}{k:Nat}{d:Dat},(Bd.brs bs ts)[k]?=some d->∃t b,ts[k]?=some t/\d=.tup [.str t,Bd.dat b]
 |[],_,k,d,h=>by unfold Bd.brs at h;simp at h
 |_::_,[],k,d,h=>by unfold Bd.brs at h;simp at h
 |b::bs,t::ts,0,d,h=>by unfold Bd.brs at h;cases h;exact⟨t,b,Y,Y⟩
 |b::bs,t::ts,k+1,d,h=>by unfold Bd.brs at h;exact L5 (bs:=bs) (ts:=ts) h
end L2
namespace K4
open PySem L2
section
variable{C CK CG CO:Addr}
def BC:Yh ["self","head","body","place","known","number","tag","branch"] ["self","head"] (Yd We):=Y2
def tagD(t:Str):Dat:=.tup [.str "tag",.str t]
end
section
variable{C CK CG CO:Addr}
def D4:Yh ["self","state"] ["self","state"] (Yd Ky):=Y2
def CY:Yh ["self"] ["self"] (Yd Bu):=Y2
end
end K4
namespace L2
open PySem
theorem Bd.at_snoc:∀(Z:kE){b c e:Bd}{k:Int},b.at Z=some c->0<=k->c.parts[k.toNat]?=some e->b.at (Z++[k])=some e
 |[],b,c,e,k,h,hk,hp=>by
  unfold Bd.at at h;cases h;rw[List.nil_append];unfold Bd.at;rw[Zp hk,hp];show Bd.at e []=some e;unfold Bd.at
  rfl
 |i::r,b,c,e,k,h,hk,hp=>by
  rw[List.cons_append];unfold Bd.at at h |-
  by_cases h0:0<=i
  .rw [Zp h0]at h |-
   cases hb:b.parts[i.toNat]? with
   |none=>rw[hb]at h;cases h
   |some J=>
    rw[hb]at h;exact Bd.at_snoc r h hk hp
  .rw [Zq h0]at h;cases h
end L2
namespace L2
open PySem PySem.Spec PyProof.Rows
abbrev WB:=Option Key
def XR:WB->Value->Prop
 |some k,v=>V0 k v=true
 |none,v=>v=.none
def LT(w:World):WB->Int
 |some k=>zN w k
 |none=>4238894112
def DK:Nat->Type
 |0=>WB
 |n+1=>Sum WB<|List<|DK n
def DK.dec:(n:Nat)->DecidableEq (DK n)
 |0=>inferInstanceAs<|DecidableEq<|Option Key
 |n+1=>have:=DK.dec n;inferInstanceAs (DecidableEq<|Sum WB<|List<|DK n)
instance (n:Nat):DecidableEq (DK n):=DK.dec n
def isQ(h:Heap):(n:Nat)->DK n->Value->Prop
 |0,k,v=>XR k v
 |_+1,.inl k,v=>XR k v
 |n+1,.inr ks,v=>∃(a:Addr)(o:Obj)(items:kI)(m:Nat),v=.ref a/\h.get? a=some o/\o.cls=.type "tuple" /\o.data=.seq items m/\Paired (isQ h n) ks items.toList
def Xw(w:World):(n:Nat)->DK n->Int
 |0,k=>LT w k
 |_+1,.inl k=>LT w k
 |n+1,.inr ks=>reduceHash<|Builtin.Tuple.tupleHashOf<|ks.map<|Xw w n
def Tc:(n:Nat)->DK n->Nat
 |0,_=>1
 |_+1,.inl _=>1
 |n+1,.inr ks=>(ks.map<|Tc n).sum+1
section
variable{prog:Program}{w:World}
def LR{A:Around}{E:kz}{s:Shared}{Q:Int->Shared->Prop}(h:Q 4238894112 {s with toks:=s.toks+1}):wpAny (model prog w) A (pyHash .none) Q E s:=by
 have Z:s.TypeIs .none "NoneType":=typeIs_none s;unfold pyHash
 first|unfold pyHashByItsType|skip
 have J:[Value.none].any Value.onHeap=false:=rfl;refine Zl ?_;rw[cRoomFor,Zq (by rw[J];exact Zi)];refine Zm ?_;refine Zl<|jy Z PySem.F.slot_NoneType_hash.lookup ?_;show wpAny _ _ (if(some (Value.builtin "NoneType.__hash__")==some Value.none)=true then _ else _) Q E s;rw[Zq (by rw[beq_builtin_none];exact Zi)];refine Zl<|jy Z PySem.F.slot_NoneType_hash.lookup ?_;show wpAny _ _ (callSpecialIfBoundUnlessNone? .none "__hash__" _ >>=_) Q E s;refine Zl (wpAny_callSpecialIfBoundUnlessNone?_slot Z PySem.F.slot_NoneType_hash
  (vq PySem.F.slot_NoneType_hash Z PySem.F.entry_NoneType_hash
   (show wpAny _ _ (do ret (<-mkInt 4238894112)) _ _ s from wpAny_ret_mkInt ?_) (PySem.F.args_NoneType_hash_1 _)))
 show wpAny _ _ (if(decide (-(2:Int) ^ 63<=4238894112) && decide ((4238894112:Int)<2 ^ 63))=true then _ else _) Q E _;rw[Zp (by decide)];exact Zm h
theorem JG:∀{k:WB}{v:Value},XR k v->(∃i t,k=some (Sum.inl i)/\v=Value.int i t)\/(∃x t,k=some (Sum.inr x)/\v=Value.str x t)\/(k=none/\v=Value.none)
 |some k,v,h=>by
  rcases VN (show V0 k v=true from h)with⟨i,t,rfl,rfl⟩|⟨x,t,rfl,rfl⟩
  .exact .inl ⟨i,t,rfl,rfl⟩
  .exact .inr (.inl ⟨x,t,rfl,rfl⟩)
 |none,v,h=>.inr<|.inr ⟨rfl,h⟩
def NV{A:Around}{E:kz}{s:Shared}{k:WB}{v:Value}{Q:Int->Shared->Prop}(Z:XR k v)(h:Q (LT w k) {s with toks:=s.toks+1}):wpAny (model prog w) A (pyHash v) Q E s:=by
 cases k with
 |none=>cases(show v=Value.none from Z);exact LR h
 |some k=>exact(Y9 prog w).pyHash (show V0 k v=true from Z) h
def Lm{A:Around}{E:kz}{s:Shared}{a b:WB}{u v:Value}{Q:Bool->Shared->Prop}(J:XR a u)(Z:XR b v)(h:Q (decide<|a=b) s):wpAny (model prog w) A (eqBool u v) Q E s:=by
 cases a with
 |none=>
  cases(show u=Value.none from J)
  cases b with
  |none=>
   cases(show v=Value.none from Z);rw[decide_eq_true rfl]at h;exact SeqAt.EqAt.same _ _ _ _ _ h
  |some b=>
   rw[Zy (λz=>nomatch z)]at h;rcases JG Z with⟨i,t,_,rfl⟩|⟨x,t,_,rfl⟩|⟨e,_⟩
   .exact SeqAt.EqAt.none_int i t _ _ _ _ h
   .exact SeqAt.EqAt.none_str x t _ _ _ _ h
   .cases e
 |some a=>
  cases b with
  |none=>
   cases(show v=Value.none from Z);rw[Zy (λz=>nomatch z)]at h;rcases JG J with⟨i,t,_,rfl⟩|⟨x,t,_,rfl⟩|⟨e,_⟩
   .exact SeqAt.EqAt.int_none i t _ _ _ _ h
   .exact SeqAt.EqAt.str_none x t _ _ _ _ h
   .cases e
  |some b=>
   refine(Y9 prog w).eqBool (show V0 a u=true from J) (show V0 b v=true from Z) ?_;have:decide (a=b)=decide (some a=some b):=by simp
   rw[this];exact h
def EK{a b:WB}{v:Value}(G:XR a v)(J:XR b v):a=b:=by
 rcases JG G with⟨i,t,rfl,rfl⟩|⟨x,t,rfl,rfl⟩|⟨rfl,rfl⟩ <;> rcases JG J with⟨j,u,rfl,e⟩|⟨y,u,rfl,e⟩|⟨rfl,e⟩
 .injection e with Z _;rw[Z]
 .exact nomatch e
 .exact nomatch e
 .exact nomatch e
 .injection e with Z _;rw[Z]
 .exact nomatch e
 .exact nomatch e
 .exact nomatch e
 .rfl
def EJ{k:WB}{a:Addr}(h:XR k (.ref a)):False:=by
 rcases JG h with⟨i,t,_,e⟩|⟨x,t,_,e⟩|⟨_,e⟩ <;> exact nomatch e
theorem Md{h:Heap}:∀{n:Nat}{x y:DK n}{v:Value},isQ h n x v->isQ h n y v->x=y
 |0,_,_,_,hx,hy=>EK hx hy
 |_+1,.inl _,.inl _,_,hx,hy=>congrArg Sum.inl<|EK hx hy
 |_+1,.inl _,.inr _,_,hx,⟨a,_,_,_,e,_⟩=>by subst e;exact(EJ hx).elim
 |_+1,.inr _,.inl _,_,⟨a,_,_,_,e,_⟩,hy=>by subst e;exact(EJ hy).elim
 |n+1,.inr xs,.inr ys,v,⟨a,o,it,m,e,ho,_,hd,hp⟩,⟨a',o',it',m',e',ho',_,hd',hp'⟩=>by
  subst e;cases e';rw[ho]at ho';cases ho';rw[hd]at hd';injection hd' with G _;subst G;refine congrArg Sum.inr ?_;generalize it.toList=vs at hp hp';clear hd ho
  induction hp generalizing ys with
  |nil=>cases hp';rfl
  |cons r t ih=>
   cases hp' with
   |cons J Z=>rw[Md r J,ih _ Z]
theorem RE{h L:Heap}{d:Addr}{o:Obj}{M:Array DictEntry}{N:Nat}(Z:h.get? d=some o)(hd:o.data=.dict M N)(G:Heap.SameBut d h L):∀{n:Nat}{k:DK n}{v:Value},isQ h n k v->isQ L n k v
 |0,_,_,hx=>hx
 |_+1,.inl _,_,hx=>hx
 |n+1,.inr ks,v,⟨a,oa,it,m,e,ha,hc,hda,hp⟩=>by
  have J:a≠d:=by
   rintro rfl;rw[ha]at Z;cases Z;rw[hd]at hda;exact nomatch hda
  exact⟨a,oa,it,m,e,(G.2 a J).trans ha,hc,hda,Paired.mapP hp λ_ _ z=>RE Z hd G z⟩
theorem LS:∀{n:Nat}{k:DK n}{A:Around}{E:kz}{s:Shared}{v:Value}{Q:Int->Shared->Prop},A.units+n<=cLine->isQ s.heap n k v->Q (Xw w n k) {s with toks:=s.toks+Tc n k}->wpAny (model prog w) A (pyHash v) Q E s
 |0,_,_,_,_,_,_,_,hk,h=>NV hk h
 |_+1,.inl _,_,_,_,_,_,_,hk,h=>NV hk h
 |n+1,.inr ks,A,E,s,v,Q,hu,⟨a,o,items,m,e,ho,hc,hd,hi⟩,h=>by
  subst e;have G:s.TypeIs (.ref a) "tuple":=⟨o,ho,hc⟩;unfold pyHash
  first|unfold pyHashByItsType|skip
  first|refine Zl (wpAny_cRoomFor_or (.inr<|by omega) ?_)|skip
  refine Zl<|jy G PySem.F.slot_tuple_hash.lookup ?_;show wpAny _ _ (if(some (Value.builtin "tuple.__hash__")==some Value.none)=true then _ else _) Q E s;rw[Zq (by rw[beq_builtin_none];exact Zi)];refine Zl<|jy G PySem.F.slot_tuple_hash.lookup ?_;show wpAny _ _ (callSpecialIfBoundUnlessNone? (.ref a) "__hash__" _ >>=_) Q E s;refine Zl<|wpAny_callSpecialIfBoundUnlessNone?_slot G PySem.F.slot_tuple_hash<|vq PySem.F.slot_tuple_hash G PySem.F.entry_tuple_hash ?_<|PySem.F.args_tuple_hash_1 _;show wpAny _ _ (Builtin.Tuple.tupleItemsOf (.ref a) >>=_) _ _ s;refine Zl<|wpAny_tupleItemsOf ho hd ?_;refine Zl ?_;rw[<-j6];refine wpAny_forIn_list _
   (λrest (b:Array Int) L=>∃done left,ks=done++ left/\Paired (isQ s.heap n) left rest/\b.toList=done.map (Xw w n)/\L={s with toks:=s.toks+(done.map<|Tc n).sum})
   _ ?_ ?_ _ _ ⟨[],ks,rfl,hi,rfl,rfl⟩
  .rintro x rest b L ⟨done,left,rfl,hl,hb,rfl⟩
   cases hl with
   | @cons k _ Z _ M J=>
    refine Zl (LS (n:=n) (k:=k) (by show A.units+1+n<=cLine;omega) M ?_)
    first
     |exact Zm ⟨done++[k],Z,by simp,J,by simp[hb],by simp[qP]⟩
     |exact Zl<|Zm<|Zm ⟨done++[k],Z,by simp,J,by simp[hb],by simp[qP]⟩
  .rintro b L ⟨done,left,rfl,hl,hb,rfl⟩
   cases hl;rw[ja]at h;show wpAny _ _ (retInt<|Builtin.Tuple.tupleHashOf b.toList) _ _ _;rw[hb];refine wpAny_ret_mkInt ?_;show wpAny _ _ (if(decide (-(2:Int) ^ 63<=Builtin.Tuple.tupleHashOf (done.map<|Xw w n)) && decide (Builtin.Tuple.tupleHashOf (done.map<|Xw w n)<2 ^ 63))=true then _ else _) Q E _;replace h:Q (reduceHash<|Builtin.Tuple.tupleHashOf<|done.map<|Xw w n) {s with toks:=s.toks+((done.map<|Tc n).sum+1)}:=h;unfold reduceHash at h
   by_cases hr:(decide (-(2:Int) ^ 63<=Builtin.Tuple.tupleHashOf (done.map<|Xw w n)) && decide (Builtin.Tuple.tupleHashOf (done.map<|Xw w n)<2 ^ 63))=true
   .rw [Zp hr]
    rw[Zp hr]at h;exact Zm<|by simpa[qP]using h
   .rw [Zq hr]
    rw[Zq hr]at h;exact Zl<|jD<|Zm<|by simpa[qP]using h
theorem D6:∀{n m:Nat}{k:DK n}{A:Around}{E:kz}{s:Shared}{v:Value}{Q:Bool->Shared->Prop},n<=m->isQ s.heap n k v->Q true s->wpAny (model prog w) A (eqIsQuiet m v) Q E s
 |0,m,_,_,_,_,v,_,_,hk,h=>by
  rw[eqIsQuiet_byValue m (by rcases JG hk with⟨i,t,_,rfl⟩|⟨x,t,_,rfl⟩|⟨_,rfl⟩ <;> rfl)];exact Zm h
 |_+1,m,.inl _,_,_,_,v,_,_,hk,h=>by
  rw[eqIsQuiet_byValue m (by rcases JG hk with⟨i,t,_,rfl⟩|⟨x,t,_,rfl⟩|⟨_,rfl⟩ <;> rfl)];exact Zm h
 |n+1,0,.inr _,_,_,_,_,_,hm,_,_=>Zr hm<|Nat.not_succ_le_zero _
 |n+1,m+1,.inr ks,A,E,s,v,Q,hm,⟨a,o,items,c,e,ho,hc,hd,hi⟩,h=>by
  subst e;have L:s.TypeIs (.ref a) "tuple":=⟨o,ho,hc⟩;unfold eqIsQuiet;refine Zl<|jy L PySem.F.slot_tuple_eq.lookup ?_;show wpAny _ _ (isInstance (.ref a) (.type "tuple") >>=_) _ _ s;refine Zl<|jY L isSubtype_tuple_tuple ?_;simp only[qc,jc,if_false];refine Zl<|vz ho hd ?_;refine Zl ?_;show wpAny _ _ (forIn items _ _) _ _ s;rw[<-j6];refine wpAny_forIn_list _ (λrest r Z=>r.1=none/\Z=s/\∃left,Paired (isQ s.heap n) left rest) _ ?_ ?_ _ _ ⟨Y,Y,ks,hi⟩
  .rintro v rest r Z ⟨hr,rfl,left,hl⟩
   cases hl with
   | @cons k _ J _ M G=>
    refine Zl<|D6 (n:=n) (m:=m) (k:=k) (Nat.le_of_succ_le_succ hm) M ?_;simp only[qc,jc,if_false];exact Zm ⟨Y,Y,J,G⟩
  .rintro ⟨r1,r2⟩ Z ⟨hr,rfl,_⟩
   simp only at hr;subst hr;exact Zm h
theorem za:∀{n:Nat}{x y:DK n}{A:Around}{E:kz}{s:Shared}{u v:Value}{Q:Bool->Shared->Prop}{r:Bool},A.units+n<=cLine->isQ s.heap n x u->isQ s.heap n y v->(r=true↔x=y)->Q r s->wpAny (model prog w) A (eqBool u v) Q E s
 |0,x,y,_,_,_,_,_,_,r,_,hx,hy,Z,h=>by
  have P:∀(x y:WB),(r=true↔x=y)->decide (x=y)=r:=λx y Z=>by
   cases r with
   |true=>exact decide_eq_true<|Z.mp rfl
   |false=>exact Zy λz=>Zi<|Z.mpr z
  refine Lm hx hy ?_;rw[P x y Z];exact h
 |n+1,.inl x,.inl y,_,_,_,_,_,_,r,_,hx,hy,Z,h=>by
  refine Lm hx hy ?_
  have e:decide (x=y)=r:=by
   cases r with
   |true=>exact decide_eq_true<|Sum.inl.inj<|Z.mp rfl
   |false=>exact Zy λz=>Zi<|Z.mpr<|congrArg Sum.inl z
  rw[e];exact h
 |n+1,.inl x,.inr ys,A,E,s,u,v,Q,r,hu,hx,⟨a,o,it,m,e,ho,hc,hd,_⟩,Z,h=>by
  subst e;have F:r=false:=qY.mpr λz=>nomatch Z.mp z
  subst F;have L:s.heap.IsTuple a it:=⟨o,ho,hc,m,hd⟩;rcases JG hx with⟨i,t,_,rfl⟩|⟨z,t,_,rfl⟩|⟨_,rfl⟩
  .exact SeqAt.EqAt.int_tuple i t L (by omega) _ _ _ _ h
  .exact SeqAt.EqAt.str_tuple z t L (by omega) _ _ _ _ h
  .exact SeqAt.EqAt.none_tuple L (by omega) _ _ _ _ h
 |n+1,.inr xs,.inl y,A,E,s,u,v,Q,r,hu,⟨a,o,it,m,e,ho,hc,hd,_⟩,hy,Z,h=>by
  subst e;have F:r=false:=qY.mpr λz=>nomatch Z.mp z
  subst F;have L:s.heap.IsTuple a it:=⟨o,ho,hc,m,hd⟩;rcases JG hy with⟨i,t,_,rfl⟩|⟨z,t,_,rfl⟩|⟨_,rfl⟩
  .exact SeqAt.EqAt.tuple_int i t L (by omega) _ _ _ _ h
  .exact SeqAt.EqAt.tuple_str z t L (by omega) _ _ _ _ h
  .exact SeqAt.EqAt.tuple_none L (by omega) _ _ _ _ h
 |n+1,.inr x,.inr y,A,E,s,u,v,Q,r,hu,⟨a,oa,xs,na,e,hoa,hca,hda,hia⟩,⟨b,ob,ys,nb,e',hob,hcb,hdb,hib⟩,hr0,h=>by
  subst e;subst e';have S:s.TypeIs (.ref a) "tuple":=⟨oa,hoa,hca⟩;have I:s.TypeIs (.ref b) "tuple":=⟨ob,hob,hcb⟩
  have c:r=decide (x=y):=by
   cases r with
   |true=>exact(decide_eq_true<|Sum.inr.inj<|hr0.mp rfl).symm
   |false=>exact(Zy λz=>Zi<|hr0.mpr<|congrArg Sum.inr z).symm
  subst c;unfold eqBool
  try with_reducible refine wpAny_holding ?_
  show wpAny _ _ (if(Value.ref a==Value.ref b)=true then _ else _) Q E s
  by_cases hab:(Value.ref a==Value.ref b)=true
  .rw [Zp hab]
   have e:a=b:=by have:=eq_of_beq hab;injection this
   subst e;have q:(Sum.inr x:DK (n+1))=Sum.inr y:=Md (h:=s.heap) (n:=n+1) (v:=.ref a) ⟨a,oa,xs,na,rfl,hoa,hca,hda,hia⟩ ⟨a,ob,ys,nb,rfl,hob,hcb,hdb,hib⟩;rw[decide_eq_true (Sum.inr.inj q)]at h;exact Zl<|jD<|Zm h
  .rw [Zq hab]
   refine Zl (wpAny_richCompare_same_room (op:=.Eq) S I PySem.F.slot_tuple_eq
    (vq PySem.F.slot_tuple_eq S PySem.F.entry_tuple_eq ?_<|PySem.F.args_tuple_eq_2 _ _) (by omega))
   show wpAny _ _ (isInstance (.ref b) (.type "tuple") >>=_) _ _ s;refine Zl<|jY I isSubtype_tuple_tuple ?_;simp only[qc,jc,if_false];refine Zl<|wpAny_tupleItemsOf hoa hda ?_;refine Zl<|wpAny_tupleItemsOf hob hdb ?_;refine Zl ?_;refine wpAny_forIn_list _
    (λrest r X=>r.1=none/\X=s/\∃C U G J,rest=List.zip G J/\Paired (isQ s.heap n) C G/\Paired (isQ s.heap n) U J/\decide (C=U)=decide (x=y)/\(G.length==J.length)=(xs.size==ys.size))
    _ ?_ ?_ _ _ ⟨rfl,rfl,x,y,xs.toList,ys.toList,rfl,hia,hib,rfl,by simp⟩
   .rintro ⟨u,v⟩ rest r X ⟨Z,rfl,C,U,G,J,hz,hx',hy',hdec,hlen⟩
    cases hx' with
    |nil=>simp at hz
    | @cons g f R O p B=>
     cases hy' with
     |nil=>simp at hz
     | @cons j d N M k T=>
      simp only[jJ,List.cons.injEq,Prod.mk.injEq]at hz;obtain⟨⟨rfl,rfl⟩,rfl⟩:=hz;refine Zl<|za (n:=n) (x:=g) (y:=j) (r:=decide<|g=j) (by show A.units+1+n<=cLine;omega) p k decide_eq_true_iff ?_
      by_cases hk:g=j
      .subst hk
       rw[decide_eq_true rfl];simp only[qc,jc,if_false];refine Zm ⟨Y,Y,R,N,O,M,Y,B,T,?_,by simpa using hlen⟩;rw[<-hdec]
       by_cases hxy:R=N
       .simp [hxy]
       .simp [hxy]
      .rw [Zy hk]
       simp only[Bool.not_false,if_true];have F:decide (x=y)=false:=by rw[<-hdec];simp[hk]
       rw[F]at h;exact Zl<|Zm<|Zm<|Zm ⟨_,rfl,(λe=>nomatch e),vv h⟩
   .rintro ⟨r1,r2⟩ X ⟨Z,rfl,C,U,G,J,hz,hx',hy',hdec,hlen⟩
    simp only at Z;subst Z;refine Zm ?_
    have D:(xs.size==ys.size)=decide (x=y):=by
     rw[<-hdec,<-hlen]
     cases hx' with
     |nil=>
      cases hy' with
      |nil=>simp
      |cons _ _=>simp
     |cons _ _=>
      cases hy' with
      |nil=>simp
      |cons _ _=>simp at hz
    rw[<-D]at h;exact⟨_,Y,(λe=>nomatch e),vv h⟩
def X3(prog:Program)(w:World)(n:Nat)(hn:n+1<=8):HeapKind prog w (List<|DK n) where
 is:=λh Z a=>isQ h (n+1) (.inr Z) (.ref a)
 hash:=λZ=>Xw w (n+1) (.inr Z)
 draws:=λZ=>Tc (n+1) (.inr Z)
 room:=λA=>A.units+(n+1)<=cLine
 inj:=λG J=>Sum.inr.inj (Md G J)
 keeps:=λx O hd N=>RE O hd N x
 pyHash:=λL M h=>LS L M h
 eqBool:=λ{A E s x y a b Q} L G J h=>za (r:=decide<|x=y) L G J ⟨λz=>congrArg Sum.inr<|Zt z,λz=>decide_eq_true<|Sum.inr.inj z⟩ h
 quiet:=λM h=>D6 hn M h
end
def knD:WB->Dat
 |none=>.non
 |some (.inl i)=>.int i
 |some (.inr x)=>.str x
def dkD:(n:Nat)->DK n->Dat
 |0,k=>knD k
 |_+1,.inl k=>knD k
 |n+1,.inr ks=>.tup<|ks.map<|dkD n
theorem LH{x:V}{v:Value}:∀{k:WB},Has H x (knD k)->RelV x v->XR k v
 |none,h,r=>by
  unfold knD Has at h;subst h;exact(show v=Value.none from r)
 |some (.inl i),h,r=>by
  unfold knD Has at h;subst h;obtain⟨t,e⟩:=(show ∃t,v=Value.int i t from r);subst e;exact RC i t
 |some (.inr z),h,r=>by
  unfold knD Has at h;subst h;obtain⟨t,e⟩:=(show ∃t,v=Value.str z t from r);subst e;exact Wl z t
theorem TH(M:HOk P w H h):∀{n:Nat}{k:DK n}{x:V}{v:Value},Has H x (dkD n k)->RelV x v->isQ h n k v
 |0,_,_,_,hk,r=>LH hk r
 |_+1,.inl _,_,_,hk,r=>LH hk r
 |n+1,.inr J,x,v,hk,r=>by
  have L:Has H x (.tup<|J.map<|dkD n):=hk;unfold Has at L;obtain⟨a,T,rfl,O,Z⟩:=L;cases(show v=Value.ref a from r);obtain⟨R,G,B,o,N,_,E,m,hd⟩:=(show VO P w H h a (.tup T)from M a _ O);clear R;exists a,o,G.toArray,m,Y,N,E,hd;show Paired (isQ h n) J G.toArray.toList;rw[List.toList_toArray];clear N hd O r hk
  induction B generalizing J with
  |nil=>
   cases J with
   |nil=>exact .nil
   |cons k J=>unfold List.map HasL at Z;exact Z.elim
  |cons D t ih=>
   cases J with
   |nil=>unfold List.map HasL at Z;exact Z.elim
   |cons k J=>
    rw[ZV]at Z;unfold HasL at Z;exact .cons (TH M Z.1 D)<|ih _ Z.2
abbrev DE(n:Nat):=List (DK n)×Addr×V
def keD{n:Nat}(k:List (DK n)):Dat:=.tup<|k.map<|dkD n
def KDp{n:Nat}(kvs:List (DE n))(xs:List (List (DK n)×Addr×Value)):Prop:=Paired (λ(p:DE n)(q:List (DK n)×Addr×Value)=>p.1=q.1/\p.2.1=q.2.1/\RelV p.2.2 q.2.2) kvs xs
def ddO(P:Program)(w:World)(n:Nat)(hn:n+1<=8)(a:Addr)(kvs:List (DE n)):HO:=.ext λh=>kvs.length<=sizeLine/\(a==sysModules)=false/\∃Z:List (List (DK n)×Addr×Value),KDp kvs Z/\
 ∃(o:Obj)(J:Array DictEntry)(G:Nat),h.get? a=some o/\o.ExactDict/\o.data=.dict J G/\J.toList=Z.map (entryOfKey<|X3 P w n hn)/\(Z.map (·.1)).Nodup
def KOk{n:Nat}(H:Hp)(kvs:List (DE n)):Prop:=∀p∈kvs,Has H (.ref p.2.1)<|keD p.1
def Rj{n:Nat}(kvs:List (DE n))(k:List (DK n)):kP:=(kvs.find? λp=>decide<|p.1=k).map (·.2.2)
def putD{n:Nat}(kvs:List (DE n))(k:List (DK n))(b:Addr)(v:V):List (DE n):=if(Rj kvs k).isSome then kvs.map (λp=>if p.1=k then(p.1,p.2.1,v)else p)else kvs++[(k,b,v)]
def KDp.val{n:Nat}{Z:List (DE n)}{J}(r:KDp Z J)(k:List (DK n)):UX (Rj Z k) ((atKey J k).map (·.2)):=by
 induction r with
 |nil=>exact True.intro
 | @cons p q N M h t ih=>
  obtain⟨G,O,L⟩:=h;unfold Rj atKey at ih |-;rw[vy,vy]
  by_cases e:p.1=k
  .rw [decide_eq_true e,decide_eq_true (G.symm.trans e)];exact L
  .rw [Zy e,Zy λz=>e (G.trans z)];exact ih
def KDp.put{n:Nat}{Z:List (DE n)}{J}(r:KDp Z J)(k:List (DK n))(b:Addr)(L:RelV y u):KDp (putD Z k b y) (storedH J k b u):=by
 have e:(Rj Z k).isSome=(atKey J k).isSome:=by
  rw[(r.val k).isSome_eq,jM]
 unfold putD storedH;rw[e]
 by_cases q:(atKey J k).isSome=true
 .rw [Zp q,Zp q]
  clear e q
  induction r with
  |nil=>exact .nil
  | @cons p q R O h t ih=>
   rw[ZV,ZV];refine .cons ?_ ih;obtain⟨G,M,N⟩:=h;unfold putAt
   by_cases e:p.1=k
   .rw [Zp e,Zp (G.symm.trans e)];exact⟨G,M,L⟩
   .rw [Zq e,Zq (λz=>e<|G.trans z)];exact⟨G,M,N⟩
 .rw [Zq q,Zq q];exact Paired.snoc r ⟨Y,Y,L⟩
def Iw{n:Nat}(Z:List (DE n))(k:List (DK n))(b:Addr)(v:V):(putD Z k b v).length<=Z.length+1:=by
 unfold putD
 split
 .rw [ZA];exact qz _
 .rw [ZL];exact ZG _
def KOk.put{n:Nat}{Z:List (DE n)}{k:List (DK n)}{b:Addr}{v:V}(h:KOk H Z)(J:Has H (.ref b) (keD k)):KOk H (putD Z k b v):=λp m=>by
 unfold putD at m
 split at m
 .obtain ⟨q,hq,e⟩:=ZW.mp m
  subst e
  by_cases c:q.1=k
  .rw [Zp c];exact h q hq
  .rw [Zq c];exact h q hq
 .rcases ZX.mp m with m|m
  .exact h p m
  .rw [ZQ.mp m];exact J
section
variable{X:Cx}{n:Nat}{hn:n+1<=8}
def Eb{Z:List (DE n)}(L:HOk P w H h)(e:H a=some (ddO P w n hn a Z))(k:KOk H Z):Z.length<=sizeLine/\(a==sysModules)=false/\∃G,KDp Z G/\h.DictOfH (X3 P w n hn) a G:=by
 obtain⟨⟨z,y,G,r,o,A,I,D,B,T,N,M⟩,O⟩:=(show VO P w H h a (ddO P w n hn a Z)from L a _ e);refine⟨z,y,G,r,o,A,I,D,B,T,N,?_,M⟩;clear e N M O z
 induction r with
 |nil=>exact λx J=>nomatch J
 | @cons p q U S R t ih=>
  intro x J;rcases Zd.mp J with e|J
  .subst e
   obtain⟨F,E,_⟩:=R;have:=k p Za;rw[F,E]at this;exact TH (n:=n+1) (k:=.inr x.1) L this Y
  .exact ih (λp m=>k p<|ZM _ m) x J
def DGd(P:Program)(w:World)(n:Nat)(hn:n+1<=8)(H:Hp)(a:Addr)(y:V)(r:kP):Prop:=∃(Z:List (DE n))(k:List (DK n))(b:Addr),H a=some (ddO P w n hn a Z)/\KOk H Z/\y=.ref b/\Has H (.ref b) (keD k)/\r=Rj Z k
def DPd(P:Program)(w:World)(n:Nat)(hn:n+1<=8)(H:Hp)(a:Addr)(y v:V)(H':Hp):Prop:=∃(Z:List (DE n))(k:List (DK n))(b:Addr),H a=some (ddO P w n hn a Z)/\KOk H Z/\y=.ref b/\Has H (.ref b) (keD k)/\Z.length<sizeLine/\H'=upd H a (ddO P w n hn a<|putD Z k b v)
def Bf{P:Program}{w:World}{A:Around}(Z:A.units+16<cLine):(X3 P w n hn).room A.in1:=by
 show A.units+1+(n+1)<=cLine;omega
def DJ(F:A.units+16<cLine)(I:Inv X Z U H s)(g:DGd X.prog X.w n hn H a y (some v))(R:RelV y u)(h:∀J N,Inv X Z U H N->RelV v J->Q J N):
  wpAny (model X.prog X.w) A (getItem (.ref a) u) Q E s:=by
 obtain⟨T,k,b,e,B,C,P,l⟩:=g;subst C;cases(show u=Value.ref b from R);obtain⟨z,hd,O,L,j⟩:=Eb I.hok e B;obtain⟨J,D,G⟩:=UX.some_of (v:=v) (o:=(atKey O k).map (·.2)) (by rw[l];exact L.val k);obtain⟨p,S,M⟩:=Zj.mp D;refine wpAny_getItem_heap (Bf F) (TH (n:=n+1) (k:=.inr k) I.hok P Y) j S ?_;rw[M];exact h J _ (I.tok _) G
def Lu(O:A.units+16<cLine)(I:Inv X Z U H s)(g:DGd X.prog X.w n hn H a y o)(L:RelV y u)(h:∀G,Inv X Z U H G->Q (.bool<|!o.isSome) G):
  wpAny (model X.prog X.w) A (compareOp .NotIn u<|.ref a) Q E s:=by
 obtain⟨M,k,b,e,N,R,T,l⟩:=g;subst R;cases(show u=Value.ref b from L);obtain⟨z,hd,D,J,B⟩:=Eb I.hok e N;refine wpAny_notIn_heap (Bf O) (TH (n:=n+1) (k:=.inr k) I.hok T Y) hd B ?_;have q:=(J.val k).isSome_eq;rw[jM]at q;rw[<-q,<-l];exact h _<|I.tok _
def Q1{Z:List (DE n)}{G}(z:Z.length<=sizeLine)(hd:(a==sysModules)=false)(r:KDp Z G)(d:h.DictOfH (X3 P w n hn) a G):VO P w H h a (ddO P w n hn a Z):=by
 obtain⟨o,C,Q,R,I,F,E,_,D⟩:=d;refine⟨⟨z,hd,G,r,o,C,Q,R,I,F,E,D⟩,⟨o,R⟩,λS A q k=>?_⟩;obtain⟨T,L,J,B,O,M,N,U,g⟩:=q;exact⟨T,L,J,B,O,M,N,k O U,g⟩
def DI(D:A.units+16<cLine)(I:Inv X J U H s)(g:DPd X.prog X.w n hn H a y v p)(O:RelV y u)(R:RelV v r)(h:∀M,Inv X J U p M->Q () M):
  wpAny (model X.prog X.w) A (setItem (.ref a) u r) Q E s:=by
 obtain⟨G,k,b,e,T,P,j,l,t⟩:=g;subst P t;cases(show u=Value.ref b from O);obtain⟨z,hd,N,Z,m⟩:=Eb I.hok e T;have B:N.length<=sizeLine:=by rw[<-Paired.length Z];exact z
 have C:(putD G k b v).length<=sizeLine:=by have:=Iw G k b v;omega
 refine wpAny_setItem_heap (hsz:=B) (Bf D) (TH (n:=n+1) (k:=.inr k) I.hok j Y) m λc L F=>h _ ?_;exact GY I (by rw[e];exact True.intro) F (let⟨q,_,_,S,_⟩:=L;⟨q,S⟩)<|Q1 C hd (Z.put k b R) L
def QE(I:Inv X Z U H s)(g:DGd X.prog X.w n hn H a y o):s.TypeIs (.ref a) "dict":=by
 obtain⟨J,k,b,e,G,_⟩:=g;obtain⟨_,_,M,_,L⟩:=Eb I.hok e G;exact L.typeIs
def SU(P:Program)(w:World)(n:Nat)(hn:n+1<=8)(td ty:TE):TE:=λU H Q=>td U H λx J=>ty U J λy Z=>V7 x λa=>∃v,DGd P w n hn Z a y (some v)/\Q v Z
def Fw(P:Program)(w:World)(n:Nat)(hn:n+1<=8)(ty td:TE):TE:=λU H Q=>ty U H λy J=>td U J λx Z=>V7 x λa=>∃o,DGd P w n hn Z a y o/\Q (.bl<|!o.isSome) Z
def S4(P:Program)(w:World)(n:Nat)(hn:n+1<=8)(td ty tv:TE):TS:=λD U H=>tv U H λv L=>td U L λx G=>ty U G λy J=>V7 x λa=>∃Z,DPd P w n hn J a y v Z/\D.nx U Z
def SS(P:Program)(w:World)(n:Nat)(hn:n+1<=8):TE:=λU H Q=>∀a,H a=none->Q (.ref a) (upd H a<|ddO P w n hn a [])
def KJ(R:X.A.units+16<cLine)(B:PE X o td)(D:PE X i ty)(T:QN i):PE X (.Subscript o i pos) (SU X.prog X.w n hn td ty):=by
 intro Z s U H Q I h;refine Ro PySem.F.slot_dict_getitem.lookup T<|thn (B Z s U H _ I h) λu s1 ⟨x,C,A,N,O⟩=>thn (D Z s1 U C _ A O) λq z ⟨y,S,L,M,J⟩=>?_;replace J:=V7.old J;obtain⟨a,E,v,g,J⟩:=J;subst E;obtain rfl:u=Value.ref a:=N;exact⟨QE L g,DJ R L g M λP j F G=>⟨v,S,F,G,J⟩⟩
def Bj(O:X.A.units+16<cLine)(T:PE X i ty)(R:PE X o td):PC X .NotIn i o (Fw X.prog X.w n hn ty td):=by
 intro Z s U H Q I h;refine thn (T Z s U H _ I h) λj s1 ⟨y,S,F,G,M⟩=>thn (R Z s1 U S _ F M) λu P ⟨x,A,E,L,J⟩=>?_;replace J:=V7.old J;obtain⟨a,B,N,g,J⟩:=J;subst B;obtain rfl:u=Value.ref a:=L;exact Lu O E g G λC D=>⟨.bl<|!N.isSome,A,D,rfl,J⟩
def Iz(B:X.A.units+16<cLine)(F:PE X o td)(A:PE X i ty)(T:PE X value tv)(E:swapsWith value (some<|.Subscript o i pos') pos.line X.env=pure false):
  PS X (.Assign [.Subscript o i pos'] value pos) (S4 X.prog X.w n hn td ty tv):=by
 intro Z s U H D I h;refine wpAny_Assign_Subscript (thn (T Z s U H _ I h) λr s1 ⟨v,t,j,N,R⟩=>thn (F Z s1 U t _ j R) λu G ⟨x,q,Q,M,O⟩=>thn (A Z G U q _ Q O) λp k ⟨y,c,P,L,J⟩=>?_) E;replace J:=V7.old J;obtain⟨a,S,z,g,J⟩:=J;subst S;obtain rfl:u=Value.ref a:=M;exact DI B P g L N λm C=>⟨U,z,C,J⟩
def Lv{P:Program}{w:World}(h:Heap)(Z:sysModules<h.objs.size):VO P w H (h.push {cls:=.type "dict",data:=.dict #[]}) h.objs.size (ddO P w n hn h.objs.size []):=by
 refine Q1 (Zc _) (beq_eq_false_iff_ne.mpr<|jg Z) .nil ⟨_,#[],_,ZY _ rfl,?_,rfl,rfl,(λx m=>nomatch m),jm⟩;exact⟨Y,Y,Y⟩
def KH:PE X (.Dict [] [] pos) (SS X.prog X.w n hn):=λZ s U H Q I h=>
 wpAny_Dict_empty ⟨.ref s.heap.objs.size,_,I.laid (a:=s.heap.objs.size) (o:=ddO X.prog X.w n hn s.heap.objs.size []) (t':=s.toks) (λ_ _ q=>ZE _ q) (ZG _)<|Lv s.heap I.big,rfl,h _<|I.hok.fresh<|ZG _⟩
def y0(Z:Vr k A):A.units+16<cLine:=by have:=Z.un;omega
end
end L2
namespace L2
open PySem
inductive Tg where
 |tag (t:Str)|cell (n:Nat)|giv (i:Nat)
def Tg.dat:Tg->Dat
 |.tag t=>.tup [.str "tag",.str t]
 |.cell n=>.tup [.str "cell",.int (n:Nat)]
 |.giv i=>TQ i []
def Tg.ti(x:Tg):x.dat.ti=true:=by cases x <;> simp[Tg.dat,Dat.ti,Dat.tis,Lb]
abbrev Mk1:=Nat×List Int
def hn1:1+1<=8:=by decide
def kyD(c:Mk1):List (DK 1):=[.inl (some<|.inl (c.1:Int)),.inr (c.2.map λi=>some<|.inl i)]
theorem EH:∀Z:kE,List.map (dkD 0) (Z.map λi=>(some (.inl i):WB))=Z.map Dat.int
 |[]=>rfl
 |w::Z=>congrArg (Dat.int w:: ·)<|EH Z
def GL(c:Mk1):keD (kyD c)=.tup [.int (c.1:Nat),Jt c.2]:=congrArg (λz=>Dat.tup [Dat.int (c.1:Nat),Dat.tup z])<|EH c.2
def EI{a b:Mk1}(h:kyD a=kyD b):a=b:=by
 obtain⟨G,O⟩:=a;obtain⟨J,N⟩:=b;unfold kyD at h;have Z:=List.cons.inj h;have L:=(List.cons.inj Z.2).1;have R:(G:Int)=J:=Sum.inl.inj<|ZT<|Sum.inl.inj Z.1;have M:O=N:=(List.map_inj_right λi j z=>Sum.inl.inj<|ZT z).mp<|Sum.inr.inj L;rw[show G=J by omega,M]
def L4(bs:kQ)(c:Mk1):Dat:=.tup [bs.getD c.1 (.tup []),Jt c.2]
def Vq(cs:List Mk1):kQ:=cs.foldl (λZ c=>Z++[L4 Z c]) [.tup []]
def U3:Vq (cs++[c])=Vq cs++[L4 (Vq cs) c]:=by unfold Vq;rw[j8];rfl
theorem Uj:∀(n:Nat)(Z:List Mk1),Z.length=n->(Vq Z).length=n+1/\∀d∈Vq Z,d.ti=true
 |0,Z,h=>by
  obtain rfl:=vj h;refine⟨Y,λd hd=>?_⟩;have:d=.tup []:=ZQ.mp hd;subst this;simp[Dat.ti,Dat.tis]
 |n+1,Z,h=>by
  have J:Z≠[]:=λz=>by rw[z]at h;cases h
  rw[<-vw J,U3];obtain⟨L,G⟩:=Uj n Z.dropLast (by rw[jV,h];rfl);refine⟨by rw[ZL,L];rfl,λd hd=>?_⟩;rcases ZX.mp hd with q|q
  .exact G d q
  .rw [ZQ]at q
   subst q
   have:((Vq Z.dropLast)[(Z.getLast J).1]?.getD<|.tup []).ti=true:=by
    cases e:(Vq Z.dropLast)[(Z.getLast J).1]? with
    |none=>simp[Dat.ti,Dat.tis]
    |some x=>exact G x<|ZJ e
   simp[L4,Dat.ti,Dat.tis,this,Rh]
def Ti(Z:List Mk1):(Vq Z).length=Z.length+1:=(Uj _ Z rfl).1
def J6(Z:List Mk1):Dat.tis (Vq Z)=true:=U4 (Uj _ Z rfl).2
abbrev Rho:=Str->Option Tg
def KnR(A:GA)(H:Hp)(a:Addr)(ρ:Rho)(m:Nat):Prop:=a≠A.st/\∃Z,H a=some (.dK Z)/\Z.length<=m/\∀x J,ρ x=some J->∃v,VC Z (Sum.inr x)=some v/\Has H v J.dat
structure Sta where
 f:Str
 pl:List Int
 ρ:Rho
def Mv(kvs:List (DE 1))(cs:List Mk1):Prop:=kvs.length=cs.length/\∀(k:Nat) p,kvs[k]?=some p->∃c,cs[k]?=some c/\p.1=kyD c/\p.2.2=.int ((k+1:Nat):Int)
def Mv.no(h:Mv Z cs)(n:c∉cs):Rj Z (kyD c)=none:=by
 unfold Rj;rw[j5.mpr ?_]
 .rfl
 intro p J z;obtain⟨k,G⟩:=vg.mp J;obtain⟨N,M,L,_⟩:=h.2 k p G;have e:N=c:=EI<|L.symm.trans<|Zt z;subst e;exact n<|ZJ M
def Mv.at(h:Mv Z cs)(M:cs.Nodup)(L:cs[k]?=some c):Rj Z (kyD c)=some (.int ((k+1:Nat):Int)):=by
 have G:=(ZF.mp L).1;have J:k<Z.length:=by rw[h.1];exact G
 obtain⟨C,O,A,U⟩:=h.2 k _<|ZD J;rw[L]at O;cases O;unfold Rj
 cases e:Z.find? λp=>decide (p.1=kyD c)with
 |none=>
  have:=j5.mp e _<|List.getElem_mem J;exact Zr (decide_eq_true A) this
 |some p=>
  have E:=vm e;have D:p.1=kyD c:=by have:=List.find?_some (p:=λp:DE 1=>decide<|p.1=kyD c) e;exact Zt this
  obtain⟨j,F⟩:=vg.mp E;obtain⟨c2,R,S,I⟩:=h.2 j p F;have:c2=c:=EI<|S.symm.trans D;subst this;have N:=(ZF.mp R).1
  have:j=k:=by
   have B:=(ZF.mp R).2;have T:=(ZF.mp L).2;rcases qZ j k with q|q|q
   .exact Zr (B.trans T.symm) (vW.mp M j k N G q)
   .exact q
   .exact Zr (T.trans B.symm) (vW.mp M k j G N q)
  subst this;rw[show(some p).map (·.2.2)=some p.2.2 from rfl,I]
def Mv.snoc(h:Mv Z cs)(n:c∉cs):Mv (putD Z (kyD c) b<|.int ((cs.length+1:Nat):Int)) (cs++[c]):=by
 unfold putD;rw[h.no n];rw[Zq (by simp)];refine⟨by rw[ZL,ZL,h.1];rfl,λk p J=>?_⟩;rcases jB k Z.length with q|q
 .rw [vd q]at J
  obtain⟨M,L,G⟩:=h.2 k p J;exact⟨M,by rw[vd (by rw[<-h.1];exact q)];exact L,G⟩
 .have kl:=(ZF.mp J).1
  rw[ZL,vc]at kl;have:k=Z.length:=by omega
  subst this;rw[vb (ZG _),vt]at J;cases J;exact⟨c,by rw[h.1,vb<|ZG _,vt];rfl,Y,by rw[h.1]⟩
def FrG(A:GA)(H H':Hp):Prop:=∀b o,b≠A.bs->b≠A.nu->b≠A.st->H b=some o->H' b=some o
def FrG.refl(A:GA)(H:Hp):FrG A H H:=λb o _ _ _ h=>h
def FrG.trans(a:FrG A H M)(b:FrG A M L):FrG A H L:=λc o G J Z e=>b c o G J Z<|a c o G J Z e
def FrG.of(s:Same H Z):FrG A H Z:=λb o _ _ _ h=>s _ _ h
def U0(sts:Nat->Option Sta)(m:Nat):Nat:=((List.range<|m+1).filter λk=>(sts k).isSome).length
def Wp:U0 sts (m+1)=U0 sts m+if(sts<|m+1).isSome then 1 else 0:=by
 unfold U0;rw[js,List.filter_append,ZL]
 congr 1
 cases e:(sts<|m+1).isSome <;> simp[e]
def Ee:∀m,U0 sts m<=m+1:=λm=>by
 unfold U0;exact Zb (List.length_filter_le _ _) (by rw[List.length_range];exact ZG _)
def FP(h:m<=m'):U0 sts m<=U0 sts m':=by
 induction h with
 |refl=>exact ZG _
 |step _ ih=>rw[Wp];omega
def stP(sts:Nat->Option Sta)(k:Nat)(s:Sta):Nat->Option Sta:=λn=>if n=k then some s else sts n
def L1(h:(sts k).isSome=true):U0 (stP sts k s) m=U0 sts m:=by
 unfold U0
 congr 1
 refine List.filter_congr λj _=>?_;unfold stP
 by_cases z:j=k
 .rw [Zp z,z,h];rfl
 .rw [Zq z]
theorem Ng(h:sts k=none):∀m,k<=m->U0 (stP sts k s) m=U0 sts m+1
 |0,hk=>by
  obtain rfl:k=0:=by omega
  simp[U0,stP,h]
 |m+1,hk=>by
  rw[Wp,Wp]
  by_cases z:k=m+1
  .subst z
   have J:∀Z,Z<m+1->U0 (stP sts (m+1) s) Z=U0 sts Z:=λZ L=>by
    unfold U0
    congr 1
    refine List.filter_congr λj G=>?_;unfold stP;rw[Zq (by have:=j0.mp G;omega)]
   rw[J m (by omega),h];simp[stP]
  .rw [Ng h m (by omega)]
   rw[show(stP sts k s<|m+1)=sts (m+1) by unfold stP;rw[Zq (by omega)]];omega
structure GG(P:Program)(w:World)(H:Hp)(CG:Addr)(A:GA)(cs:List Mk1)(sts:Nat->Option Sta)(av:Addr->Prop):Prop where
 ins:H A.t=some (.ins CG A.dx (Up A))
 bs:∃xs,H A.bs=some (.lst xs)/\HasL H xs (Vq cs)
 nu:∃kvs,H A.nu=some (ddO P w 1 hn1 A.nu kvs)/\KOk H kvs/\Mv kvs cs
 nd:cs.Nodup
 gv:H A.gv=some (.tup (A.gs.map V.str))
 st:∃kvs,H A.st=some (.dK kvs)/\kvs.length<=U0 sts cs.length/\∀n s,sts n=some s->∃t p kn,VC kvs (Sum.inl (n:Int))=some (.ref t)/\H t=some (.tup [.str s.f,.ref p,.ref kn])/\H p=some (.tup (s.pl.map V.int))/\KnR A H kn s.ρ (3+s.pl.length)/\ ¬av kn
def GG.tk(g:GG P w H CG A cs sts av)(f:FrG A H M):TK H M:=λa N h=>by
 obtain⟨O,L,_⟩:=g.bs;obtain⟨Z,G,_⟩:=g.nu;obtain⟨R,J,_⟩:=g.st;refine f a _ (λz=>?_) (λz=>?_) (λz=>?_) h
 .rw [z,L]at h;cases h
 .rw [z,G]at h;unfold ddO at h;cases h
 .rw [z,J]at h;cases h
def KnR.le(k:KnR A H a ρ m)(h:m<=m'):KnR A H a ρ m':=let⟨n,Z,L,J,G⟩:=k;⟨n,Z,L,Zb J h,G⟩
def KnR.fr(k:KnR A H a ρ m)(g:GG P w H CG A cs sts av)(f:FrG A H B):KnR A B a ρ m:=by
 obtain⟨n,J,Z,N,O⟩:=k;obtain⟨D,T,_⟩:=g.bs;obtain⟨E,R,_⟩:=g.nu;refine⟨n,J,f a _ (λz=>?_) (λz=>?_) n Z,N,λx G e=>let⟨v,M,L⟩:=O x G e;⟨v,M,VL (g.tk f) _ (Tg.ti G) L⟩⟩
 .rw [z,T]at Z;cases Z
 .rw [z,R]at Z;unfold ddO at Z;cases Z
def KnR.mono(k:KnR A H a ρ m)(s:Same H R):KnR A R a ρ m:=by
 obtain⟨n,Z,O,M,N⟩:=k;exact⟨n,Z,s _ _ O,M,λx L e=>let⟨v,G,J⟩:=N x L e;⟨v,G,J.mono s⟩⟩
def KOk.tk{Z:List (DE 1)}{L:List Mk1}(k:KOk H Z)(n:Mv Z L)(t:TK H M):KOk M Z:=λp m=>by
 obtain⟨j,J⟩:=vg.mp m;obtain⟨c,_,G,_⟩:=n.2 j p J;have:=k p m;rw[G,GL]at this |-;exact VL t _ (by simp[Dat.ti,Dat.tis,Rh]) this
def GG.mono(g:GG P w H CG A cs sts av)(s:Same H X):GG P w X CG A cs sts av:=by
 obtain⟨J,C,U⟩:=g.bs;obtain⟨R,S,I,F⟩:=g.nu;obtain⟨Z,E,D,B⟩:=g.st;refine⟨s _ _ g.ins,⟨J,s _ _ C,U.mono s⟩,⟨R,s _ _ S,λp m=>(I p m).mono s,F⟩,g.nd,s _ _ g.gv,Z,s _ _ E,D,λn st e=>?_⟩;obtain⟨t,p,T,O,N,M,L,G⟩:=B n st e;exact⟨t,p,T,O,s _ _ N,s _ _ M,L.mono s,G⟩
def GG.avoid(g:GG P w H CG A cs sts av)(h:H l=none)(s:Same H F):GG P w F CG A cs sts (λa=>av a\/a=l):=by
 have E:=g.mono s;obtain⟨Z,D,B,T⟩:=g.st;refine{E with st:=⟨Z,s _ _ D,B,λn st e=>?_⟩};obtain⟨t,p,R,O,N,M,J,L⟩:=T n st e;refine⟨t,p,R,O,s _ _ N,s _ _ M,J.mono s,λz=>z.elim L λz=>?_⟩;obtain⟨_,I,G,_,_⟩:=J;rw[z,h]at G;cases G
def GG.less(g:GG P w H CG A cs sts av)(h:∀a,av' a->av a):GG P w H CG A cs sts av':=by
 obtain⟨Z,B,T,R⟩:=g.st;refine{g with st:=⟨Z,B,T,λn st e=>?_⟩};obtain⟨t,p,O,N,M,L,G,J⟩:=R n st e;exact⟨t,p,O,N,M,L,G,λz=>J<|h _ z⟩
def GG.wr(g:GG P w H CG A cs sts av)(J:H l=some (.dK o))(a:av l)(b:SameB l H T)(n:l≠A.st):GG P w T CG A cs sts av:=by
 obtain⟨B,M,r⟩:=g.bs;obtain⟨q,G,u,R⟩:=g.nu;obtain⟨L,f,d,c⟩:=g.st;have Z:TK H T:=λa i h=>b _ _ (λz=>by rw[z,J]at h;cases h) h;refine⟨b _ _ (λz=>by have:=g.ins;rw[z,J]at this;cases this) g.ins,⟨B,b _ _ (λz=>by rw[z,J]at M;cases M) M,Jb Z _ (J6 cs) r⟩,⟨q,b _ _ (λz=>by rw[z,J]at G;unfold ddO at G;cases G) G,u.tk R Z,R⟩,g.nd,Z _ _ g.gv,L,b _ _ n.symm f,d,λk st e=>?_⟩;obtain⟨t,p,m,j,Q,X,C,N⟩:=c k st e;obtain⟨I,y,F,D,E⟩:=C;exact⟨t,p,m,j,Z _ _ Q,Z _ _ X,⟨I,y,b _ _ (λz=>N<|z ▸ a) F,D,λx O e=>let⟨v,U,S⟩:=E x O e;⟨v,U,VL Z _ (Tg.ti O) S⟩⟩,N⟩
def XU(cs:List Mk1)(c:Mk1)(n:Nat)(cs':List Mk1):Prop:=(∃k,cs[k]?=some c/\n=k+1/\cs'=cs)\/(c∉cs/\n=cs.length+1/\cs'=cs++[c])
def Ue:(ddO P w 1 hn1 a Z)≠.lst J:=by unfold ddO;intro z;cases z
def Wo:(ddO P w 1 hn1 a Z)≠.dK J:=by unfold ddO;intro z;cases z
def Ec:(ddO P w 1 hn1 a Z)≠.tup J:=by unfold ddO;intro z;cases z
def X4:(ddO P w 1 hn1 a Z)≠.ins C d J:=by unfold ddO;intro z;cases z
def Yy{H:Hp}{o p:HO}(h:H a=some o)(g:H b=some p)(n:o≠p):a≠b:=λz=>n (by rw[z,g]at h;exact(ZT h).symm)
end L2
namespace K4
open PySem L2
section
variable{C CK CG CO CW CD:Addr}
def Mp(A:GA):(Up A).lookup ("births":Str)=some (V.ref A.bs):=rfl
def Mo(A:GA):(Up A).lookup ("numbers":Str)=some (V.ref A.nu):=rfl
def yX:Yh ["self","maker","place"] ["self","maker","place"] (Yd DB):=Y2
inductive SNA(P:Program)(w:World)(CG:Addr)(H:Hp)(Q:VK):List V->Prop
 |mk (A:GA) (cs:List Mk1) (sts:Nat->Option Sta) (av:Addr->Prop) (m:Nat) (pl:List Int) (p:Addr) (g:GG P w H CG A cs sts av) (hp:H p=some (.tup (pl.map V.int))) (hm:m<=cs.length) (lc:cs.length<=9000)
  (q:∀n cs' H',XU cs (m,pl) n cs'->FrG A H H'->GG P w H' CG A cs' sts av->Q (.int (n:Nat)) H'):SNA P w CG H Q [.ref A.t,.int (m:Nat),.ref p]
def II(P:Program)(w:World)(CG:Addr):Sp:=λZ H Q _=>SNA P w CG H Q Z
def Cy(B:Blt mg)(TG:GCl K CG)(F:Fun K "number_at" "Ground.number_at" DB f fd):Ye P w K mg base CX0 (n+1) f fd ["self","maker","place"] (II P w CG):=by
 refine F.oi yX λT6 A R3 s H vs Q E hr h=>?_;obtain⟨R,U,R1,av,m,O,p,g,hp,hm,lc,q⟩:=h;have hu:=y0 hr;refine⟨_,YY (Y5 (Jp<|Bj (n:=1) (hn:=hn1) hu (Yj<|pa2 (pv 1)<|pv 2)<|Ym (pv 0) rfl) (YY (Iz (n:=1) (hn:=hn1) hu (Ym (pv 0) rfl) (Yj<|pa2 (pv 1)<|pv 2) (VB Y8 rfl B.len Zu (pa1<|Ym (pv 0) rfl)) rfl)
  (YZ<|VS<|Uw Zz Z0 Z1 JR (Ym (pv 0) rfl)<|pa1<|Yj<|pa2 (Yr VH (Ym (pv 0) rfl) (pv 1) λ_ _=>rfl)<|pv 2)) Yp)
  (YZ<|Yi<|KJ (n:=1) (hn:=hn1) hu (Ym (pv 0) rfl) (Yj<|pa2 (pv 1)<|pv 2) λ_ _=>rfl),?_⟩
 dsimp only[VY,Cx.nox,Cx.wish];show let T0:=_;let T1:=_;let T2:=Yk _ T1;Yk (VE _ T2 _) T0 _ _ _
 intros
 refine⟨sl 2,λt1 R6=>?_⟩;refine up_in R6 _ λH1 s1 g1=>?_;have M:=g.mono s1;obtain⟨D,x,r,T⟩:=M.nu
 have I:∀{Hx:Hp}{t:Addr},Hx t=some (.tup [.int (m:Nat),.ref p])->Hx p=some (.tup<|O.map V.int)->Has Hx (.ref t) (keD<|kyD (m,O)):=λh1 h2=>by
  rw[GL];exact Yo h1<|Z4 (by unfold Has;rfl)<|Z5<|JL h2
 exists CG,_,_,_,M.ins,TG.cl,TG.nu,Mo _,_,⟨D,kyD (m,O),t1,x,r,Y,I g1<|s1 _ _ hp,rfl⟩,_,rfl
 by_cases hc:(m,O)∈U
 .obtain ⟨k,hk⟩:=vg.mp hc
  have ev:=T.at g.nd hk;refine Y1 (by rw[ev];simp) ?_;refine⟨CG,_,_,_,M.ins,TG.cl,TG.nu,Mo _,sl 2,λt2 i=>?_⟩;refine up_in i _ λH2 J g2=>?_;exists _,⟨D,kyD (m,O),t2,J _ _ x,λp m=>(r p m).mono J,Y,I g2<|J _ _<|s1 _ _ hp,ev.symm⟩;exact q (k+1) U H2 (.inl ⟨k,hk,Y,Y⟩) (.of<|s1.trans J)<|M.mono J
 .have ev:=T.no hc
  refine VF (by rw[ev];rfl) ?_;obtain⟨xs,j,l⟩:=M.bs;have lx:=l.length;rw[Ti]at lx;refine⟨CG,_,_,_,M.ins,TG.cl,TG.bs,Mp _,R.bs,_,Y,.inl<|Z3 j,CG,_,_,_,M.ins,TG.cl,TG.nu,Mo _,sl 2,λt2 i=>?_⟩;refine up_in i _ λH2 J g2=>?_;have S:=M.mono J;have G:=J _ _ x;have u:KOk H2 D:=λp m=>(r p m).mono J;refine⟨_,⟨D,kyD (m,O),t2,G,u,Y,I g2<|J _ _<|s1 _ _ hp,JI (by rw[T.1];omega),rfl⟩,?_⟩;rw[lx];refine fld_in R.nu _ λH3 b3 g3=>?_;have bn:R.bs≠R.nu:=Yy (J _ _ j) G Ue.symm;have L:=b3 _ _ bn<|J _ _ j;have N:=b3 _ _ (Yy S.ins G X4.symm) S.ins;have O1:TK H2 H3:=λa ys h=>b3 _ _ (Yy h G Ec.symm) h;have G3:m<xs.length:=by omega
  refine⟨CG,_,_,_,N,TG.cl,TG.bs,Mp _,.inl ⟨Y,_,Z3 L⟩,CG,_,_,_,N,TG.cl,TG.bs,Mp _,_,_,Z3 L,VD<|ZD G3,sl 2,λt4 R5=>?_⟩;refine up_in R5 _ λH4 X g4=>?_;refine⟨R.bs,_,_,Y,Y,X _ _ L,JI<|by omega,?_⟩;refine fld_in R.bs _ λH5 b5 g5=>?_;have J2:=UM b5<|X _ _ L;have Z:TK H2 H5:=λa ys h=>J2 _ _<|X _ _<|O1 _ _ h;have G1:=b5 _ _ bn.symm<|X _ _ g3;have v:=b5 _ _ (Yy (X _ _ N) (X _ _ L) (by intro z;cases z))<|X _ _ N;have fr:FrG R H H5:=λb o n1 n2 n3 e=>b5 _ _ n1<|X _ _<|b3 _ _ n2<|J _ _<|s1 _ _ e;have y:=T.snoc (b:=t2) hc
  have c:KOk H5 (putD D (kyD (m,O)) t2<|.int ((U.length+1:Nat):Int)):=(u.tk T Z).put (by
   rw[GL];have:=I g2<|J _ _<|s1 _ _ hp;rw[GL]at this;exact VL Z _ (by simp[Dat.ti,Dat.tis,Rh]) this)
  have G2:(U++[(m,O)]).Nodup:=by
   rw[jh];exact⟨g.nd,by simp,λa ha b hb z=>by rw[ZQ]at hb;subst hb;subst z;exact hc ha⟩
  have R7:(U++[(m,O)])[U.length]?=some (m,O):=by rw[vb (ZG _),vt];rfl
  have T5:=y.at G2 R7
  have T3:GG P w H5 CG R (U++[(m,O)]) R1 av:=by
   exists v,⟨_,g5,?_⟩,⟨_,G1,c,y⟩,G2,Z _ _ S.gv
   .rw [U3]
    obtain⟨d,M2,R8⟩:=l.get<|ZD G3;have e:(Vq U).getD m (.tup [])=d:=by rw[jd,M2];rfl
    refine Z7 (Jb Z _ (J6 U)<|l.mono J)<|Z5 ?_;have dt:d.ti=true:=(Uj _ U rfl).2 d<|ZJ M2;unfold L4;rw[show((m,O):Mk1).1=m from rfl,e];exact Yo (J2 _ _ g4)<|Z4 (VL Z _ dt<|R8.mono J)<|Z5<|JL<|Z _ _<|J _ _<|s1 _ _ hp
   .obtain ⟨ks,h6,h7,h8⟩:=S.st
    have sn:R.st≠R.nu:=Yy h6 G Wo.symm;have sb:R.st≠R.bs:=Yy h6 (J _ _ j) (by intro z;cases z);have T4:FrG R H2 H5:=λb o n1 n2 n3 e=>b5 _ _ n1<|X _ _<|b3 _ _ n2 e;refine⟨ks,b5 _ _ sb<|X _ _<|b3 _ _ sn h6,Zb h7 (FP (by rw[ZL];exact vU _ _)),λn st e=>?_⟩;obtain⟨t,p',kn,u1,u2,u3,u4,u5⟩:=h8 n st e;exact⟨t,p',kn,u1,Z _ _ u2,Z _ _ u3,u4.fr S T4,u5⟩
  refine⟨CG,_,_,_,v,TG.cl,TG.nu,Mo _,sl 2,λt6 R4=>?_⟩;refine up_in R4 _ λH6 s6 g6=>?_;exists _,⟨_,kyD (m,O),t6,s6 _ _ G1,λp m=>(c p m).mono s6,Y,I g6<|s6 _ _<|Z _ _<|J _ _<|s1 _ _ hp,T5.symm⟩;exact q (U.length+1) _ H6 (.inr ⟨hc,Y,Y⟩) (fr.trans<|.of s6)<|T3.mono s6
end
end K4
namespace L2
open PySem
structure OM where
 t:Addr
 dx:Addr
 gr:Addr
 n:Nat
 F:Str
 pl:Addr
 kn:Addr
 bv:V
 wl:Addr
def JY(A:OM):List (Str×V):=[("ground",.ref A.gr),("number",.int (A.n:Nat)),("f",.str A.F),("place",.ref A.pl),("known",.ref A.kn),("body",A.bv),("waiting",.ref A.wl)]
structure GM(H:Hp)(CO:Addr)(A:GA)(O:OM)(b:Bd):Prop where
 ins:H O.t=some (.ins CO O.dx (JY O))
 bd:Has H O.bv b.dat
 ok:b.ok
 gr:O.gr=A.t
def GM.mono(g:GM H CO A O b)(s:Same H Z):GM Z CO A O b:=⟨s _ _ g.ins,g.bd.mono s,g.ok,g.gr⟩
def GG.ne(g:GG P w H CG A cs sts av)(h:H a=some o)(L:∀Z,o≠.lst Z)(G:∀Z,o≠.dK Z)(J:∀k,o≠ddO P w 1 hn1 A.nu k):a≠A.bs/\a≠A.nu/\a≠A.st:=by
 obtain⟨Z,R,_⟩:=g.bs;obtain⟨M,O,_⟩:=g.nu;obtain⟨T,N,_⟩:=g.st;exact⟨Yy h R<|L _,Yy h O<|J _,Yy h N<|G _⟩
def GM.fr(m:GM H CO A O b)(g:GG P w H CG A cs sts av)(f:FrG A H L):GM L CO A O b:=by
 obtain⟨G,J,Z⟩:=g.ne m.ins (λ_ z=>by cases z) (λ_ z=>by cases z) λ_=>X4.symm;exact⟨f _ _ G J Z m.ins,VL (g.tk f) _ (Bd.ti _) m.bd,m.ok,m.gr⟩
structure MX(P:Program)(w:World)(Hm H:Hp)(C CK CG:Addr)(A:GA)(ks:List (Str×Shp))(d:Str->Nat)(ds:List Dd)(cs:List Mk1)(sts:Nat->Option Sta)(av:Addr->Prop):Prop where
 sm:Same Hm H
 bi:BI Hm C CK A.bk ks d ds
 f1:Hm A.bs=none
 f2:Hm A.nu=none
 f3:Hm A.st=none
 gg:GG P w H CG A cs sts av
def MX.fr(m:MX P w L H C M CG A J d G cs sts av)(f:FrG A H Z)(g:GG P w Z CG A cs' sts' av):MX P w L Z C M CG A J d G cs' sts' av:=
 ⟨λb o e=>f b o (Yb e m.f1) (Yb e m.f2) (Yb e m.f3)<|m.sm _ _ e,m.bi,m.f1,m.f2,m.f3,g⟩
def MX.mono(m:MX P w G H C M CG A Z d J cs sts av)(s:Same H L):MX P w G L C M CG A Z d J cs sts av:=m.fr (.of s)<|m.gg.mono s
def Nt{Z:Addr->Prop}(O:∀a,Z a->∃o,H a=some o)(f:FrG A H J)(g:GG P w J CG A cs sts av'):∀a,Z a->∃o,J a=some o:=λa h=>by
 obtain⟨o,e⟩:=O a h;obtain⟨R,N,_⟩:=g.bs;obtain⟨G,M,_⟩:=g.nu;obtain⟨T,L,_⟩:=g.st
 by_cases z1:a=A.bs
 .exact ⟨_,by rw[z1];exact N⟩
 by_cases z2:a=A.nu
 .exact ⟨_,by rw[z2];exact M⟩
 by_cases z3:a=A.st
 .exact ⟨_,by rw[z3];exact L⟩
 exact⟨o,f a o z1 z2 z3 e⟩
abbrev Ss:=List Mk1×(Nat->Option Sta)
inductive Thr(R:Nat->Ss->Tg->Ss->Prop):Nat->Ss->List Tg->Ss->Prop
 |nil:Thr R 0 s [] s
 |snoc (h:Thr R i s ths s1) (e:R i s1 th s2):Thr R (i+1) s (ths++[th]) s2
def Jm(ns:kC)(ths:List Tg):Rho:=λx=>(ns.zip ths).lookup x
def KP(ds:List Dd)(f:Str)(ns:kC):Prop:=∃x∈ds,x.1.1=f/\ns=x.1.2.1.map (·.1)
def MCp(ds:List Dd)(F:Str)(ρ:Rho)(R:Nat->Ss->Tg->Ss->Prop)(c:Bd)(pl:kE)(k:Nat)(s s':Ss):Prop:=match c with
 |.ask f as=>∃ths s2 ns,Thr R as.length s ths s2/\KP ds f ns/\s'=(s2.1,stP s2.2 k ⟨f,[],Jm ns ths⟩)
 |_=>s'=(s.1,stP s.2 k ⟨F,pl,ρ⟩)
def TAp(ds:List Dd)(F:Str)(b:Bd)(num:Nat)(ρ:Rho):Nat->List Int->Ss->Tg->Ss->Prop
 |0,_,_,_,_=>False
 |n+1,pl,s,th,s'=>∃c,b.at pl=some c/\match c with
  |.tag t=>th=.tag t/\s'=s
  |.name x=>ρ x=some th/\s'=s
  |c=>∃k cs1,XU s.1 (num,pl) k cs1/\th=.cell k/\MCp ds F ρ (λi=>TAp ds F b num ρ n<|pl++[(i:Int)]) c pl k (cs1,s.2) s'
def OkT(ds:List Dd)(ρ:Rho):Nat->Bd->Prop
 |0,_=>False
 |n+1,.name x=>∃th,ρ x=some th
 |n+1,.ask f as=>(∃x∈ds,x.1.1=f/\x.1.2.1.length=as.length/\as.length<=3/\(x.1.2.1.map (·.1)).Nodup)/\∀a∈as,OkT ds ρ n a
 |n+1,_=>True
theorem Gm:∀{Z:List Bd}{i:Nat}{a:Bd},Z[i]?=some a->Bd.sizes (Z.take<|i+1)=Bd.sizes (Z.take i)+a.size
 |[],i,a,h=>by simp at h
 |x::Z,0,a,h=>by cases h;simp[Bd.sizes]
 |x::Z,i+1,a,h=>by
  have J:Z[i]?=some a:=h;have:=Gm J;simp only[List.take_succ_cons,Bd.sizes]at this |-;omega
theorem Gn:∀(Z:List Bd)(i:Nat),Bd.sizes (Z.take i)<=Bd.sizes Z
 |[],i=>by simp[Bd.sizes]
 |x::Z,0=>by simp[Bd.sizes]
 |x::Z,i+1=>by
  have:=Gn Z i;simp only[List.take_succ_cons,Bd.sizes];omega
theorem Nv:∀{ns:kC}{G:kL}{Z:List Tg}{H:Hp}{x:Str}{J:Tg},HasL H G (Z.map Tg.dat)->Jm ns Z x=some J->∃v,VC (nmD ns G) (Sum.inr x)=some v/\Has H v J.dat
 |[],G,Z,H,x,J,h,e=>by unfold Jm at e;simp at e
 |n::ns,G,[],H,x,J,h,e=>by unfold Jm at e;simp at e
 |n::ns,[],_::_,H,x,J,h,e=>by unfold HasL at h;exact h.elim
 |n::ns,u::G,t::Z,H,x,J,h,e=>by
  unfold HasL at h;unfold Jm at e;rw[jJ,vi]at e
  by_cases z:x=n
  .subst z
   rw[beq_self_eq_true]at e;cases e;exact⟨u,Vh Y,h.1⟩
  .have zb:(x==n)=false:=beq_eq_false_iff_ne.mpr z
   rw[zb]at e;obtain⟨v,M,L⟩:=Nv (ns:=ns) h.2 e;exact⟨v,(Vn λq=>z (Sum.inr.inj q).symm).trans M,L⟩
def GG.put(g:GG P w H CG A cs sts av)(hk:k<=cs.length)(e:H A.st=some (.dK J))(ht:H t=some (.tup [.str s.f,.ref p,.ref kn]))(hp:H p=some (.tup<|s.pl.map V.int))(R:KnR A H kn s.ρ (3+s.pl.length))(na:¬av kn)(b:SameB A.st H M)(x:M A.st=some (.dK<|putK J (Sum.inl (k:Int))<|.ref t)):GG P w M CG A cs (stP sts k s) av:=by
 obtain⟨j,Q,h2⟩:=g.bs;obtain⟨ks,X,h4,C⟩:=g.nu;obtain⟨E,U,S,I⟩:=g.st;rw[e]at U;cases U;have Z:TK H M:=λa ys h=>b _ _ (Yy h e (by intro z;cases z)) h;refine⟨b _ _ (Yy g.ins e (by intro z;cases z)) g.ins,⟨j,b _ _ (Yy Q e (by intro z;cases z)) Q,Jb Z _ (J6 cs) h2⟩,⟨ks,b _ _ (Yy X e Wo) X,h4.tk C Z,C⟩,g.nd,Z _ _ g.gv,_,x,?_,λn s' L=>?_⟩
 .cases en:sts k with
  |none=>
   rw[Ng en cs.length hk];exact Zb (VW _ _ _)<|kq S
  |some s0=>
   rw[L1 (by rw[en];rfl)];obtain⟨B,D,G,N,_⟩:=I k s0 en;have:(J.any λO=>decide<|O.1=Sum.inl (k:Int))=true:=by rw[JS,N];rfl
   unfold putK;rw[Zp this,ZA];exact S
 .unfold stP at L
  have F:∀{a:Addr}{ρ:Rho}{m:Nat},KnR A H a ρ m->KnR A M a ρ m:=λR=>by
   obtain⟨n,O,i,l,o⟩:=R;exact⟨n,O,b _ _ n i,l,λx T e=>let⟨v,c,y⟩:=o x T e;⟨v,c,VL Z _ (Tg.ti T) y⟩⟩
  by_cases z:n=k
  .subst z
   rw[Zp rfl]at L;cases L;exact⟨t,p,kn,by rw[Vx,Zp rfl],Z _ _ ht,Z _ _ hp,F R,na⟩
  .rw [Zq z]at L
   obtain⟨B,D,G,N,r,u,f,d⟩:=I n s' L;exact⟨B,D,G,by rw[Vx,Zq (λq=>z (by have:=Sum.inl.inj q;omega))];exact N,Z _ _ r,Z _ _ u,F f,d⟩
end L2
namespace K4
open PySem L2
section
variable{C CK CG CO CW CD:Addr}
def NQ(A:OM):(JY A).lookup ("ground":Str)=some (V.ref A.gr):=rfl
def NP(A:OM):(JY A).lookup ("number":Str)=some (V.int (A.n:Nat)):=rfl
def yt(A:OM):(JY A).lookup ("f":Str)=some (V.str A.F):=rfl
def K9(A:OM):(JY A).lookup ("body":Str)=some A.bv:=rfl
def zG(A:OM):(JY A).lookup ("place":Str)=some (V.ref A.pl):=rfl
def zH(A:OM):(JY A).lookup ("known":Str)=some (V.ref A.kn):=rfl
def EG(A:OM):(JY A).lookup ("waiting":Str)=some (V.ref A.wl):=rfl
def Qn(A:OM):(JY A).lookup ("thing_at":Str)=none:=rfl
def Qo(A:OM):(JY A).lookup ("make_cell":Str)=none:=rfl
def Qw(A:GA):(Up A).lookup ("number_at":Str)=none:=rfl
def B9(A:GA):(Up A).lookup ("starts":Str)=some (V.ref A.st):=rfl
def Lc(A:GA):(Up A).lookup ("book":Str)=some (V.ref A.bk):=rfl
abbrev spk:kC:=["self","place","known"]
abbrev NB:kC:=["self","number","place","known"]
def Sr:Yh ["self","number","place","known","body","things"] NB (Yd XE):=Y2
def Sm:Yh ["self","place","known","body","number"] spk (Yd Xu):=Y2
def Pk:List.Nodup [("at":Str),"self","place","known"]:=by decide +kernel
inductive STA(P:Program)(w:World)(C CK CG CO:Addr)(n:Nat)(H:Hp)(Q:VK):List V->Prop
 |mk (Hm:Hp) (A:GA) (ks:List (Str×Shp)) (d:Str->Nat) (ds:List Dd) (cs:List Mk1) (sts:Nat->Option Sta) (av:Addr->Prop) (O:OM) (b c:Bd) (pl:List Int) (p kn:Addr) (ρ:Rho) (mx:MX P w Hm H C CK CG A ks d ds cs sts av) (gm:GM H CO A O b) (hp:H p=some (.tup (pl.map V.int))) (hc:b.at pl=some c) (ok:OkT ds ρ n c) (kr:KnR A H kn ρ (3+pl.length)) (na:¬av kn) (al:∀a,av a->∃o,H a=some o) (on:O.n<=cs.length) (lc:cs.length+c.size<=9000) (lw:pl.length+n<=500)
  (q:∀u th cs' sts' H',TAp ds O.F b O.n ρ n pl (cs,sts) th (cs',sts')->cs.length<=cs'.length->cs'.length<=cs.length+c.size->FrG A H H'->GG P w H' CG A cs' sts' av->Has H' u th.dat->Q u H'):STA P w C CK CG CO n H Q [.ref O.t,.ref p,.ref kn]
def Er(P:Program)(w:World)(C CK CG CO:Addr)(n:Nat):Sp:=λZ H Q _=>STA P w C CK CG CO n H Q Z
inductive SMC(P:Program)(w:World)(C CK CG CO:Addr)(n:Nat)(H:Hp)(Q:VK):List V->Prop
 |mk (Hm:Hp) (A:GA) (ks:List (Str×Shp)) (d:Str->Nat) (ds:List Dd) (cs:List Mk1) (sts:Nat->Option Sta) (av:Addr->Prop) (O:OM) (b c:Bd) (pl:List Int) (p kn:Addr) (ρ:Rho) (k:Nat) (mx:MX P w Hm H C CK CG A ks d ds cs sts av) (gm:GM H CO A O b) (hp:H p=some (.tup (pl.map V.int))) (hc:b.at pl=some c) (ok:OkT ds ρ (n+1) c) (kr:KnR A H kn ρ (3+pl.length)) (na:¬av kn) (al:∀a,av a->∃o,H a=some o) (on:O.n<=cs.length) (lc:cs.length+c.size<=9001) (lw:pl.length+n+1<=500) (hk:k<=cs.length)
  (q:∀cs' sts' H',MCp ds O.F ρ (λi=>TAp ds O.F b O.n ρ n (pl++[(i:Int)])) c pl k (cs,sts) (cs',sts')->cs.length<=cs'.length->cs'.length+1<=cs.length+c.size->FrG A H H'->GG P w H' CG A cs' sts' av->Q .non H'):SMC P w C CK CG CO n H Q [.ref O.t,.int (k:Nat),.ref p,.ref kn]
def Ob(P:Program)(w:World)(C CK CG CO:Addr)(n:Nat):Sp:=λZ H Q _=>SMC P w C CK CG CO n H Q Z
def OA(c:Bd):(∃f Z,c=.ask f Z) \/ ∃wd r,c.dat=.tup (.str wd::r)/\wd≠"ask" /\∀f Z,c≠.ask f Z:=by
 cases c <;> first|exact .inl ⟨_,_,Y⟩|exact .inr ⟨_,_,by unfold Bd.dat;rfl,by decide +kernel,λ_ _ z=>by cases z⟩
def Qh(B:Blt mg)(TG:GCl K CG)(TO:OCl K CO)(F:Fun K "make_cell" "Going.make_cell" XE f fd)(DP:Df P w K mg base L "part_at" ["body","place"] Jv)(DN:Df P w K mg base L "named" ["book","f","things"] (IH C CK))(m1:VI K CO "thing_at" g1)(G1:Ye P w K mg base CX0 L g1 d1 spk (Er P w C CK CG CO n))(b1:Binds K d1 spk []):Ye P w K mg base CX0 (L+1) f fd NB (Ob P w C CK CG CO n):=by
 refine F.oi Sr λcdv A F1 s H g Q E hr h=>?_;obtain⟨Hm,A',ks,d,ds,cs,sts,av,O,b,c,pl,p,kn,ρ,k,mx,gm,hp,hc,ok,kr,R7,al,on,lc,lw,hk,q⟩:=h;have hu:=JA hr;refine⟨_,YY (Yx 4 Sr.nd<|VP DP hr<|pa2 (Ym (pv 0) rfl)<|pv 2)
  (YY (Y5 (Ys UR (Yr (r:=Vb K) Yt (pv 4)<|Ya) Yw<|Y0 _) (YY (Vf hu (Ym (Ym (pv 0) rfl) rfl) (pv 1) (Yj<|pa3 (Ym (pv 0) rfl) (pv 2)<|pv 3) rfl)
  (YZ<|O3)) Yp)
  (YY (MU (i0:=5) ["at"] [0,2,3] Sr.nd rfl (Or.inl rfl) (JP rfl B.range (pa1<|VB Y8 rfl B.len Zu (pa1<|Yr (r:=Vb K) Yt (pv 4)<|Ya))) (Vm (i:=0)<|by decide) (λcl C fp s H=>Yl 0 Pk rfl (Or.inl rfl) (Or.inr rfl)) (λcl C fp s H=>Y4 (pv 1) TO.cl m1 G1 hr b1 .nil Y3<|pa2 (Y7 (r:=λx y H Q=>J3 K x y H Q\/J1 K x y H Q) Jh (pv 2)<|Yj<|pa1<|pv 0)<|pv 3))
  (YZ<|Vf hu (Ym (Ym (pv 0) rfl) rfl) (pv 1) (Yj<|pa3 (Yr (r:=Vb K) Yt (pv 4)<|Ya) (Yj<|VR)<|VP DN hr<|pa3 (Ym (Ym (pv 0) rfl) rfl) (Yr (r:=Vb K) Yt (pv 4)<|Ya)<|pv 5) rfl))),?_⟩
 dsimp only[VY,Cx.nox,Cx.wish];show let T0:=_;let T1:=Yk _ T0;let T2:=_;let T3:=Yk _ T2;let T4:=Yk (VE _ T3 _) T1;Yk _ T4 _ _ _
 intros
 refine⟨CO,_,_,_,gm.ins,TO.cl,TO.bd,K9 _,_,p,b,c,pl,gm.bd,gm.ok,hp,hc,λu H1 s1 I=>?_⟩;have J:=mx.mono s1;have X:=gm.mono s1;have T5:=kr.mono s1;have T7:=s1 _ _ hp;have D3:∀a,av a->∃o,H1 a=some o:=λa h=>let⟨o,e⟩:=al a h;⟨o,s1 _ _ e⟩
 have c1:1<=c.size:=by rw[Bd.size_eq];omega
 rcases OA c with⟨f',as,rfl⟩|⟨wd,r,ed,nw,na⟩
 .have hu2:=I
  unfold Bd.dat at I;obtain⟨ta,ys,rfl,S,hl⟩:=Yv I;obtain⟨x1,r1,rfl,e1,T8⟩:=Yc hl;obtain⟨x2,r2,rfl,e2,I6⟩:=Yc T8;obtain⟨x3,r3,rfl,e3,I5⟩:=Yc I6;obtain rfl:=VA I5;obtain rfl:=has_str e1;obtain rfl:=has_str e2;obtain⟨tb,xs,rfl,I3,I1⟩:=Yv e3;have lx:=I1.length;rw[Z9,ZA]at lx;unfold OkT at ok;obtain⟨⟨df,T9,ef,lf,l3,F3⟩,F2⟩:=ok;refine⟨_,_,Z2 S,at0,Y,_,Y,Y1 (by decide +kernel) ?_⟩;refine⟨_,_,Z2 S,at2,tb,_,Y,.inr<|Z2 I3,xs.length,rfl,by omega,by omega,?_⟩;have esz:(Bd.ask f' as).size=1+Bd.sizes as:=by unfold Bd.size;rfl
  rw[esz]at lc;refine Va xs.length (JI<|by omega) (λi g H'=>∃M G Z,g.length=i/\Thr (λi=>TAp ds O.F b O.n ρ n<|pl++[(i:Int)]) i (cs,sts) M (G,Z)/\cs.length<=G.length/\G.length<=cs.length+Bd.sizes (as.take i)/\FrG A' H1 H'/\GG P w H' CG A' G Z av/\HasL H' g (M.map Tg.dat)) ⟨[],cs,sts,rfl,.nil,ZG _,vU _ _,.refl _ _,J.gg,Z6⟩ (λi g H' z=>by obtain⟨_,_,_,z,_⟩:=z;exact z) (λi g H' hi z=>hi) (λg H' z=>ZG _) ?_ ?_
  .rintro i g H2 y H3 R hi ⟨M,G,Z,z1,z2,z3,z4,z5,z6,z7⟩ ⟨rfl,rfl⟩ hR
   have D7:=J.gg.tk z5;have ia:i<as.length:=by omega
   have D0:as[i]?=some as[i]:=ZD ia;have sz:=Gm D0;have sl1:=Gn as<|i+1;refine⟨_,_,(X.fr J.gg z5).ins,Qn _,sl 1,λt4 O1=>?_⟩;refine up_in O1 _ λH4 D g4=>?_;have I4:Has H4 (.ref p) (Jt pl):=JL<|D _ _<|D7 _ _ T7;refine UH I4 (UD g4) (by simp) (by simp;omega) λu5 H5 s5 h5=>?_;obtain⟨a5,rfl,I9⟩:=Ji h5;have G3:=D.trans s5;have j:FrG A' H1 H5:=z5.trans<|.of G3;have R4:=z6.mono G3;have F5:=J.fr j R4;have S2:=X.fr J.gg j;have F9:=T5.fr J.gg j;refine⟨Hm,A',ks,d,ds,G,Z,av,O,b,as[i],pl++[0+(i:Int)],a5,kn,ρ,F5,S2,I9,?_,F2 _<|List.getElem_mem ia,F9.le (by rw[ZL];omega),R7,Nt D3 j R4,by omega,by omega,by rw[ZL,vc];omega,λu6 th cs6 R6 H6 q1 q2 q3 q4 q5 q6=>?_⟩
   .refine Bd.at_snoc pl hc (by omega) ?_
    rw[show(0+(i:Int)).toNat=i by omega];exact D0
   .rw [Int.zero_add]at q1
    refine hR _ _ ⟨M++[th],cs6,R6,by rw[ZL,z1];rfl,z2.snoc q1,by omega,by omega,j.trans q4,q5,?_⟩;rw[ZK];exact Z7 (Jb (λb ys h=>R4.tk q4 _ _<|G3 _ _ h) _ (U4 λd hd=>by obtain⟨t,_,rfl⟩:=ZW.mp hd;exact Tg.ti t) z7)<|Z5 q6
  rintro g H2 tl ⟨M,G,Z,z1,z2,z3,z4,z5,z6,z7⟩ I2;rw[lx]at z2;have sle:=Gn as xs.length;refine up_in I2 _ λH3 s3 g3=>?_;have m:FrG A' H1 H3:=z5.trans<|.of s3;have D2:=z6.mono s3;have F6:=J.fr m D2;have gm3:=X.fr J.gg m;have G2:=J.gg.tk m _ _ S;refine⟨_,_,Z2 G2,at1,sl 0,λt4 O1=>?_⟩;refine up_in O1 _ λH4 D g4=>?_;have D1:=gm3.mono D;have J2:=D2.mono D;exists CO,_,_,_,D1.ins,TO.cl,TO.gr,NQ _;rw[gm.gr];exists CG,_,_,_,J2.ins,TG.cl,TG.bk,Lc _,_,_,Z2<|D _ _ G2,at1;rw[<-ef];have I7:=z7.length;rw[ZA]at I7;have R8:=F6.mono D;refine⟨A'.bk,tl,g,ks,d,ds,df,R8.bi.mono R8.sm,T9,D _ _ g3,by omega,by omega,F3,λl H5 s5 R5 I8=>⟨sl 3,λt6 M2=>?_⟩⟩;refine up_in M2 _ λH6 s6 g6=>?_;have T:=s5.trans s6;have N:=J2.mono T;have R1:=D1.mono T;exists CO,_,_,_,R1.ins,TO.cl,TO.gr,NQ _;rw[gm.gr];obtain⟨F7,U,lst,_⟩:=N.st;refine⟨CG,_,_,_,N.ins,TG.cl,TG.st,B9 _,_,Je.k (k:=Sum.inl (k:Int)) U<|JI (by have:=Ee (sts:=Z) G.length;omega),?_⟩;refine fld_in A'.st _ λH7 b7 g7=>?_;obtain⟨kv4,T6,_⟩:=J2.st
  have F8:KnR A' H6 l (Jm (df.1.2.1.map (·.1)) M) (3+([]:kE).length):=by
   refine⟨λz=>?_,_,s6 _ _ I8,by unfold nmD;rw[ZA,List.length_zip,ZA,qr];omega,λx th e=>?_⟩
   .rw [z,T6]at R5;cases R5
   .obtain ⟨v,h1,h2⟩:=Nv (z7.mono<|(s3.trans D).trans T) e
    exact⟨v,h1,h2⟩
  have F4:¬av l:=λz=>by
   obtain⟨o,e⟩:=Nt D3 (m.trans<|.of D) J2 l z;rw[R5]at e;cases e
  have R3:=N.put (s:=⟨df.1.1,[],Jm (df.1.2.1.map (·.1)) M⟩) (k:=k) (by omega) U g6 (T _ _ g4) F8 F4 b7 g7;refine q G _ H7 ?_ z3 (by omega) ?_ R3
  .show ∃M s2 ns,_
   exact⟨M,(G,Z),_,z2,⟨df,T9,ef,Y⟩,by rw[<-ef]⟩
  .exact λb o n1 n2 n3 e=>b7 _ _ n3<|(D.trans T) _ _<|m _ _ n1 n2 n3<|s1 _ _ e
 .rw [ed]at I
  obtain⟨ta,ys,rfl,S,hl⟩:=Yv I;obtain⟨x1,r1,rfl,e1,T8⟩:=Yc hl;obtain rfl:=has_str e1;refine⟨_,_,Z2 S,at0,Y,_,Y,VF (by simp;exact nw) ?_⟩;refine⟨CO,_,_,_,X.ins,TO.cl,TO.f,yt _,sl 3,λt6 M2=>?_⟩;refine up_in M2 _ λH6 s6 g6=>?_;have N:=J.gg.mono s6;have R1:=X.mono s6;exists CO,_,_,_,R1.ins,TO.cl,TO.gr,NQ _;rw[gm.gr];obtain⟨F7,U,lst,_⟩:=N.st;refine⟨CG,_,_,_,N.ins,TG.cl,TG.st,B9 _,_,Je.k (k:=Sum.inl (k:Int)) U<|JI (by have:=Ee (sts:=sts) cs.length;omega),?_⟩;refine fld_in A'.st _ λH7 b7 g7=>?_;have R3:=N.put (s:=⟨O.F,pl,ρ⟩) (k:=k) hk U g6 (s6 _ _ T7) (T5.mono s6) R7 b7 g7;refine q cs _ H7 ?_ (ZG _) (by omega) ?_ R3
  .cases c <;> first|rfl|exact Zr Y (na _ _)
  .exact λb o n1 n2 n3 e=>b7 _ _ n3<|s6 _ _<|s1 _ _ e
def OV(c:Bd):(∃t,c=.tag t)\/(∃x,c=.name x) \/ ∃wd r,c.dat=.tup (.str wd::r)/\wd≠"tag" /\wd≠"name" /\(∀t,c≠.tag t)/\∀x,c≠.name x:=by
 cases c <;> first|exact .inl ⟨_,Y⟩|exact .inr (.inl ⟨_,Y⟩)|exact .inr<|.inr ⟨_,_,by unfold Bd.dat;rfl,by decide +kernel,by decide +kernel,λ_ z=>(by cases z),λ_ z=>by cases z⟩
def XU.le(h:XU cs c n cs'):n<=cs'.length/\cs.length<=cs'.length/\cs'.length<=cs.length+1:=by
 rcases h with⟨k,Z,rfl,rfl⟩|⟨_,rfl,rfl⟩
 .have:=(ZF.mp Z).1
  omega
 .rw [ZL,vc]
  omega
def Cq(TG:GCl K CG)(TO:OCl K CO)(F:Fun K "thing_at" "Going.thing_at" Xu f fd)(DP:Df P w K mg base L "part_at" ["body","place"] Jv)(m1:VI K CG "number_at" g1)(G1:Ye P w K mg base CX0 L g1 d1 ["self","maker","place"] (II P w CG))(b1:Binds K d1 ["self","maker","place"] [])(m2:VI K CO "make_cell" l)(G2:Ye P w K mg base CX0 L l d2 NB (Ob P w C CK CG CO n))(b2:Binds K d2 NB []):Ye P w K mg base CX0 (L+1) f fd spk (Er P w C CK CG CO<|n+1):=by
 refine F.oi Sm λT7 A J2 s H vs Q E g h=>?_;obtain⟨Hm,A',ks,d,ds,cs,M,av,O,b,c,i,p,kn,ρ,mx,y,hp,X,ok,kr,M2,al,on,lc,lw,q⟩:=h;have hu:=JA g;refine⟨_,YY (Yx 3 Sm.nd<|VP DP g<|pa2 (Ym (pv 0) rfl)<|pv 1)
  (YY (Y5 (Ys Vc (Yr (r:=Vb K) Yt (pv 3)<|Ya) Yw<|Y0 _) (YZ<|Yi<|pv 3) Yp)
  (YY (Y5 (Ys Vc (Yr (r:=Vb K) Yt (pv 3)<|Ya) Yw<|Y0 _) (YZ<|Yi<|Vl hu (pv 2) (Yr (r:=Vb K) Yt (pv 3)<|Ya) λ_ _=>rfl) Yp)
  (YY (Yx 4 Sm.nd<|Y4 (Ym (pv 0) rfl) TG.cl m1 G1 g b1 .nil Y3<|pa2 (Ym (pv 0) rfl)<|pv 1)
  (YY (VS<|Y4 (pv 0) TO.cl m2 G2 g b2 .nil Y3<|pa3 (pv 4) (pv 1)<|pv 2)
  (YZ<|Yi<|Yj<|pa2 (Yw)<|pv 4))))),?_⟩
 dsimp only[VY,Cx.nox,Cx.wish];show let T0:=_;let T1:=Yk _ T0;let T2:=Yk _ T1;let T3:=_;let T4:=Yk (VE _ T3 _) T2;let T5:=_;let T6:=Yk (VE _ T5 _) T4;Yk _ T6 _ _ _
 intros
 refine⟨CO,_,_,_,y.ins,TO.cl,TO.bd,K9 _,_,p,b,c,i,y.bd,y.ok,hp,X,λu H1 s1 G=>?_⟩;have Z:=mx.mono s1;have R:=y.mono s1;have D:=kr.mono s1;have S:=s1 _ _ hp;have R5:∀a,av a->∃o,H1 a=some o:=λa h=>let⟨o,e⟩:=al a h;⟨o,s1 _ _ e⟩
 have c1:1<=c.size:=by rw[Bd.size_eq];omega
 rcases OV c with⟨t,rfl⟩|⟨x,rfl⟩|⟨wd,r,ed,n1,n2,n3,n4⟩
 .have hu2:=G
  unfold Bd.dat at G;obtain⟨ta,ys,rfl,J,U⟩:=Yv G;obtain⟨x1,r1,rfl,z,N⟩:=Yc U;obtain rfl:=has_str z;refine⟨_,_,Z2 J,at0,Y,_,Y,VF (by decide +kernel) ?_⟩;exact q _ (.tag t) cs M H1 ⟨_,X,Y,Y⟩ (ZG _) (vU _ _) (.of s1) Z.gg hu2
 .unfold Bd.dat at G
  obtain⟨ta,ys,rfl,J,U⟩:=Yv G;obtain⟨x1,r1,rfl,z,N⟩:=Yc U;obtain⟨x2,r2,rfl,e2,R3⟩:=Yc N;obtain rfl:=VA R3;obtain rfl:=has_str z;obtain rfl:=has_str e2;unfold OkT at ok;obtain⟨th,I⟩:=ok;refine⟨_,_,Z2 J,at0,Y,_,Y,Y1 (by decide +kernel) ?_⟩;refine⟨_,_,Z2 J,at0,Y,_,Y,VF (by decide +kernel) ?_⟩;obtain⟨_,R8,k1,_,k2⟩:=id D;obtain⟨v,v1,v2⟩:=k2 x th I;refine⟨_,_,Z2 J,at1,v,by rw[<-v1];exact Vd.k (k:=Sum.inr x) k1,?_⟩;exact q _ th cs M H1 ⟨_,X,I,Y⟩ (ZG _) (vU _ _) (.of s1) Z.gg v2
 .rw [ed]at G
  obtain⟨ta,ys,rfl,J,U⟩:=Yv G;obtain⟨x1,r1,rfl,z,N⟩:=Yc U;obtain rfl:=has_str z;refine⟨_,_,Z2 J,at0,Y,_,Y,Y1 (Rp n1) ?_⟩;refine⟨_,_,Z2 J,at0,Y,_,Y,Y1 (Rp n2) ?_⟩;exists CO,_,_,_,R.ins,TO.cl,TO.gr,NQ _;rw[y.gr];refine⟨_,_,Z.gg.ins,Qw _,CO,_,_,_,R.ins,TO.cl,TO.nu,NP _,A',cs,M,av,O.n,i,p,Z.gg,S,on,by omega,λk m H2 na T l=>?_⟩;obtain⟨G3,R7,R6⟩:=XU.le na;have O1:=Z.fr T l;have j:=R.fr Z.gg T;refine⟨_,_,j.ins,Qo _,Hm,A',ks,d,ds,m,M,av,O,b,c,i,p,kn,ρ,k,O1,j,Z.gg.tk T _ _ S,X,ok,D.fr Z.gg T,M2,Nt R5 T l,by omega,by omega,by omega,G3,λR4 B H3 mc l1 l2 f3 g3=>⟨sl 2,λt4 R1=>?_⟩⟩;refine up_in R1 _ λH4 s4 g4=>?_;refine q _ (.cell k) R4 B H4 ⟨c,X,?_⟩ (by omega) (by omega) ((FrG.of s1).trans<|T.trans<|f3.trans<|.of s4) (g3.mono s4) ?_
  .cases c <;> first|exact Zr Y (n3 _)|exact Zr Y (n4 _)|exact⟨k,m,na,Y,mc⟩
  .unfold Tg.dat
   exact Yo g4<|Z4 Yz<|Z5 (by unfold Has;rfl)
theorem QT(B:Blt Z)(TG:GCl K CG)(TO:OCl K CO)(y:Fun K "thing_at" "Going.thing_at" Xu f J)(R:Fun K "make_cell" "Going.make_cell" XE f' fd')(G:Df P w K Z base L "part_at" ["body","place"] Jv)(T:Df P w K Z base L "named" ["book","f","things"] (IH C CK))(A:VI K CG "number_at" g)(j:Ye P w K Z base CX0 L g k ["self","maker","place"] (II P w CG))(X:Binds K k ["self","maker","place"] [])(M:VI K CO "thing_at" f)(N:Binds K J spk [])(F:VI K CO "make_cell" f')(U:Binds K fd' NB []):∀n:Nat,Ye P w K Z base CX0 (L+2*n) f J spk (Er P w C CK CG CO n)/\Ye P w K Z base CX0 (L+2*n+1) f' fd' NB (Ob P w C CK CG CO n)
 |0=>by
  have S:Ye P w K Z base CX0 (L+2*0) f J spk (Er P w C CK CG CO 0):=.none λu H Q E h=>by
   obtain⟨Hm,A',i,d,ds,cs,z,av,O,b,c,v,p,a,ρ,l,gm,x,hc,D,s,t,al,r,o,e,q⟩:=h;unfold OkT at D;exact D
  exact⟨S,Qh B TG TO R G T M S N⟩
 |n+1=>by
  obtain⟨_,m⟩:=QT B TG TO y R G T A j X M N F U n;have I:Ye P w K Z base CX0 (L+2*(n+1)) f J spk (Er P w C CK CG CO<|n+1):=Cq (L:=L+2*n+1) TG TO y (G.up<|by omega) A (j.mono<|by omega) X F m U;exact⟨I,Qh B TG TO R (G.up<|by omega) (T.up<|by omega) M I N⟩
end
end K4
namespace L2
open PySem
def Uv(ρ:Rho)(x:Str)(th:Tg):Rho:=λy=>if y=x then some th else ρ y
def Bd.cellB:Bd->Prop
 |.tag _=>False
 |.name _=>False
 |_=>True
def FQ{c:Bd}(h:c.cellB):∃wd r,c.dat=.tup (.str wd::r)/\wd≠"tag" /\wd≠"name":=by
 cases c <;> first|exact h.elim|exact⟨_,_,by unfold Bd.dat;rfl,by decide +kernel,by decide +kernel⟩
end L2
namespace K4
open PySem L2
section
variable{C CK CG CO CW CD:Addr}
def AW(A:OM):(JY A).lookup ("ground":Str)=some (V.ref A.gr):=rfl
def Ai(A:GA):(Up A).lookup ("head_given":Str)=none:=rfl
theorem U5:∀Z:kC,HasL H (Z.map V.str)<|(Z.map W.tag).map W.dat
 |[]=>Z6
 |g::Z=>Z4 (by unfold W.dat Has;rfl)<|U5 Z
inductive zw(CG CO:Addr)(H:Hp)(Q:VK):List V->Prop
 |mk (A:GA) (O:OM) (b:Bd) (y:V) (th:Tg) (gm:GM H CO A O b) (ins:H A.t=some (.ins CG A.dx (Up A))) (gv:H A.gv=some (.tup (A.gs.map V.str))) (l3:A.gs.length<=3) (hy:Has H y th.dat) (q1:∀n,th=.cell n->∀u H',Same H H'->Has H' u (.tup [.str "want",.int (n:Nat)])->Q u H') (q2:∀t,th=.tag t->∀u H',Same H H'->Has H' u (.tup [.str "head",tagD t])->Q u H') (q3:∀i,th=.giv i->∃t,A.gs[i]?=some t/\∀u H',Same H H'->Has H' u (.tup [.str "head",tagD t])->Q u H'):zw CG CO H Q [.ref O.t,y]
def IJ(CG CO:Addr):Sp:=λZ H Q _=>zw CG CO H Q Z
def AL(TG:GCl K CG)(TO:OCl K CO)(F:Fun K "from_thing" "Going.from_thing" Xd f fd)(m:VI K CG "head_given" g)(G:Ye P w K mg base CX0 n g gd iwy (Sg CG))(bG:Binds K gd iwy []):Ye P w K mg base CX0 (n+1) f fd ["self","thing"] (IJ CG CO):=by
 refine F.oi ya λJ2 A S s H vs Q E hr h=>?_;obtain⟨x,O,b,y,th,a,ins,gv,l3,J,q1,q2,I⟩:=h;refine⟨_,YY (Y5 (Ys Vc (Yr (r:=Vb K) Yt (pv 1)<|Ya) Yw<|Y0 _) (YZ<|Yi<|Yj<|pa2 (Yw)<|Yr (r:=Vb K) Yt (pv 1)<|Ya) Yp)
  (YY (Y5 (Ys Vc (Yr (r:=Vb K) Yt (pv 1)<|Ya) Yw<|Y0 _) (YZ<|Yi<|Y4 (Ym (pv 0) rfl) TG.cl m G hr bG .nil Y3<|pa2 (Yr (r:=Vb K) Yt (pv 1)<|Ya)<|Yr (r:=Vb K) Yt (pv 1)<|Ya) Yp)
  (YZ<|Yi<|Yj<|pa2 (Yw)<|pv 1)),?_⟩
 dsimp only[VY,Cx.nox,Cx.wish];show let T0:=_;let T1:=_;let T2:=Yk (VE _ T1 _) T0;let T3:=_;Yk (VE _ T3 _) T2 _ _ _
 intros
 cases th with
 |giv i=>
  obtain⟨D,X,I⟩:=I i rfl;unfold Tg.dat TQ at J;obtain⟨t,d,rfl,L,N⟩:=Yv J;obtain⟨l,e,rfl,R,Z⟩:=Yc N;obtain⟨v,r2,rfl,B,M⟩:=Yc Z;obtain⟨x3,r3,rfl,e3,z⟩:=Yc M;obtain rfl:=VA z;obtain rfl:=has_str R;obtain rfl:v=.int (i:Nat):=by unfold Has at B;exact B
  have T:=Z2 (K:=K) L;refine⟨_,_,T,at0,Y,_,Y,Y1 (by decide +kernel) ?_⟩;refine⟨_,_,T,at0,Y,_,Y,VF (by decide +kernel) ?_⟩;exists CO,_,_,_,a.ins,TO.cl,TO.gr,AW _;rw[a.gr];refine⟨_,_,ins,Ai _,_,_,T,at1,_,_,T,at2,x,x.gs.map W.tag,i,.tag D,_,[],⟨ins,_,gv,U5 _⟩,by rw[ZH,X];rfl,by rw[ZA];exact l3,e3,λk h=>(by cases h),by decide,λu c s1 o=>I u c s1 ?_⟩;have ep:(W.tag D).part []=.tag D:=by unfold W.part;rfl
  rw[ep]at o;exact o
 |cell n'=>
  unfold Tg.dat at J;obtain⟨t,d,rfl,L,N⟩:=Yv J;obtain⟨l,e,rfl,R,Z⟩:=Yc N;obtain⟨v,r2,rfl,B,M⟩:=Yc Z;obtain rfl:=VA M;obtain rfl:=has_str R;refine⟨_,_,Z2 L,at0,Y,_,Y,VF (by decide +kernel) ⟨_,_,Z2 L,at1,sl 2,λp j=>?_⟩⟩;refine up_in j _ λc s1 q=>q1 n' Y _ _ s1 ?_;exact Yo q<|Z4 Yz<|Z5<|B.mono s1
 |tag t'=>
  have U:=J;unfold Tg.dat at J;obtain⟨t,d,rfl,L,N⟩:=Yv J;obtain⟨l,e,rfl,R,Z⟩:=Yc N;obtain rfl:=has_str R;refine⟨_,_,Z2 L,at0,Y,_,Y,Y1 (by decide +kernel) ?_⟩;refine⟨_,_,Z2 L,at0,Y,_,Y,Y1 (by decide +kernel) ⟨sl 2,λp j=>?_⟩⟩;refine up_in j _ λc s1 q=>q2 t' Y _ _ s1 ?_;exact Yo q<|Z4 Yz<|Z5<|U.mono s1
def NC:Yh ["self","body","place","known","word","name","kind","own","rest","within","number"] ["self","body","place","known"] (Yd G6):=Y2
inductive SWL(P:Program)(w:World)(C CK CG CO:Addr)(n:Nat)(H:Hp)(Q:VK):List V->Prop
 |mk (Hm:Hp) (A:GA) (ks:List (Str×Shp)) (d:Str->Nat) (ds:List Dd) (cs:List Mk1) (sts:Nat->Option Sta) (av:Addr->Prop) (O:OM) (b:Bd) (x k':Str) (e r:Bd) (pl:List Int) (y:V) (p kn:Addr) (ρ:Rho) (mx:MX P w Hm H C CK CG A ks d ds cs sts av) (gm:GM H CO A O b) (hp:H p=some (.tup (pl.map V.int))) (hc:b.at pl=some (.letb x k' e r)) (hy:Has H y (Bd.letb x k' e r).dat) (ce:e.cellB) (ok:∀k,OkT ds (Uv ρ x (.cell k)) (n+1) e) (kr:KnR A H kn ρ (3+pl.length)) (al:∀a,av a->∃o,H a=some o) (on:O.n<=cs.length) (lc:cs.length+e.size<=9000) (lw:pl.length+n+2<=500)
  (q:∀kn' k cs1 s2 H',XU cs (O.n,pl++[0]) k cs1->MCp ds O.F (Uv ρ x (.cell k)) (λi=>TAp ds O.F b O.n (Uv ρ x (.cell k)) n (pl++[0]++[(i:Int)])) e (pl++[0]) k (cs1,sts) s2->cs.length<=s2.1.length->s2.1.length<=cs.length+e.size->FrG A H H'->GG P w H' CG A s2.1 s2.2 av->H kn'=none->KnR A H' kn' (Uv ρ x (.cell k)) (3+(pl++[1]).length)->Q (.ref kn') H'):SWL P w C CK CG CO n H Q [.ref O.t,y,.ref p,.ref kn]
def SX(P:Program)(w:World)(C CK CG CO:Addr)(n:Nat):Sp:=λZ H Q _=>SWL P w C CK CG CO n H Q Z
def Co(B:Blt mg)(TG:GCl K CG)(TO:OCl K CO)(F:Fun K "with_let" "Going.with_let" G6 f fd)(m1:VI K CG "number_at" g1)(G1:Ye P w K mg base CX0 L g1 d1 ["self","maker","place"] (II P w CG))(b1:Binds K d1 ["self","maker","place"] [])(m2:VI K CO "make_cell" g2)(G2:Ye P w K mg base CX0 L g2 d2 NB (Ob P w C CK CG CO n))(b2:Binds K d2 NB []):Ye P w K mg base CX0 (L+1) f fd ["self","body","place","known"] (SX P w C CK CG CO n):=by
 refine F.oi NC λS2 A T9 s H vs Q E hr h=>?_;obtain⟨Hm,N,ks,d,ds,cs,R,av,O,b,x,k',e,r,t,y,p,kn,ρ,J,gm,hp,hc,hy,ce,ok,kr,al,on,lc,lw,q⟩:=h;have hu:=JA hr;refine⟨_,YY (Jq (pv 1)<|Vg (n:=5) rfl (Yn (Yl 4 NC.nd)<|Yn (Yl 5 NC.nd)<|Yn (Yl 6 NC.nd)<|Yn (Yl 7 NC.nd)<|Yn (Yl 8 NC.nd) VJ))
  (YY (Yx 9 NC.nd<|VZ DV rfl B.dict Ui (pa1<|pv 3))
  (YY (Y5 (PW.pt<|Um (Ys Vc (Yr (r:=Vb K) Yt (pv 7)<|Ya) Yw<|Y0 _)<|J4<|PW.pt<|MT (Ys Vc (Yr (r:=Vb K) Yt (pv 7)<|Ya) Yw<|Y0 _)<|GD<|Ys UR (Yr (r:=Vb K) Yt (pv 7)<|Ya) (pv 5)<|Y0 _) Jw Yp)
  (YY (Yx 10 NC.nd<|Y4 (Ym (pv 0) rfl) TG.cl m1 G1 hr b1 .nil Y3<|pa2 (Ym (pv 0) rfl)<|Y7 (r:=λx y H Q=>J3 K x y H Q\/J1 K x y H Q) Jh (pv 2)<|Yj<|pa1<|Ya)
  (YY (Vf hu (pv 9) (pv 5) (Yj<|pa2 (Yw)<|pv 10) rfl)
  (YY (VS<|Y4 (pv 0) TO.cl m2 G2 hr b2 .nil Y3<|pa3 (pv 10) (Y7 (r:=λx y H Q=>J3 K x y H Q\/J1 K x y H Q) Jh (pv 2)<|Yj<|pa1<|Ya)<|pv 9)
  (YZ<|Yi<|pv 9)))))),?_⟩
 dsimp only[VY,Cx.nox,Cx.wish];show let T0:=_;let T1:=Yk _ T0;let T2:=Yk _ T1;let T3:=Yk _ T2;let T4:=Yk (VE _ _ _) T3;let T5:=Yk _ T4;Yk _ T5 _ _ _
 intros
 unfold Bd.dat at hy;obtain⟨ta,ys,rfl,F1,hl⟩:=Yv hy;obtain⟨x1,r1,rfl,e1,R1⟩:=Yc hl;obtain⟨x2,r2,rfl,e2,O1⟩:=Yc R1;obtain⟨x3,r3,rfl,e3,M2⟩:=Yc O1;obtain⟨x4,r4,rfl,e4,G3⟩:=Yc M2;obtain⟨x5,r5,rfl,e5,J2⟩:=Yc G3;obtain rfl:=VA J2;obtain rfl:=has_str e1;obtain rfl:=has_str e2;obtain rfl:=has_str e3;clear hl R1 O1 M2 G3 J2;exists _,Z2 F1,Y;obtain⟨I5,D7,R3,lk,F6⟩:=id kr;refine⟨kn,D7,Y,R3,λl D=>?_⟩;refine up_in D _ λH1 s1 g1=>?_;obtain⟨wd,rr,ed,n1,n2⟩:=FQ ce;have R4:=e4.mono s1;rw[ed]at R4;obtain⟨te,I1,rfl,i,F5⟩:=Yv R4;obtain⟨z1,rz,rfl,U,_⟩:=Yc F5;obtain rfl:=has_str U;refine⟨_,_,Z2 i,at0,Y,_,Y,Y1 (Rp n1) ?_⟩;refine⟨_,_,Z2 i,at0,Y,_,Y,Y1 (Rp n2)<|Y1 (by simp) ?_⟩;have T6:=J.gg.avoid D s1
 let T7:Addr->Prop:=λa=>av a\/a=l
 have D3:MX P w Hm H1 C CK CG N ks d ds cs R T7:=⟨J.sm.trans s1,J.bi,J.f1,J.f2,J.f3,T6⟩;have I:=gm.mono s1;exists CO,_,_,_,I.ins,TO.cl,TO.gr,NQ _;rw[gm.gr];refine⟨_,_,T6.ins,Qw _,CO,_,_,_,I.ins,TO.cl,TO.nu,NP _,sl 1,λt2 F4=>?_⟩;refine up_in F4 _ λH2 s2 g2=>?_;refine UH (JL<|s2 _ _<|s1 _ _ hp) (UD g2) (by simp) (by simp;omega) λu3 H3 s3 h3=>?_;obtain⟨a3,rfl,F9⟩:=Ji h3;have G:=s2.trans s3;have T:=D3.mono G;refine⟨N,cs,R,T7,O.n,t++[0],a3,T.gg,F9,on,by omega,λk j H4 na f4 R8=>?_⟩;obtain⟨D1,I3,I2⟩:=XU.le na;have I4:=T.fr f4 R8;have I9:=(I.mono G).fr T.gg f4
 have M:l≠N.bs/\l≠N.nu/\l≠N.st:=by
  obtain⟨xs,h1,_⟩:=J.gg.bs;obtain⟨I6,h2,_⟩:=J.gg.nu;obtain⟨ks2,h3,_⟩:=J.gg.st;exact⟨(Yb h1 D).symm,(Yb h2 D).symm,(Yb h3 D).symm⟩
 have R7:=f4 _ _ M.1 M.2.1 M.2.2<|G _ _ g1;refine⟨sl 2,λt5 F3=>?_⟩;refine up_in F3 _ λH5 c g5=>?_;refine⟨_,Je.k (k:=Sum.inr x) (c _ _ R7)<|JI<|by omega,?_⟩;refine fld_in l _ λH6 b6 g6=>?_;have R6:=c _ _ R7;have T8:TK H5 H6:=λa ys h=>b6 _ _ (Yy h R6 (by intro z;cases z)) h;have I8:kn≠l:=Yb R3 D;have I7:KnR N H5 kn ρ (3+t.length):=((kr.mono<|s1.trans G).fr T.gg f4).mono c;have S:GG P w H6 CG N j R av:=((R8.mono c).wr R6 (.inr rfl) b6 M.2.2).less λa h=>.inl h;have m:FrG N H H6:=λb o n1 n2 n3 h=>b6 _ _ (Yb h D)<|c _ _<|f4 _ _ n1 n2 n3<|G _ _<|s1 _ _ h;have D2:=J.fr m S;have R5:=gm.fr J.gg m
 have u:KnR N H6 l (Uv ρ x<|.cell k) (3+t.length+1):=by
  refine⟨M.2.2,_,g6,Zb (VW _ _ _)<|kq lk,λz th U=>?_⟩;unfold Uv at U
  by_cases zx:z=x
  .rw [Zp zx]at U
   cases U;refine⟨.ref t5,by rw[Vx,Zp (by rw[zx])],?_⟩;unfold Tg.dat;exact Yo (T8 _ _ g5)<|Z4 Yz<|Z5 (by unfold Has;rfl)
  .rw [Zq zx]at U
   obtain⟨v,v1,v2⟩:=F6 z th U;exact⟨v,by rw[Vx,Zq (λq=>zx<|Sum.inr.inj q)];exact v1,VL (J.gg.tk m) _ (Tg.ti th) v2⟩
 refine⟨_,_,R5.ins,Qo _,sl 1,λt7 F2=>?_⟩;refine up_in F2 _ λH7 s7 g7=>?_;refine UH (JL<|s7 _ _<|J.gg.tk m _ _ hp) (UD g7) (by simp) (by simp;omega) λu8 H8 s8 h8=>?_;obtain⟨a8,rfl,F8⟩:=Ji h8;have Z:=s7.trans s8;have F7:b.at (t++[0])=some e:=Bd.at_snoc t hc (by decide) rfl
 have D0:¬av l:=λz=>by
  obtain⟨o,e⟩:=al l z;rw[D]at e;cases e
 refine⟨Hm,N,ks,d,ds,j,R,av,O,b,e,t++[0],a8,l,Uv ρ x<|.cell k,k,D2.mono Z,R5.mono Z,F8,F7,ok k,(u.mono Z).le (by rw[ZL,vc];omega),D0,Nt al (m.trans<|.of Z)<|S.mono Z,by omega,by omega,by rw[ZL,vc];omega,D1,λX g H9 mc l1 l2 f9 g9=>?_⟩;refine q l k j (X,g) H9 na mc (by show cs.length<=X.length;omega) (by show X.length<=_;omega) (m.trans<|(FrG.of Z).trans f9) g9 D<|((u.mono Z).fr (S.mono Z) f9).le (by rw[ZL,vc];omega)
end
end K4
namespace L2
open PySem
abbrev av0:Addr->Prop:=λ_=>False
abbrev WEn:=Bd×List Int×Rho
def StB(A:GA)(av:Addr->Prop)(H:Hp)(u:V)(pl:kE)(ρ:Rho):Prop:=∃t p Z,u=.ref t/\H t=some (.tup [.str "body",.ref p,.ref Z])/\H p=some (.tup<|pl.map V.int)/\KnR A H Z ρ (3+pl.length)/\ ¬av Z
def WEm(A:GA)(av:Addr->Prop)(H:Hp)(z:V)(c:WEn):Prop:=∃t J p Z,z=.ref t/\H t=some (.tup [J,.ref p,.ref Z])/\Has H J c.1.dat/\H p=some (.tup<|c.2.1.map V.int)/\KnR A H Z c.2.2 (3+c.2.1.length)/\ ¬av Z
def OkB(ds:List Dd)(ρ:Rho)(n:Nat):Bd->Prop
 |.tag _=>True
 |.name x=>∃th,ρ x=some th
 |.ask f as=>OkT ds ρ (n+1)<|.ask f as
 |.letb x _ e _=>e.cellB/\∀k,OkT ds (Uv ρ x<|.cell k) (n+1) e
 |.choose _ _ _=>True
 |_=>False
def GG.lb(g:GG P w H CG A cs sts av)(J:H l=some (.lst o))(n:l≠A.bs)(b:SameB l H r):GG P w r CG A cs sts av:=by
 obtain⟨T,u,f⟩:=g.bs;obtain⟨y,R,d,O⟩:=g.nu;obtain⟨G,N,c,m⟩:=g.st;have Z:=UM b J;refine⟨b _ _ (Yy g.ins J (by intro z;cases z)) g.ins,⟨T,b _ _ n.symm u,Jb Z _ (J6 cs) f⟩,⟨y,b _ _ (Yy R J Ue) R,d.tk O Z,O⟩,g.nd,Z _ _ g.gv,G,b _ _ (Yy N J (by intro z;cases z)) N,c,λk st e=>?_⟩;obtain⟨t,p,q,Q,X,C,U,S⟩:=m k st e;obtain⟨E,j,L,B,D⟩:=U;exact⟨t,p,q,Q,Z _ _ X,Z _ _ C,⟨E,j,b _ _ (Yy L J (by intro z;cases z)) L,B,λx M e=>let⟨v,I,F⟩:=D x M e;⟨v,I,VL Z _ (Tg.ti M) F⟩⟩,S⟩
def KnR.lb(k:KnR A H a ρ m)(G:H l=some (.lst B))(b:SameB l H T):KnR A T a ρ m:=by
 obtain⟨n,Z,L,O,R⟩:=k;exact⟨n,Z,b _ _ (Yy L G (by intro z;cases z)) L,O,λx J e=>let⟨v,N,M⟩:=R x J e;⟨v,N,VL (UM b G) _ (Tg.ti J) M⟩⟩
end L2
namespace K4
open PySem L2
section
variable{C CK CG CO CW CD:Addr}
def zE(A:OM):(JY A).lookup ("with_let":Str)=none:=rfl
inductive yA(P:Program)(w:World)(C CK CG CO:Addr)(n:Nat)(H:Hp)(Q:VK):List V->Prop
 |mk (Hm:Hp) (A:GA) (ks:List (Str×Shp)) (d:Str->Nat) (ds:List Dd) (cs:List Mk1) (sts:Nat->Option Sta) (av:Addr->Prop) (O:OM) (b c:Bd) (pl:List Int) (p kn:Addr) (ρ:Rho) (zs:List V) (mx:MX P w Hm H C CK CG A ks d ds cs sts av) (gm:GM H CO A O b) (hz:H O.wl=some (.lst zs)) (wb:O.wl≠A.bs) (hp:H p=some (.tup (pl.map V.int))) (hc:b.at pl=some c) (ok:OkB ds ρ n c) (kr:KnR A H kn ρ (3+pl.length)) (nk:¬av kn) (al:∀a,av a->∃o,H a=some o) (on:O.n<=cs.length) (lc:cs.length+c.size<=9000) (lw:pl.length+n<=400) (lz:zs.length<=400)
  (q1:∀t,c=.tag t->∀u H',Same H H'->Has H' u (.tup [.str "head",tagD t])->Q u H') (q2:∀x th,c=.name x->ρ x=some th->∀u H',Same H H'->Has H' u (.tup [.str "thing",th.dat])->Q u H')
  (q3:∀f as,c=.ask f as->∀u th cs' sts' H',TAp ds O.F b O.n ρ (n+1) pl (cs,sts) th (cs',sts')->cs.length<=cs'.length->cs'.length<=cs.length+c.size->FrG A H H'->GG P w H' CG A cs' sts' av->Has H' u (.tup [.str "thing",th.dat])->Q u H')
  (q4:∀x k' e r,c=.letb x k' e r->∀u k cs1 s2 H',XU cs (O.n,pl++[0]) k cs1->MCp ds O.F (Uv ρ x (.cell k)) (λi=>TAp ds O.F b O.n (Uv ρ x (.cell k)) n (pl++[0]++[(i:Int)])) e (pl++[0]) k (cs1,sts) s2->cs.length<=s2.1.length->s2.1.length<=cs.length+c.size->FrG A H H'->GG P w H' CG A s2.1 s2.2 av->StB A av H' u (pl++[1]) (Uv ρ x (.cell k))->Q u H')
  (q5:∀e ts bs,c=.choose e ts bs->∀u z H',SameB O.wl H H'->H' O.wl=some (.lst (zs++[z]))->WEm A av H' z (c,pl,ρ)->StB A av H' u (pl++[0]) ρ->Q u H'):yA P w C CK CG CO n H Q [.ref O.t,.ref p,.ref kn]
def IL(P:Program)(w:World)(C CK CG CO:Addr)(n:Nat):Sp:=λZ H Q _=>yA P w C CK CG CO n H Q Z
def AN(TO:OCl K CO)(F:Fun K "from_body" "Going.from_body" Wf f fd)(DP:Df P w K mg base L "part_at" ["body","place"] Jv)(m1:VI K CO "thing_at" g1)(G1:Ye P w K mg base CX0 L g1 d1 spk (Er P w C CK CG CO<|n+1))(b1:Binds K d1 spk [])(m2:VI K CO "with_let" D)(G2:Ye P w K mg base CX0 L D d2 ["self","body","place","known"] (SX P w C CK CG CO n))(b2:Binds K d2 ["self","body","place","known"] []):Ye P w K mg base CX0 (L+1) f fd ["self","place","known"] (IL P w C CK CG CO n):=by
 refine F.oi CU λF6 A R5 s H vs Q E hr h=>?_;obtain⟨Hm,A',ks,d,ds,cs,J2,av,O,b,c,pl,p,kn,ρ,zs,mx,gm,hz,wb,hp,hc,m,kr,nk,al,on,lc,lw,lz,q1,q2,q3,q4,q5⟩:=h;have hu:=JA hr;refine⟨_,YY (Yx 3 CU.nd<|VP DP hr<|pa2 (Ym (pv 0) rfl)<|pv 1)
  (YY (Y5 (Ys Vc (Yr (r:=Vb K) Yt (pv 3)<|Ya) Yw<|Y0 _) (YZ<|Yi<|Yj<|pa2 (Yw)<|pv 3) Yp)
  (YY (Y5 (Ys Vc (Yr (r:=Vb K) Yt (pv 3)<|Ya) Yw<|Y0 _) (YZ<|Yi<|Yj<|pa2 (Yw)<|Vl hu (pv 2) (Yr (r:=Vb K) Yt (pv 3)<|Ya) λ_ _=>rfl) Yp)
  (YY (Y5 (Ys Vc (Yr (r:=Vb K) Yt (pv 3)<|Ya) Yw<|Y0 _) Jw Yp)
  (YY (Y5 (Ys Vc (Yr (r:=Vb K) Yt (pv 3)<|Ya) Yw<|Y0 _) (YZ<|Yi<|Yj<|pa2 (Yw)<|Y4 (pv 0) TO.cl m1 G1 hr b1 .nil Y3<|pa2 (pv 1)<|pv 2) Yp)
  (YY (Y5 (Ys Vc (Yr (r:=Vb K) Yt (pv 3)<|Ya) Yw<|Y0 _) (YZ<|Yi<|Yj<|pa3 (Yw) (Y7 (r:=λx y H Q=>J3 K x y H Q\/J1 K x y H Q) Jh (pv 1)<|Yj<|pa1<|Ya)<|Y4 (pv 0) TO.cl m2 G2 hr b2 .nil Y3<|pa3 (pv 3) (pv 1)<|pv 2) Yp)
  (YY (VS<|Uw Zz Z0 Z1 JR (Ym (pv 0) rfl)<|pa1<|Yj<|pa3 (pv 3) (pv 1)<|pv 2)
  (YZ<|Yi<|Yj<|pa3 (Yw) (Y7 (r:=λx y H Q=>J3 K x y H Q\/J1 K x y H Q) Jh (pv 1)<|Yj<|pa1<|Ya)<|pv 2))))))),?_⟩
 dsimp only[VY,Cx.nox,Cx.wish];show let T0:=_;let T1:=Yk _ T0;let T2:=_;let T3:=Yk (VE _ T2 _) T1;let T4:=_;let T5:=Yk (VE _ T4 _) T3;let T6:=Yk (VE _ _ _) T5;let T7:=_;let T8:=Yk (VE _ T7 _) T6;let T9:=_;let F3:=Yk (VE _ T9 _) T8;Yk _ F3 _ _ _
 intros
 refine⟨CO,_,_,_,gm.ins,TO.cl,TO.bd,K9 _,_,p,b,c,pl,gm.bd,gm.ok,hp,hc,λu H1 s1 Z=>?_⟩;have g:=mx.mono s1;have B:=gm.mono s1;have I:=kr.mono s1;have R4:∀a,av a->∃o,H1 a=some o:=λa h=>let⟨o,e⟩:=al a h;⟨o,s1 _ _ e⟩
 have U:=s1 _ _ hp;have S:=Z
 cases c with
 |pair=>exact m.elim
 |one=>exact m.elim
 |other=>exact m.elim
 |tag t=>
  unfold Bd.dat at Z;obtain⟨a,ys,rfl,J,X⟩:=Yv Z;obtain⟨x1,r1,rfl,j,T⟩:=Yc X;obtain rfl:=has_str j;refine⟨_,_,Z2 J,at0,Y,_,Y,VF (by decide +kernel) ⟨sl 2,λr R=>?_⟩⟩;refine up_in R _ λH2 N D=>q1 t Y _ _ (s1.trans N) ?_;unfold Bd.dat at S;exact Yo D<|Z4 Yz<|Z5<|S.mono N
 |name x=>
  unfold Bd.dat at Z;obtain⟨a,ys,rfl,J,X⟩:=Yv Z;obtain⟨x1,r1,rfl,j,T⟩:=Yc X;obtain⟨x2,r2,rfl,e2,D2⟩:=Yc T;obtain rfl:=VA D2;obtain rfl:=has_str j;obtain rfl:=has_str e2;obtain⟨th,O1⟩:=m;refine⟨_,_,Z2 J,at0,Y,_,Y,Y1 (by decide +kernel) ?_⟩;refine⟨_,_,Z2 J,at0,Y,_,Y,VF (by decide +kernel) ?_⟩;obtain⟨_,F4,k1,_,k2⟩:=id I;obtain⟨v,v1,v2⟩:=k2 x th O1;refine⟨_,_,Z2 J,at1,v,by rw[<-v1];exact Vd.k (k:=Sum.inr x) k1,⟨sl 2,λr R=>?_⟩⟩;refine up_in R _ λH2 N D=>q2 x th Y O1 _ _ (s1.trans N) ?_;exact Yo D<|Z4 Yz<|Z5<|v2.mono N
 |ask f' as=>
  unfold Bd.dat at Z;obtain⟨a,ys,rfl,J,X⟩:=Yv Z;obtain⟨x1,r1,rfl,j,T⟩:=Yc X;obtain rfl:=has_str j;refine⟨_,_,Z2 J,at0,Y,_,Y,Y1 (by decide +kernel) ?_⟩;refine⟨_,_,Z2 J,at0,Y,_,Y,Y1 (by decide +kernel) ?_⟩;refine⟨_,_,Z2 J,at0,Y,_,Y,Y1 (by decide +kernel) ?_⟩;refine⟨_,_,Z2 J,at0,Y,_,Y,VF (by decide +kernel) ?_⟩;refine⟨_,_,B.ins,Qn _,Hm,A',ks,d,ds,cs,J2,av,O,b,_,pl,p,kn,ρ,g,B,U,hc,m,I,nk,R4,on,lc,by omega,λu2 th F1 i H2 ta l1 l2 f2 D hu=>⟨sl 2,λr R=>?_⟩⟩;refine up_in R _ λH3 s3 g3=>q3 f' as Y _ th F1 i H3 ta l1 l2 ((FrG.of s1).trans<|f2.trans<|.of s3) (D.mono s3) ?_;exact Yo g3<|Z4 Yz<|Z5<|hu.mono s3
 |letb x k' e r=>
  unfold Bd.dat at Z;obtain⟨a,ys,rfl,J,X⟩:=Yv Z;obtain⟨x1,r1,rfl,j,T⟩:=Yc X;obtain rfl:=has_str j;refine⟨_,_,Z2 J,at0,Y,_,Y,Y1 (by decide +kernel) ?_⟩;refine⟨_,_,Z2 J,at0,Y,_,Y,Y1 (by decide +kernel) ?_⟩;refine⟨_,_,Z2 J,at0,Y,_,Y,Y1 (by decide +kernel) ?_⟩;refine⟨_,_,Z2 J,at0,Y,_,Y,Y1 (by decide +kernel) ?_⟩;refine⟨_,_,Z2 J,at0,Y,_,Y,VF (by decide +kernel) ⟨sl 1,λt2 D1=>?_⟩⟩;refine up_in D1 _ λH2 N D=>?_;refine UH (JL<|N _ _ U) (UD D) (by simp) (by simp;omega) λu3 H3 s3 h3=>?_;obtain⟨a3,rfl,D7⟩:=Ji h3;have G:=N.trans s3;have R3:∀a,av a->∃o,H3 a=some o:=λa h=>let⟨o,e⟩:=R4 a h;⟨o,G _ _ e⟩
  have F5:(Bd.letb x k' e r).size=1+(e.size+r.size):=by conv=>lhs;unfold Bd.size
  refine⟨_,_,(B.mono G).ins,zE _,Hm,A',ks,d,ds,cs,J2,av,O,b,x,k',e,r,pl,_,p,kn,ρ,g.mono G,B.mono G,G _ _ U,hc,S.mono G,m.1,m.2,I.mono G,R3,on,by omega,by omega,λR7 k F2 s4 H4 na mc l1 l2 f4 g4 fk R6=>⟨sl 3,λt5 D0=>?_⟩⟩;refine up_in D0 _ λH5 l g5=>q4 x k' e r Y _ k F2 s4 H5 na mc l1 (by omega) ((FrG.of<|s1.trans G).trans<|f4.trans<|.of l) (g4.mono l) ⟨t5,a3,R7,rfl,g5,l _ _<|(g.mono G).gg.tk f4 _ _ D7,R6.mono l,λz=>let⟨o,e⟩:=R3 _ z;by rw[fk]at e;cases e⟩
 |choose e ts bs=>
  unfold Bd.dat at Z;obtain⟨a,ys,rfl,J,X⟩:=Yv Z;obtain⟨x1,r1,rfl,j,T⟩:=Yc X;obtain rfl:=has_str j;refine⟨_,_,Z2 J,at0,Y,_,Y,Y1 (by decide +kernel) ?_⟩;refine⟨_,_,Z2 J,at0,Y,_,Y,Y1 (by decide +kernel) ?_⟩;refine⟨_,_,Z2 J,at0,Y,_,Y,Y1 (by decide +kernel) ?_⟩;refine⟨_,_,Z2 J,at0,Y,_,Y,Y1 (by decide +kernel) ?_⟩;refine⟨_,_,Z2 J,at0,Y,_,Y,Y1 (by decide +kernel) ?_⟩;refine⟨CO,_,_,_,B.ins,TO.cl,TO.wt,EG _,.inl ⟨Y,_,Z3<|s1 _ _ hz⟩,sl 3,λr R=>?_⟩;refine up_in R _ λH2 N D=>⟨O.wl,_,_,Y,Y,N _ _<|s1 _ _ hz,JI<|by omega,?_⟩;have M2:=N _ _<|s1 _ _ hz;refine fld_in O.wl _ λH3 b3 g3=>⟨sl 1,λo ho=>?_⟩;have q:=UM b3 M2;refine up_in ho _ λH4 s4 g4=>?_;have R1:=q _ _<|N _ _ U;refine UH (JL<|s4 _ _ R1) (UD g4) (by simp) (by simp;omega) λu5 H5 l h5=>⟨sl 3,λt6 R8=>?_⟩;refine up_in R8 _ λH6 s6 g6=>?_;have M:=(s4.trans l).trans s6;obtain⟨a5,rfl,D3⟩:=Ji h5;have G3:KnR A' H3 kn ρ (3+pl.length):=(I.mono N).lb M2 b3;refine q5 e ts bs Y _ (.ref r) H6 (((s1.trans N).sb.trans b3).trans M.sb) (M _ _ g3) ⟨r,_,p,kn,Y,M _ _<|q _ _ D,(VL q _ (Bd.ti _)<|S.mono N).mono M,M _ _ R1,G3.mono M,nk⟩ ⟨t6,a5,kn,rfl,g6,s6 _ _ D3,(G3.mono M).le (by rw[ZL];omega),nk⟩
end
end K4
namespace L2
open PySem
def WEm.fr(h:WEm A av H z c)(g:GG P w H CG A cs sts av')(f:FrG A H T):WEm A av T z c:=by
 obtain⟨t,R,p,J,e,O,N,M,L,G⟩:=h;have Z:=g.tk f;exact⟨t,R,p,J,e,Z _ _ O,VL Z _ (Bd.ti _) N,Z _ _ M,L.fr g f,G⟩
def WEm.lb(h:WEm A av H z c)(J:H l=some (.lst D))(b:SameB l H B):WEm A av B z c:=by
 obtain⟨t,T,p,G,e,R,O,N,M,L⟩:=h;have Z:=UM b J;exact⟨t,T,p,G,e,Z _ _ R,VL Z _ (Bd.ti _) O,Z _ _ N,M.lb J b,L⟩
def WLm(A:GA)(av:Addr->Prop)(H:Hp)(zs:kL)(l:List WEn):Prop:=zs.length=l.length/\∀(k:Nat) z c,zs[k]?=some z->l[k]?=some c->WEm A av H z c
def WLm.fr(h:WLm A av H Z l)(g:GG P w H CG A cs sts av')(f:FrG A H L):WLm A av L Z l:=⟨h.1,λk z c G J=>(h.2 k z c G J).fr g f⟩
def WLm.lb(h:WLm A av H Z l)(J:H a=some (.lst N))(b:SameB a H M):WLm A av M Z l:=⟨h.1,λk z c L G=>(h.2 k z c L G).lb J b⟩
def WLm.snoc(h:WLm A av H L l)(e:WEm A av H z c):WLm A av H (L++[z]) (l++[c]):=by
 refine⟨by rw[ZL,ZL,h.1];rfl,λk y d Z J=>?_⟩;rcases jB k L.length with G|G
 .rw [vd G]at Z
  rw[vd (by rw[<-h.1];exact G)]at J;exact h.2 k y d Z J
 .rw [vb G]at Z
  rw[vb (by rw[<-h.1];exact G)]at J;rw[<-h.1]at J
  cases hz:k-L.length with
  |zero=>
   rw[hz]at Z J;cases Z;cases J;exact e
  |succ m=>rw[hz]at Z;simp at Z
def WLm.last(h:WLm A av H Z (l++[c])):∃J z,Z=J++[z]/\WLm A av H J l/\WEm A av H z c:=by
 have e:=h.1;rw[ZL,vc]at e;have G:Z≠[]:=λz=>by rw[z]at e;simp at e
 exists Z.dropLast,Z.getLast G,(vw G).symm,⟨by rw[jV];omega,λk z d M L=>?_⟩
 .have kl:=(ZF.mp L).1
  rw[List.getElem?_dropLast,Zp (by omega)]at M;exact h.2 k z d M (by rw[vd kl];exact L)
 .refine h.2 l.length _ _ ?_ (by rw[vb (ZG _),vt];rfl)
  rw[List.getLast_eq_getElem];rw[show l.length=Z.length-1 by omega];exact ZD _
inductive Stp where
 |body (pl:List Int) (ρ:Rho)|thing (th:Tg)|head (t:Str)|want (k:Nat)
def Stp.on(A:GA)(av:Addr->Prop)(H:Hp)(u:V):Stp->Prop
 |.body pl ρ=>StB A av H u pl ρ
 |.thing th=>Has H u<|.tup [.str "thing",th.dat]
 |.head t=>Has H u<|.tup [.str "head",K4.tagD t]
 |.want k=>Has H u<|.tup [.str "want",.int (k:Nat)]
inductive Gos(ds:List Dd)(gs:List Str)(F:Str)(b:Bd)(num n:Nat):Nat->Stp->List WEn->Ss->Stp->List WEn->Ss->Prop
 |stopW:Gos ds gs F b num n 0 (.want k) l s (.want k) l s
 |stopH:Gos ds gs F b num n 0 (.head t) [] s (.head t) [] s
 |thC (g:Gos ds gs F b num n m (.want k) l s r l' s'):Gos ds gs F b num n (m+1) (.thing (.cell k)) l s r l' s'
 |thT (g:Gos ds gs F b num n m (.head t) l s r l' s'):Gos ds gs F b num n (m+1) (.thing (.tag t)) l s r l' s'
 |thG (h:gs[i]?=some t) (g:Gos ds gs F b num n m (.head t) l s r l' s'):Gos ds gs F b num n (m+1) (.thing (.giv i)) l s r l' s'
 |tag (h:b.at pl=some (.tag t)) (lc:s.1.length+1<=9000) (lw:pl.length+n<=400) (ll:l.length<=400) (g:Gos ds gs F b num n m (.head t) l s r l' s'):Gos ds gs F b num n (m+1) (.body pl ρ) l s r l' s'
 |name (h:b.at pl=some (.name x)) (e:ρ x=some th) (lc:s.1.length+1<=9000) (lw:pl.length+n<=400) (ll:l.length<=400) (g:Gos ds gs F b num n m (.thing th) l s r l' s'):Gos ds gs F b num n (m+1) (.body pl ρ) l s r l' s'
 |ask (h:b.at pl=some (.ask f as)) (ok:OkT ds ρ (n+1) (.ask f as)) (lc:s.1.length+(Bd.ask f as).size<=9000) (lw:pl.length+n<=400) (ll:l.length<=400) (g:∀th s1,TAp ds F b num ρ (n+1) pl s th s1->Gos ds gs F b num n m (.thing th) l s1 r l' s'):Gos ds gs F b num n (m+1) (.body pl ρ) l s r l' s'
 |letb (h:b.at pl=some (.letb x k' e q)) (ce:e.cellB) (ok:∀k,OkT ds (Uv ρ x (.cell k)) (n+1) e) (lc:s.1.length+(Bd.letb x k' e q).size<=9000) (lw:pl.length+n<=400) (ll:l.length<=400)
   (g:∀k cs1 s2,XU s.1 (num,pl++[0]) k cs1->MCp ds F (Uv ρ x (.cell k)) (λi=>TAp ds F b num (Uv ρ x (.cell k)) n (pl++[0]++[(i:Int)])) e (pl++[0]) k (cs1,s.2) s2->Gos ds gs F b num n m (.body (pl++[1]) (Uv ρ x (.cell k))) l s2 r l' s'):Gos ds gs F b num n (m+1) (.body pl ρ) l s r l' s'
 |push (h:b.at pl=some (.choose e ts bs)) (lc:s.1.length+(Bd.choose e ts bs).size<=9000) (lw:pl.length+n<=400) (ll:l.length<=400) (g:Gos ds gs F b num n m (.body (pl++[0]) ρ) (l++[(.choose e ts bs,pl,ρ)]) s r l' s'):Gos ds gs F b num n (m+1) (.body pl ρ) l s r l' s'
 |cho {j:Nat}(nt:ts.Nodup) (lt:ts.length<=50) (lb:bs.length=ts.length) (ht:ts[j]?=some t) (lp:pl.length<=400) (g:Gos ds gs F b num n m (.body (pl++[1+(j:Int)]) ρ) l s r l' s'):Gos ds gs F b num n (m+1) (.head t) (l++[(.choose e ts bs,pl,ρ)]) s r l' s'
def FrW(A:GA)(l:Addr)(H H':Hp):Prop:=∀b o,b≠A.bs->b≠A.nu->b≠A.st->b≠l->H b=some o->H' b=some o
def FrW.refl(A:GA)(l:Addr)(H:Hp):FrW A l H H:=λb o _ _ _ _ h=>h
def FrW.trans(a:FrW A l H N)(b:FrW A l N M):FrW A l H M:=λc o L G J Z e=>b c o L G J Z<|a c o L G J Z e
def FrW.of(f:FrG A H L):FrW A l H L:=λb o G J Z _ e=>f b o G J Z e
def FrW.sb(f:SameB l H J):FrW A l H J:=λb o _ _ _ Z e=>f b o Z e
end L2
namespace K4
open PySem L2
section
variable{C CK CG CO CW CD:Addr}
inductive zy(CO:Addr)(H:Hp)(Q:VK):List V->Prop
 |mk (A:GA) (av:Addr->Prop) (O:OM) (b:Bd) (y:V) (t:Str) (e:Bd) (ts:List Str) (bs:List Bd) (j:Nat) (pl:List Int) (ρ:Rho) (ys:List V) (z:V) (g:GM H CO A O b) (hz:H O.wl=some (.lst (ys++[z]))) (we:WEm A av H z (.choose e ts bs,pl,ρ)) (hy:Has H y (tagD t)) (nt:ts.Nodup) (lt:ts.length<=50) (lb:bs.length=ts.length) (ht:ts[j]?=some t) (lp:pl.length<=400)
  (q:∀u H',SameB O.wl H H'->H' O.wl=some (.lst ys)->StB A av H' u (pl++[1+(j:Int)]) ρ->Q u H'):zy CO H Q [.ref O.t,y]
def IK(CO:Addr):Sp:=λZ H Q _=>zy CO H Q Z
def AM(me:mg "enumerate"=none)(TO:OCl K CO)(F:Fun K "from_head" "Going.from_head" We f fd):Ye P w K mg base CX0 (n+4) f fd ["self","head"] (IK CO):=by
 refine F.oi BC λT8 A m s H vs Q E hr h=>?_;refine⟨_,YY (Jq (KO Zz PySem.F.slot_list_pop PySem.F.type_list_pop K6<|Ym (pv 0) rfl)<|Vg (n:=3) rfl (Yn (Yl 2 BC.nd)<|Yn (Yl 3 BC.nd)<|Yn (Yl 4 BC.nd) VJ))
  (YY (Y5 (Ys Vc (Yr (r:=Vb K) Yt (pv 2)<|Ya) Yw<|Y0 _) (YZ (V9 Zv rfl (XC rfl me (pa1<|Yr (r:=Vb K) Yt (pv 2)<|Ya)) (Vg (n:=2) rfl (Yn (Yl 5 BC.nd)<|Yn (Vg (n:=2) rfl (Yn (Yl 6 BC.nd)<|Yn (Yl 7 BC.nd) VJ)) VJ))
   (YZ<|Y5 (Ys (Bo hr) (pv 1) (Yj<|pa2 (Yw)<|pv 6)<|Y0 _) (YZ<|Yi<|Yj<|pa3 (Yw) (Y7 (r:=λx y H Q=>J3 K x y H Q\/J1 K x y H Q) Jh (pv 3)<|Yj<|pa1<|Y7 Vk Ya<|pv 5)<|pv 4) Yp))) Jw)
  Jw),?_⟩
 dsimp only[VY,Cx.nox,Cx.wish];show let T0:=_;let T1:=VE _ T0 _;let T2:=Uq _ _ T1;let T3:=Yk (VE _ T2 _) _;Yk _ T3 _ _ _
 intros
 obtain⟨A',av,O,b,y,t,e,ts,bs,j,pl,ρ,ys,z,g,S,we,hy,nt,lt,lb,ht,lp,q⟩:=h;obtain⟨tz,bv,p,kn,rfl,J2,i,o,l,u⟩:=we;refine⟨CO,_,_,_,g.ins,TO.cl,TO.wt,EG _,.inl ⟨Y,_,Z3 S⟩,O.wl,_,_,Y,Y,S,by rw[ZL,vc,Nat.add_sub_cancel,vb<|ZG _,vt];rfl,?_⟩;rw[List.dropLast_concat];refine fld_in O.wl _ λH1 b1 g1=>?_;have D:=UM b1 S;exists _,Z2<|D _ _ J2,rfl;have hb:=VL D _ (Bd.ti _) i;unfold Bd.dat at hb;obtain⟨a,T9,rfl,T,hl⟩:=Yv hb;obtain⟨x1,r1,rfl,e1,R6⟩:=Yc hl;obtain⟨x2,r2,rfl,e2,R5⟩:=Yc R6;obtain⟨x3,r3,rfl,e3,R4⟩:=Yc R5;obtain rfl:=VA R4;obtain rfl:=has_str e1;obtain⟨tb,xs,rfl,R,N⟩:=Yv e3;have lx:=N.length;rw[brs_len lb]at lx;have jl:=(ZF.mp ht).1;refine⟨_,_,Z2 T,at0,Y,_,Y,VF (by decide +kernel) ?_⟩;exists _,_,Z2 T,at2,tb,true,xs,Y,Z2 R;have G1:Has H1 y (tagD t):=VL D _ (by simp[tagD,Dat.ti,Dat.tis]) hy;have O1:Has H1 (.ref p) (Jt pl):=JL<|D _ _ o;have c:=l.lb S b1
 let I:kM:=λk U X=>Same H1 X/\k<=j/\∃z5 z6 z7,U=[some (.ref O.t),some y,some<|.ref a,some<|.ref p,some<|.ref kn,z5,z6,z7]
 refine TX (tp:=true) (xs:=xs) I ⟨Z8 _,Zc _,_,_,_,Y⟩ (λk U X _ z=>Z2<|z.1 _ _ R) ?_ ?_
 .rintro k v U X r hv ⟨s1,kj,z5,z6,z7,rfl⟩ hr'
  refine up_in hr' _ λH2 s2 g2=>?_;have M:=s1.trans s2;obtain⟨d,T5,T4⟩:=N.get hv;obtain⟨Z,bk,G,rfl⟩:=L5 T5;have R8:=T4.mono M;obtain⟨aw,us,rfl,T6,R7⟩:=Yv R8;obtain⟨y1,r1,rfl,f1,R3⟩:=Yc R7;obtain⟨y2,r2,rfl,f2,R1⟩:=Yc R3;obtain rfl:=VA R1;obtain rfl:=has_str f1;refine⟨_,Z2 g2,Y,⟨_,Z2 T6,Y,sl 2,λtq G2=>?_⟩⟩;refine up_in G2 _ λH3 s3 g3=>?_;have J:=M.trans s3;have dd:(tagD t).dep<=n+2:=by simp[tagD,Dat.dep,Dat.deps]
  exists tagD t,tagD Z,G1.mono J,Dn g3,dd,_,Y
  have B:(tagD t).pq (tagD Z)=decide (t=Z):=by
   simp only[tagD,Dat.pq,Dat.pqs,Bool.and_true,beq_self_eq_true,Bool.true_and];rw[jr];simp
  by_cases ej:k=j
  .subst ej
   rw[ht]at G;cases G;refine VF (by rw[B];simp) ?_;refine⟨sl 1,λto G3=>?_⟩;refine up_in G3 _ λH4 s4 g4=>?_;refine UH (O1.mono<|J.trans s4) (UD g4) (by simp) (by simp;omega) λu5 H5 s5 h5=>⟨sl 3,λt6 M2=>?_⟩;refine up_in M2 _ λH6 s6 g6=>?_;obtain⟨a5,rfl,T7⟩:=Ji h5;have L:=((J.trans s4).trans s5).trans s6;exact q _ _ (b1.trans L.sb) (L _ _ g1) ⟨t6,a5,kn,Y,g6,s6 _ _ T7,(c.mono L).le (by show 3+pl.length<=_;rw[ZL];omega),u⟩
  .have ne:¬t=Z:=λz=>by
    subst z;have kl:=(ZF.mp G).1;exact vW.mp nt k j kl jl (by omega)<|(ZF.mp G).2.trans (ZF.mp ht).2.symm
   refine Y1 (by rw[B];simp[ne]) ⟨J,by omega,_,_,_,Y⟩
 .rintro U X ⟨s1,kj,_⟩
  exact Zr kj<|by omega
end
end K4
namespace L2
open PySem
structure RG(P:Program)(w:World)(Hm H:Hp)(C CK CG CO:Addr)(A:GA)(ks:List (Str×Shp))(d:Str->Nat)(ds:List Dd)(av:Addr->Prop)(O:OM)(b:Bd)(l:List WEn)(s:Ss):Prop where
 mx:MX P w Hm H C CK CG A ks d ds s.1 s.2 av
 al:∀a,av a->∃o,H a=some o
 gm:GM H CO A O b
 wl:∃zs,H O.wl=some (.lst zs)/\WLm A av H zs l
 wb:O.wl≠A.bs
 fw:Hm O.wl=none
 on:O.n<=s.1.length
def RG.same(g:RG P w N H C T CG CO A J d M av O b l s)(e:Same H R):RG P w N R C T CG CO A J d M av O b l s:=by
 obtain⟨Z,L,G⟩:=g.wl;exact⟨g.mx.mono e,λa h=>let⟨o,q⟩:=g.al a h;⟨o,e _ _ q⟩,g.gm.mono e,⟨Z,e _ _ L,G.fr g.mx.gg<|.of e⟩,g.wb,g.fw,g.on⟩
def RG.fr(g:RG P w F H C I CG CO A G d E av O b l s)(f:FrG A H M)(L:GG P w M CG A Z.1 Z.2 av)(h:s.1.length<=Z.1.length):RG P w F M C I CG CO A G d E av O b l Z:=by
 obtain⟨N,J,T⟩:=g.wl
 have n:O.wl≠A.nu/\O.wl≠A.st:=by
  obtain⟨R,D,_⟩:=g.mx.gg.nu;obtain⟨G,B,_⟩:=g.mx.gg.st;exact⟨Yy J D Ue.symm,Yy J B (by intro z;cases z)⟩
 exact⟨g.mx.fr f L,Nt g.al f L,g.gm.fr g.mx.gg f,⟨N,f _ _ g.wb n.1 n.2 J,T.fr g.mx.gg f⟩,g.wb,g.fw,Zb g.on h⟩
def RG.lb(g:RG P w T H C B CG CO A M d R av O b l s)(f:SameB O.wl H J)(h:J O.wl=some (.lst zs'))(G:WLm A av J zs' l'):RG P w T J C B CG CO A M d R av O b l' s:=by
 obtain⟨D,Z,E⟩:=g.wl;have L:=UM f Z;refine⟨⟨λa o e=>f a o (Yb e g.fw)<|g.mx.sm _ _ e,g.mx.bi,g.mx.f1,g.mx.f2,g.mx.f3,g.mx.gg.lb Z g.wb f⟩,λa N=>?_,⟨f _ _ (Yy g.gm.ins Z (by intro z;cases z)) g.gm.ins,VL L _ (Bd.ti _) g.gm.bd,g.gm.ok,g.gm.gr⟩,⟨zs',h,G⟩,g.wb,g.fw,g.on⟩
 by_cases z:a=O.wl
 .exact ⟨_,by rw[z];exact h⟩
 .obtain ⟨o,q⟩:=g.al a N
  exact⟨o,f a o z q⟩
end L2
namespace K4
open PySem L2
section
variable{C CK CG CO CW CD:Addr}
def NR(A:OM):(JY A).lookup ("from_body":Str)=none:=rfl
def K8(A:OM):(JY A).lookup ("from_thing":Str)=none:=rfl
def zI(A:OM):(JY A).lookup ("from_head":Str)=none:=rfl
def Qp(A:OM):(JY A).lookup ("go_on":Str)=none:=rfl
inductive zt(P:Program)(w:World)(C CK CG CO:Addr)(n:Nat)(H:Hp)(Q:VK):List V->Prop
 |mk (Hm:Hp) (A:GA) (ks:List (Str×Shp)) (d:Str->Nat) (ds:List Dd) (av:Addr->Prop) (O:OM) (b:Bd) (l:List WEn) (s:Ss) (u:V) (m:Nat) (x r:Stp) (l':List WEn) (s':Ss) (rg:RG P w Hm H C CK CG CO A ks d ds av O b l s) (hx:x.on A av H u) (gs:Gos ds A.gs O.F b O.n n m x l s r l' s') (l3:A.gs.length<=3)
  (q:∀v H',FrW A O.wl H H'->RG P w Hm H' C CK CG CO A ks d ds av O b l' s'->r.on A av H' v->Q v H'):zt P w C CK CG CO n H Q [.ref O.t,u]
def Dv(P:Program)(w:World)(C CK CG CO:Addr)(n:Nat):Sp:=λZ H Q _=>zt P w C CK CG CO n H Q Z
def AI(B:Blt mg)(TO:OCl K CO)(F:Fun K "go_on" "Going.go_on" Ky f fd)(mB:VI K CO "from_body" fB)(GB:Ye P w K mg base CX0 L fB fBd ["self","place","known"] (IL P w C CK CG CO n))(bB:Binds K fBd ["self","place","known"] [])(mT:VI K CO "from_thing" fT)(GT:Ye P w K mg base CX0 L fT fTd ["self","thing"] (IJ CG CO))(bT:Binds K fTd ["self","thing"] [])(mH:VI K CO "from_head" fH)(GH:Ye P w K mg base CX0 L fH fHd ["self","head"] (IK CO))(bH:Binds K fHd ["self","head"] []):Ye P w K mg base CX0 (L+1) f fd ["self","state"] (Dv P w C CK CG CO n):=by
 refine F.oi D4 λR8 A R3 s H vs Q E hr h=>?_;obtain⟨Hm,g,ks,d,ds,av,O,b,l,s0,u,m,x,r,l',s',rg,hx,gs,l3,q⟩:=h;exists _,YZ<|G0 Zv (Vv XN)<|YZ<|Y5 (Ys Vc (Yr (r:=Vb K) Yt (pv 1)<|Ya) Yw<|Y0 _) (YZ<|Yx 1 D4.nd<|Y4 (pv 0) TO.cl mB GB hr bB .nil Y3<|pa2 (Yr (r:=Vb K) Yt (pv 1)<|Ya)<|Yr (r:=Vb K) Yt (pv 1)<|Ya)<|YZ<|Y5 (Ys Vc (Yr (r:=Vb K) Yt (pv 1)<|Ya) Yw<|Y0 _) (YZ<|Yx 1 D4.nd<|Y4 (pv 0) TO.cl mT GT hr bT .nil Y3<|pa1<|Yr (r:=Vb K) Yt (pv 1)<|Ya)<|YZ<|Y5 (PW.pt<|MT (Ys Vc (Yr (r:=Vb K) Yt (pv 1)<|Ya) Yw<|Y0 _)<|GD<|Ys Xt (VB Y8 rfl B.len Zu (pa1<|Ym (pv 0) rfl)) Ya<|Y0 _) (YZ<|Yx 1 D4.nd<|Y4 (pv 0) TO.cl mH GH hr bH .nil Y3<|pa1<|Yr (r:=Vb K) Yt (pv 1)<|Ya)<|YZ<|Yi<|pv 1;dsimp only[VY,Cx.nox,Cx.wish];show let T0:=_;let T1:=_;let T2:=_;let T3:=_;let T4:=VE _ T2 T3;let T5:=VE _ T1 T4;let T6:=VE _ T0 T5;Rm _ T6 _ _ _
 intros
 let W:kM:=λm U H'=>∃x l s u,U=[some (.ref O.t),some u]/\FrW g O.wl H H'/\RG P w Hm H' C CK CG CO g ks d ds av O b l s/\x.on g av H' u/\Gos ds g.gs O.F b O.n n m x l s r l' s'
 exists W,⟨m,x,l,s0,u,Y,.refl _ _ _,rg,hx,gs⟩;rintro m U H1 ⟨x,l,s1,u,rfl,o,Z,G,R5⟩;refine⟨true,Y,VF Y ⟨λU H'=>∃m',m'<m/\W m' U H',λU' H' z=>z,?_⟩⟩;obtain⟨zs,a,wl⟩:=Z.wl
 cases R5 with
 |stopW=>
  have N:Has H1 u (.tup [.str "want",.int (k:Nat)]):=G;obtain⟨t,ys,rfl,J,v⟩:=Yv N;obtain⟨x1,r1,rfl,y,R⟩:=Yc v;obtain rfl:=has_str y;refine⟨_,_,Z2 J,at0,Y,_,Y,Y1 (by decide +kernel) ?_⟩;refine⟨_,_,Z2 J,at0,Y,_,Y,Y1 (by decide +kernel) ?_⟩;refine⟨_,_,Z2 J,at0,Y,_,Y,Y1 (by decide +kernel)<|Y1 (by simp) ?_⟩;exact q _ _ o Z G
 |stopH=>
  have N:Has H1 u (.tup [.str "head",tagD t]):=G;obtain⟨t',ys,rfl,J,v⟩:=Yv N;obtain⟨x1,r1,rfl,y,R⟩:=Yc v;obtain rfl:=has_str y;have z0:zs=[]:=vj wl.1;subst z0;refine⟨_,_,Z2 J,at0,Y,_,Y,Y1 (by decide +kernel) ?_⟩;refine⟨_,_,Z2 J,at0,Y,_,Y,Y1 (by decide +kernel) ?_⟩;refine⟨_,_,Z2 J,at0,Y,_,Y,VF (by decide +kernel) ?_⟩;refine⟨CO,_,_,_,Z.gm.ins,TO.cl,TO.wt,EG _,O.wl,_,Y,.inl<|Z3 a,_,rfl,Y1 (by decide +kernel)<|q _ _ o Z G⟩
 |thC S=>
  have N:Has H1 u (.tup [.str "thing",(Tg.cell k).dat]):=G;obtain⟨t',ys,rfl,J,v⟩:=Yv N;obtain⟨x1,r1,rfl,y,R⟩:=Yc v;obtain⟨c,r2,rfl,M,X⟩:=Yc R;obtain rfl:=VA X;obtain rfl:=has_str y;refine⟨_,_,Z2 J,at0,Y,_,Y,Y1 (by decide +kernel) ?_⟩;refine⟨_,_,Z2 J,at0,Y,_,Y,VF (by decide +kernel) ?_⟩;refine⟨_,_,Z.gm.ins,K8 _,_,_,Z2 J,at1,g,O,b,c,.cell k,Z.gm,Z.mx.gg.ins,Z.mx.gg.gv,l3,M,λn' e T H2 D I=>?_,λt e=>(nomatch e),λi e=>nomatch e⟩;cases e;exact⟨_,vf _,.want k,l,s1,T,Y,o.trans<|.of<|.of D,Z.same D,I,S⟩
 |thT S=>
  have N:Has H1 u (.tup [.str "thing",(Tg.tag t).dat]):=G;obtain⟨t',ys,rfl,J,v⟩:=Yv N;obtain⟨x1,r1,rfl,y,R⟩:=Yc v;obtain⟨c,r2,rfl,M,X⟩:=Yc R;obtain rfl:=VA X;obtain rfl:=has_str y;refine⟨_,_,Z2 J,at0,Y,_,Y,Y1 (by decide +kernel) ?_⟩;refine⟨_,_,Z2 J,at0,Y,_,Y,VF (by decide +kernel) ?_⟩;refine⟨_,_,Z.gm.ins,K8 _,_,_,Z2 J,at1,g,O,b,c,.tag t,Z.gm,Z.mx.gg.ins,Z.mx.gg.gv,l3,M,λn' e=>(nomatch e),λt2 e T H2 D I=>?_,λi e=>nomatch e⟩;cases e;exact⟨_,vf _,.head t,l,s1,T,Y,o.trans<|.of<|.of D,Z.same D,I,S⟩
 |thG hi S=>
  have N:Has H1 u (.tup [.str "thing",(Tg.giv i).dat]):=G;obtain⟨t',ys,rfl,J,v⟩:=Yv N;obtain⟨x1,r1,rfl,y,R⟩:=Yc v;obtain⟨c,r2,rfl,M,X⟩:=Yc R;obtain rfl:=VA X;obtain rfl:=has_str y;refine⟨_,_,Z2 J,at0,Y,_,Y,Y1 (by decide +kernel) ?_⟩;refine⟨_,_,Z2 J,at0,Y,_,Y,VF (by decide +kernel) ?_⟩;refine⟨_,_,Z.gm.ins,K8 _,_,_,Z2 J,at1,g,O,b,c,.giv i,Z.gm,Z.mx.gg.ins,Z.mx.gg.gv,l3,M,λn' e=>(nomatch e),λt2 e=>(nomatch e),λi2 e=>?_⟩;cases e;exact⟨t,hi,λT H2 D I=>⟨_,vf _,.head t,l,s1,T,Y,o.trans<|.of<|.of D,Z.same D,I,S⟩⟩
 |tag h lc lw ll S=>
  obtain⟨t',p,kn,rfl,J,hp,kr,nk⟩:=G;refine⟨_,_,Z2 J,at0,Y,_,Y,VF (by decide +kernel) ?_⟩;have lz:=wl.1;refine⟨_,_,Z.gm.ins,NR _,_,_,Z2 J,at1,_,_,Z2 J,at2,Hm,g,ks,d,ds,s1.1,s1.2,av,O,b,_,pl,p,kn,ρ,zs,Z.mx,Z.gm,a,Z.wb,hp,h,trivial,kr,nk,Z.al,Z.on,by simpa[Bd.size]using lc,lw,by omega,λt2 e T H2 D I=>?_,λx th e=>(nomatch e),λf as e=>(nomatch e),λx k e r M=>(nomatch M),λe ts bs M=>(nomatch M)⟩;cases e;exact⟨_,vf _,.head t,l,s1,T,Y,o.trans<|.of<|.of D,Z.same D,I,S⟩
 |name h e lc lw ll S=>
  obtain⟨t',p,kn,rfl,J,hp,kr,nk⟩:=G;refine⟨_,_,Z2 J,at0,Y,_,Y,VF (by decide +kernel) ?_⟩;have lz:=wl.1;refine⟨_,_,Z.gm.ins,NR _,_,_,Z2 J,at1,_,_,Z2 J,at2,Hm,g,ks,d,ds,s1.1,s1.2,av,O,b,_,pl,p,kn,ρ,zs,Z.mx,Z.gm,a,Z.wb,hp,h,⟨_,e⟩,kr,nk,Z.al,Z.on,by simpa[Bd.size]using lc,lw,by omega,λt2 e=>(nomatch e),λc G1 y M T H2 D I=>?_,λf as e=>(nomatch e),λx k e r M=>(nomatch M),λe ts bs M=>(nomatch M)⟩;cases y;rw[e]at M;cases M;exact⟨_,vf _,.thing th,l,s1,T,Y,o.trans<|.of<|.of D,Z.same D,I,S⟩
 |ask h ok lc lw ll S=>
  obtain⟨t',p,kn,rfl,J,hp,kr,nk⟩:=G;refine⟨_,_,Z2 J,at0,Y,_,Y,VF (by decide +kernel) ?_⟩;have lz:=wl.1;refine⟨_,_,Z.gm.ins,NR _,_,_,Z2 J,at1,_,_,Z2 J,at2,Hm,g,ks,d,ds,s1.1,s1.2,av,O,b,_,pl,p,kn,ρ,zs,Z.mx,Z.gm,a,Z.wb,hp,h,ok,kr,nk,Z.al,Z.on,lc,lw,by omega,λt2 e=>(nomatch e),λc G1 e=>(nomatch e),λf2 O1 e T th M2 J2 H2 ta l1 l2 G3 g2 I=>?_,λx k e r M=>(nomatch M),λe ts bs M=>(nomatch M)⟩;exact⟨_,vf _,.thing th,l,(M2,J2),T,Y,o.trans<|.of G3,Z.fr G3 g2 l1,I,S th (M2,J2) ta⟩
 |letb h ce ok lc lw ll S=>
  obtain⟨t',p,kn,rfl,J,hp,kr,nk⟩:=G;refine⟨_,_,Z2 J,at0,Y,_,Y,VF (by decide +kernel) ?_⟩;have lz:=wl.1;refine⟨_,_,Z.gm.ins,NR _,_,_,Z2 J,at1,_,_,Z2 J,at2,Hm,g,ks,d,ds,s1.1,s1.2,av,O,b,_,pl,p,kn,ρ,zs,Z.mx,Z.gm,a,Z.wb,hp,h,⟨ce,ok⟩,kr,nk,Z.al,Z.on,lc,lw,by omega,λt2 e=>(nomatch e),λc G1 e=>(nomatch e),λf2 O1 e=>(nomatch e),λx3 k3 e3 r3 e4 T k4 R6 D H2 na mc l1 l2 f2 g2 I=>?_,λe ts bs M=>(nomatch M)⟩;cases e4;exact⟨_,vf _,.body _ _,l,D,T,Y,o.trans<|.of f2,Z.fr f2 g2 l1,I,S k4 R6 D na mc⟩
 |push h lc lw ll S=>
  obtain⟨t',p,kn,rfl,J,hp,kr,nk⟩:=G;refine⟨_,_,Z2 J,at0,Y,_,Y,VF (by decide +kernel) ?_⟩;have lz:=wl.1;refine⟨_,_,Z.gm.ins,NR _,_,_,Z2 J,at1,_,_,Z2 J,at2,Hm,g,ks,d,ds,s1.1,s1.2,av,O,b,_,pl,p,kn,ρ,zs,Z.mx,Z.gm,a,Z.wb,hp,h,trivial,kr,nk,Z.al,Z.on,lc,lw,by omega,λt2 e=>(nomatch e),λc G1 e=>(nomatch e),λf2 O1 e=>(nomatch e),λx k e r M=>(nomatch M),λe3 R7 T7 e4 T z H2 b2 G2 we I=>?_⟩;exact⟨_,vf _,.body _ _,l++[_],s1,T,Y,o.trans<|.sb b2,Z.lb b2 G2<|(wl.lb a b2).snoc we,I,S⟩
 |cho nt lt lb R4 lp S=>
  have N:Has H1 u (.tup [.str "head",tagD t]):=G;obtain⟨t',ys,rfl,J,v⟩:=Yv N;obtain⟨x1,r1,rfl,y,R⟩:=Yc v;obtain⟨c,r2,rfl,M,X⟩:=Yc R;obtain rfl:=VA X;obtain rfl:=has_str y;obtain⟨ys,z,rfl,R1,we⟩:=wl.last;refine⟨_,_,Z2 J,at0,Y,_,Y,Y1 (by decide +kernel) ?_⟩;refine⟨_,_,Z2 J,at0,Y,_,Y,Y1 (by decide +kernel) ?_⟩;refine⟨_,_,Z2 J,at0,Y,_,Y,VF (by decide +kernel) ?_⟩;refine⟨CO,_,_,_,Z.gm.ins,TO.cl,TO.wt,EG _,O.wl,_,Y,.inl<|Z3 a,_,rfl,VF (by rw[ZL,vc];exact decide_eq_true<|by omega) ?_⟩;refine⟨_,_,Z.gm.ins,zI _,_,_,Z2 J,at1,g,av,O,b,c,t,_,ts,bs,j,pl,ρ,ys,z,Z.gm,a,we,M,nt,lt,lb,R4,lp,λT H2 b2 G2 I=>?_⟩;exact⟨_,vf _,.body _ _,_,s1,T,Y,o.trans<|.sb b2,Z.lb b2 G2<|R1.lb a b2,I,S⟩
end
section
variable{C CK CG CO CW CD:Addr}
def yT:Yh ["self","head"] ["self","head"] (Yd Wd):=Y2
inductive Q4(P:Program)(w:World)(C CK CG CO:Addr)(n:Nat)(H:Hp)(Q:VK):List V->Prop
 |mk (Hm:Hp) (A:GA) (ks:List (Str×Shp)) (d:Str->Nat) (ds:List Dd) (av:Addr->Prop) (O:OM) (b:Bd) (pl:List Int) (ρ:Rho) (s:Ss) (m:Nat) (r:Stp) (l':List WEn) (s':Ss) (rg:RG P w Hm H C CK CG CO A ks d ds av O b [] s) (hp:H O.pl=some (.tup (pl.map V.int))) (kr:KnR A H O.kn ρ (3+pl.length)) (nk:¬av O.kn) (gs:Gos ds A.gs O.F b O.n n m (.body pl ρ) [] s r l' s') (l3:A.gs.length<=3)
  (q:∀v H',FrW A O.wl H H'->RG P w Hm H' C CK CG CO A ks d ds av O b l' s'->r.on A av H' v->Q v H'):Q4 P w C CK CG CO n H Q [.ref O.t]
def N5(P:Program)(w:World)(C CK CG CO:Addr)(n:Nat):Sp:=λZ H Q _=>Q4 P w C CK CG CO n H Q Z
def Pf(TO:OCl K CO)(F:Fun K "begin" "Going.begin" Bu f e)(m:VI K CO "go_on" g)(G:Ye P w K D base CX0 L g u ["self","state"] (Dv P w C CK CG CO n))(a:Binds K u ["self","state"] []):Ye P w K D base CX0 (L+1) f e ["self"] (N5 P w C CK CG CO n):=by
 refine F.oi CY λi A M s H vs Q E k h=>?_;obtain⟨Hm,A',X,d,o,x,O,b,T,ρ,N,I,r,U,R,Z,p,j,B,c,S,q⟩:=h;exists _,YZ<|Yi<|Y4 (pv 0) TO.cl m G k a .nil Y3<|pa1<|Yj<|pa3 (Yw) (Ym (pv 0) rfl)<|Ym (pv 0) rfl;dsimp only[VY,Cx.nox,Cx.wish];refine⟨_,_,Z.gm.ins,Qp _,CO,_,_,_,Z.gm.ins,TO.cl,TO.pl,zG _,CO,_,_,_,Z.gm.ins,TO.cl,TO.kn,zH _,sl 3,λt z=>?_⟩;refine up_in z _ λH1 s1 l=>?_;exact⟨Hm,A',X,d,o,x,O,b,[],N,_,I,.body T ρ,r,U,R,Z.same s1,⟨t,_,_,Y,l,s1 _ _ p,j.mono s1,B⟩,c,S,λv H' f J y=>q v H' ((FrW.of<|.of s1).trans f) J y⟩
inductive zm(P:Program)(w:World)(C CK CG CO:Addr)(n:Nat)(H:Hp)(Q:VK):List V->Prop
 |mk (Hm:Hp) (A:GA) (ks:List (Str×Shp)) (d:Str->Nat) (ds:List Dd) (av:Addr->Prop) (O:OM) (b:Bd) (l:List WEn) (s:Ss) (y:V) (t:Str) (m:Nat) (r:Stp) (l':List WEn) (s':Ss) (rg:RG P w Hm H C CK CG CO A ks d ds av O b l s) (hy:Has H y (tagD t)) (gs:Gos ds A.gs O.F b O.n n m (.head t) l s r l' s') (l3:A.gs.length<=3)
  (q:∀v H',FrW A O.wl H H'->RG P w Hm H' C CK CG CO A ks d ds av O b l' s'->r.on A av H' v->Q v H'):zm P w C CK CG CO n H Q [.ref O.t,y]
def F0(P:Program)(w:World)(C CK CG CO:Addr)(n:Nat):Sp:=λZ H Q _=>zm P w C CK CG CO n H Q Z
def AE(TO:OCl K CO)(F:Fun K "take_head" "Going.take_head" Wd f e)(m:VI K CO "go_on" g)(G:Ye P w K B base CX0 L g c ["self","state"] (Dv P w C CK CG CO n))(a:Binds K c ["self","state"] []):Ye P w K B base CX0 (L+1) f e ["self","head"] (F0 P w C CK CG CO n):=by
 refine F.oi yT λi A J s H vs Q E k h=>?_;obtain⟨Hm,A',U,d,o,x,O,b,l,R,y,N,D,r,S,T,M,X,p,I,q⟩:=h;exists _,YZ<|Yi<|Y4 (pv 0) TO.cl m G k a .nil Y3<|pa1<|Yj<|pa2 (Yw)<|pv 1;refine⟨_,_,M.gm.ins,Qp _,sl 2,λt z=>?_⟩;refine up_in z _ λH1 s1 u=>?_;exact⟨Hm,A',U,d,o,x,O,b,l,R,_,D,.head N,r,S,T,M.same s1,Yo u<|Z4 Yz<|Z5<|X.mono s1,p,I,λv H' f Z j=>q v H' ((FrW.of<|.of s1).trans f) Z j⟩
inductive zn(P:Program)(w:World)(C CK CG CO:Addr)(H:Hp)(Q:VK):List V->Prop
 |mk (Hm Hx:Hp) (x dx:Addr) (A:GA) (ks:List (Str×Shp)) (d:Str->Nat) (ds:List Dd) (av:Addr->Prop) (s:Ss) (k:Nat) (sta:Sta) (df:Dd) (h0:Hx x=none) (sm:Same Hx H) (hx:H x=some (.ins CO dx [])) (mx:MX P w Hm Hx C CK CG A ks d ds s.1 s.2 av) (al:∀a,av a->∃o,Hx a=some o) (hs:s.2 k=some sta) (hd:df∈ds) (ef:df.1.1=sta.f) (ok:df.2.ok) (hk:k<=s.1.length)
  (q:∀(O:OM) H',O.t=x->O.n=k->O.F=sta.f->Same Hx H'->Hx O.wl=none->RG P w Hm H' C CK CG CO A ks d ds av O df.2 [] s->H' O.pl=some (.tup (sta.pl.map V.int))->KnR A H' O.kn sta.ρ (3+sta.pl.length)->¬av O.kn->Q .non H'):zn P w C CK CG CO H Q [.ref x,.ref A.t,.int (k:Nat)]
def IA(P:Program)(w:World)(C CK CG CO:Addr):Sp:=λZ H Q _=>zn P w C CK CG CO H Q Z
def AF(TB:BCl K C)(TG:GCl K CG)(TO:OCl K CO)(F:Fun K "__init__" "Going.__init__" Kx f fd)(m:VI K C "body_of" g)(G:Ye P w K mg base CX0 L g gd ["self","F"] (Rz C CK))(bG:Binds K gd ["self","F"] []):Ye P w K mg base CX0 (L+1) f fd ["self","ground","number"] (IA P w C CK CG CO):=by
 refine F.oi yW λG2 A u s H vs Q E hr h=>?_;obtain⟨Hm,S,x,O,i,ks,d,ds,av,s0,k,B,df,l,sm,hx,N,al,hs,hd,ef,ok,hk,q⟩:=h;have hu:=JA hr;refine⟨_,YY (VT (pv 0) (pv 1) Y)
  (YY (VT (pv 0) (pv 2) rfl)
  (YY (Jq (Vl hu (Ym (pv 1) rfl) (pv 2) λ_ _=>rfl)<|Vg (n:=3) rfl (Yn (Bi<|pv 0)<|Yn (Bi<|pv 0)<|Yn (Bi<|pv 0) VJ))
  (YY (VT (pv 0) (Y4 (Ym (pv 1) rfl) TB.cl m G hr bG .nil Y3<|pa1<|Ym (pv 0) rfl) rfl)
  (YZ<|VT (pv 0) (JJ VR) rfl)))),?_⟩
 dsimp only[VY,Cx.nox,Cx.wish];show let T0:=_;let T1:=Yk _ T0;let T2:=Yk _ T1;let T3:=Yk _ T2;Yk _ T3 _ _ _
 intros
 obtain⟨G1,r,lst,D⟩:=N.gg.st;obtain⟨tt,pp,kn,v1,v2,v3,v4,v5⟩:=D k B hs;refine⟨x,CO,O,_,Y,hx,TO.cl,TO.gr,by decide,?_⟩;refine fld_in x _ λH1 b1 x1=>⟨x,CO,O,_,Y,x1,TO.cl,TO.nu,(by show 1<1000;decide),?_⟩;refine fld_in x _ λH2 b2 x2=>?_;have M:Same S H2:=UK l sm<|b1.trans b2;refine⟨CG,_,_,_,M _ _ N.gg.ins,TG.cl,TG.st,B9 _,_,by rw[<-v1];exact Vd.k (k:=Sum.inl (k:Int))<|M _ _ r,?_⟩;refine⟨_,Z2<|M _ _ v2,rfl,x,CO,O,_,rfl,x2,TO.cl,TO.f,(by show 2<1000;decide),?_⟩;refine fld_in x _ λH3 b3 x3=>⟨x,CO,O,_,Y,x3,TO.cl,TO.pl,(by show 3<1000;decide),?_⟩;refine fld_in x _ λH4 b4 x4=>⟨x,CO,O,_,Y,x4,TO.cl,TO.kn,(by show 4<1000;decide),?_⟩;refine fld_in x _ λH5 b5 X=>?_;have J:Same S H5:=UK l M<|(b3.trans b4).trans b5;have I:=N.bi.mono<|N.sm.trans J;obtain⟨A',kv,ea,b'⟩:=id I;exists CG,_,_,_,J _ _ N.gg.ins,TG.cl,TG.bk,Lc _,_,_,by rw[<-ea];exact b'.ins,vE _;exists CO,_,_,_,X,TO.cl,TO.f,Y;rw[<-ef];refine⟨i.bk,ks,d,ds,df,I,hd,λv hv=>?_⟩;refine⟨x,CO,O,_,Y,X,TO.cl,TO.bd,(by show 5<1000;decide),?_⟩;refine fld_in x _ λH6 b6 U=>⟨sl 0,λT R=>?_⟩;have xw:T≠x:=(Yb U R).symm;have t:TK H5 H6:=λb ys h=>b6 _ _ (λz=>by rw[z,X]at h;cases h) h;refine up_in R _ λH7 p g7=>⟨x,CO,O,_,Y,p _ _ U,TO.cl,TO.wt,(by show 6<1000;decide),?_⟩;refine fld_in x _ λH8 b8 x8=>?_;have y:TK H6 H8:=λb ys h=>b8 _ _ (λz=>by rw[z,U]at h;cases h)<|p _ _ h;have Z:Same S H8:=UK l J<|(b6.trans p.sb).trans b8
 have fw:S T=none:=by
  cases e:S T with
  |none=>rfl
  |some o=>have:=b6 _ _ xw<|J _ _ e;rw[R]at this;cases this
 have wb:T≠i.bs:=λz=>by
  obtain⟨xs,h1,_⟩:=N.gg.bs;rw[<-z,fw]at h1;cases h1
 have J2:Hm T=none:=N.sm.free fw
 let O':OM:=⟨x,O,i.t,k,B.f,pp,kn,v,T⟩
 refine q O' H8 Y Y Y Z fw ⟨N.mono Z,λa h=>let⟨o,e⟩:=al a h;⟨o,Z _ _ e⟩,⟨x8,?_,ok,Y⟩,⟨[],b8 _ _ xw g7,Y,λj z c h=>by simp at h⟩,wb,J2,hk⟩ (Z _ _ v3) (v4.mono Z) v5;exact VL (λb ys h=>y _ _<|t _ _ h) _ (Bd.ti _) hv
end
end K4
namespace L2
open PySem PySem.Spec PyProof.Rows
def ym(K:W.Frag):V->List V->Hp->VK->Prop:=λx J H Q=>∃p Z y z j,x=.ref p/\J=[y]/\SqL K H p Z/\UG y=true/\Z.all UG=true/\Z[j]?=some z/\eqV z y=true/\(∀i u,i<j->Z[i]?=some u->eqV u y=false)/\Q (.int (j:Nat)) H
def AV:MtR X "list.index" (ym X.K):=by
 intro M s U H x l v e Q I D E h;obtain⟨p,G,y,z,j,rfl,rfl,P,g,B,N,c,t,q⟩:=h;cases D;obtain⟨u,rfl,F⟩:=E.one;obtain⟨Z,r,S,hl⟩:=I.list P;obtain⟨⟨f,d,data,sl⟩,R,T,n,hd⟩:=id S.isList;simp only at T hd;subst T hd;have o:=r.length;have jl:=(ZF.mp N).1;have k:∀{i:Nat}{a:V},G[i]?=some a->UG a=true:=λh=>qf.mp B _<|ZJ h
 have J:∀(i:Nat)(a:V)(L:i<Z.toArray.size),G[i]?=some a->eqU y Z.toArray[i]=eqV a y:=λi a L h=>by
  obtain⟨b,m,A⟩:=r.get h
  have:Z.toArray[i]=b:=by
   have:=(ZF.mp m).2;simpa using this
  rw[this];exact DF A<|k h
 refine qe PySem.F.slot_list_index ⟨_,R,Y⟩ PySem.F.entry_list_index (PySem.F.args_list_index_2 _ _)
  (SeqAt.list_indexAt p Z.toArray n d sl u (eqU y) j (by rw[ZO];omega) (by have:sizeLine=16777216:=rfl;omega) ?_ ?_) ⟨R,λw C=>US F g r B w<|by simpa using C,⟨.int _,H,I.tok _,⟨_,rfl⟩,q⟩⟩
 .rw [J _ _ _ N];exact c
 .intro i L hlt
  have O:G[i]?=some (G[i]'(by rw[ZO]at L;omega)):=ZD _;rw[J _ _ L O];exact t i _ hlt O
def GG.avoids(g:GG P w H CG A cs sts av)(h:∀a,av' a->H a=none)(s:Same H E):GG P w E CG A cs sts av':=by
 have D:=g.mono s;obtain⟨Z,B,T,R⟩:=g.st;refine{D with st:=⟨Z,s _ _ B,T,λn st e=>?_⟩};obtain⟨t,p,O,N,M,L,J,F⟩:=R n st e;refine⟨t,p,O,N,s _ _ M,s _ _ L,J.mono s,λz=>?_⟩;obtain⟨_,I,G,_,_⟩:=J;rw[h _ z]at G;cases G
def Cc(ns:kC)(n:Nat):Rho:=Jm ns<|(List.range n).map Tg.giv
def WH(F:Str)(ρ:Rho):Nat->Option Sta:=stP (λ_=>none) 0 ⟨F,[],ρ⟩
def La(n:Nat):((List.range n).map Tg.giv).map Tg.dat=(List.range n).map λi=>TQ i []:=by rw[ve];rfl
end L2
namespace K4
open PySem L2
section
variable{C CK CG:Addr}
inductive zu(P:Program)(w:World)(C CK CG:Addr)(H:Hp)(Q:VK):List V->Prop
 |mk (Hm:Hp) (x dx bk gv:Addr) (ks:List (Str×Shp)) (d:Str->Nat) (ds:List Dd) (df:Dd) (gs:List Str) (h0:Hm x=none) (sm:Same Hm H) (hx:H x=some (.ins CG dx [])) (bi:BI Hm C CK bk ks d ds) (hd:df∈ds) (hg:Hm gv=some (.tup (gs.map V.str))) (ln:gs.length=df.1.2.1.length) (l3:df.1.2.1.length<=3) (nd:(df.1.2.1.map (·.1)).Nodup)
  (q:∀(A:GA) H',A.t=x->A.bk=bk->A.gs=gs->MX P w Hm H' C CK CG A ks d ds [] (WH df.1.1 (Cc (df.1.2.1.map (·.1)) gs.length)) av0->Q .non H'):zu P w C CK CG H Q [.ref x,.ref bk,.str df.1.1,.ref gv]
def Dw(P:Program)(w:World)(C CK CG:Addr):Sp:=λZ H Q _=>zu P w C CK CG H Q Z
def AJ(B:Blt mg)(TG:GCl K CG)(F:Fun K "__init__" "Ground.__init__" Lf f fd)(DN:Df P w K mg base n "named" ["book","f","things"] (IH C CK)):Ye P w K mg base CX0 (n+1) f fd ["self","book","F","worths"] (Dw P w C CK CG):=by
 refine F.oi yZ λD1 A R4 s H L Q E hr h=>?_;obtain⟨t,x,j,bk,gv,ks,d,ds,df,gs,h0,sm,hx,bi,hd,hg,ln,l3,nd,q⟩:=h;refine⟨_,YY (VT (pv 0) (pv 1) Y)
  (YY (VT (pv 0) (pv 3) rfl)
  (YY (VT (pv 0) (JJ<|pa1<|Yj VR) rfl)
  (YY (VT (pv 0) (KH (n:=1) (hn:=hn1)) rfl)
  (YZ<|VT (pv 0) (PH (KA Ya (Yj<|pa3 (pv 2) (Yj VR)<|VP DN hr<|pa3 (pv 1) (pv 2)<|V6 ["i"] [] (JP rfl B.range (pa1<|VB Y8 rfl B.len Zu (pa1<|pv 3))) (Vm (i:=0)<|by decide) (λcl C fp s H=>Yl 0 yq rfl (Or.inl rfl) (Or.inr rfl)) λcl C fp s H=>Yj<|pa3 (Yw) (pv 0)<|Yj VR) O7) rfl rfl (by simp) (by decide)) rfl)))),?_⟩
 dsimp only[VY,Cx.nox,Cx.wish];show let T0:=_;let T1:=Yk _ T0;let T2:=Yk _ T1;let T3:=Yk _ T2;Yk _ T3 _ _ _
 intros
 have nx:∀{b o},t b=some o->b≠x:=λh=>Yb h h0;refine⟨x,CG,j,_,Y,hx,TG.cl,TG.bk,by decide,?_⟩;refine fld_in x _ λH1 b1 x1=>?_;refine⟨x,CG,j,_,Y,x1,TG.cl,TG.gv,(by show 1<1000;decide),?_⟩;refine fld_in x _ λH2 b2 x2=>⟨sl 0,λe he=>?_⟩;refine up_in he _ λH3 s3 g3=>⟨sl 1,λl hl=>?_⟩;have xe:e≠x:=(Yb x2 he).symm;have x3:=s3 _ _ x2;have xl:l≠x:=(Yb x3 hl).symm;refine up_in hl _ λH4 s4 g4=>⟨x,CG,j,_,Y,s4 _ _ x3,TG.cl,TG.bs,(by show 2<1000;decide),?_⟩;refine fld_in x _ λH5 b5 x5=>λnu S=>?_;have xn:nu≠x:=(Yb x5 S).symm;refine up_in S _ λH6 s6 g6=>⟨x,CG,j,_,Y,s6 _ _ x5,TG.cl,TG.nu,(by show 3<1000;decide),?_⟩;refine fld_in x _ λX b7 x7=>λst O=>?_;have g:st≠x:=(Yb x7 O).symm;refine up_in O _ λH8 s8 g8=>⟨sl 0,λe2 R7=>?_⟩;have G3:SameB x H X:=(((((b1.trans b2).trans s3.sb).trans s4.sb).trans b5).trans s6.sb).trans b7;have T8:SameB x H H8:=G3.trans s8.sb;have r:Same t X:=UK h0 sm G3;have v:Same t H8:=UK h0 sm T8;refine up_in R7 _ λH9 s9 g9=>?_;refine⟨gv,_,Y,.inr<|Z2<|s9 _ _<|v _ _ hg,gs.length,by rw[ZA],by omega,by omega,?_⟩;refine Va gs.length (JI<|by omega) (λi L m=>Same H9 m/\L.length=i/\HasL m L ((List.range i).map λi=>TQ i [])) ⟨Z8 _,rfl,Z6⟩ (λi L m z=>z.2.1) (λi L m hi z=>hi) (λL m z=>ZG _) ?_ ?_
 .rintro i L m y H'' R hi ⟨z1,z2,z3⟩ ⟨rfl,rfl⟩ hR
  refine⟨sl 0,λa ha=>?_⟩;refine up_in ha _ λHa sa ga=>⟨sl 3,λc hc=>?_⟩;refine up_in hc _ λHc sc gc=>hR _ _ ⟨(z1.trans sa).trans sc,by rw[ZL,z2];rfl,?_⟩;rw[js,ZK];refine Z7 (z3.mono<|sa.trans sc)<|Z5<|Mn (k:=i) (by rw[gc];simp)<|Pi<|sc _ _ ga
 rintro L F1 tl ⟨z1,z2,z3⟩ R6;refine up_in R6 _ λD7 J2 T7=>?_;have Z:=z1.trans J2;refine⟨bk,tl,L,ks,d,ds,df,bi.mono<|v.trans<|s9.trans Z,hd,T7,by omega,l3,nd,λkn D3 I T T4=>⟨sl 3,λtt R5=>?_⟩⟩;refine up_in R5 _ λM2 N T6=>?_;have J:=((s9.trans Z).trans I).trans N;refine⟨J _ _ g8,[(Sum.inl 0,.ref tt)],Y,(by show 1<=15;decide),?_⟩;have u:=J _ _<|s8 _ _ x7;refine fld_in st _ λD2 G2 T5=>⟨x,CG,j,_,Y,G2 _ _ g.symm u,TG.cl,TG.st,(by show 4<1000;decide),?_⟩;refine fld_in x _ λG G1 O1=>?_;have U:∀{b o},M2 b=some o->b≠x->b≠st->G b=some o:=λh n1 n2=>G1 _ _ n1<|G2 _ _ n2 h;have tk:TK M2 G:=λb ys h=>U h (λz=>by rw[z,u]at h;cases h) (λz=>by rw[z,J _ _ g8]at h;cases h);have R8:∀{b o},X b=some o->b≠st:=λh=>Yb h O;have M:∀{b o},X b=some o->b≠x->G b=some o:=λh n=>U (J _ _<|s8 _ _ h) n<|R8 h;have e4:X e=some (.tup []):=b7 _ _ xe<|s6 _ _<|b5 _ _ xe<|s4 _ _ g3;have l7:X l=some (.lst [.ref e]):=b7 _ _ xl<|s6 _ _<|b5 _ _ xl g4;have n7:X nu=some (ddO P w 1 hn1 nu []):=b7 _ _ xn g6;have D:Same t G:=λb o h=>M (r _ _ h)<|nx h;have xk:kn≠x/\kn≠st:=⟨λz=>(by rw[z,Z _ _ (s9 _ _<|s8 _ _ x7)]at T;cases T),λz=>(by rw[z,Z _ _ (s9 _ _ g8)]at T;cases T)⟩;have T9:SameB x H H5:=(((b1.trans b2).trans s3.sb).trans s4.sb).trans b5;have R1:Same t H5:=UK h0 sm T9;have D0:SameB x H H3:=(b1.trans b2).trans s3.sb;have R3:Same t H3:=UK h0 sm D0
 let A':GA:=⟨x,j,bk,gv,l,nu,st,gs⟩
 refine q A' G Y Y Y ⟨D,bi,R3.free hl,R1.free S,r.free O,?_⟩;refine⟨O1,⟨_,M l7 xl,Z5<|Yo (M e4 xe) Z6⟩,⟨[],M n7 xn,(λp h=>(by cases h)),rfl,λk p h=>(by simp at h)⟩,jm,D _ _ hg,_,G1 _ _ g T5,(by show(1:Nat)<=1;exact ZG 1),λn s hs=>?_⟩;unfold WH stP at hs
 by_cases n0:n=0
 .subst n0
  rw[Zp rfl]at hs;cases hs;refine⟨tt,e2,kn,Y,tk _ _ T6,tk _ _<|(Z.trans<|I.trans N) _ _ g9,⟨xk.2,_,U (N _ _ T4) xk.1 xk.2,?_,λx th e=>?_⟩,id⟩
  .unfold nmD;rw[ZA,List.length_zip,ZA];show _<=3;omega
  .refine Nv ?_ e
   rw[La];exact Jb tk _ (Pz _)<|z3.mono<|J2.trans<|I.trans N
 .rw [Zq n0]at hs;cases hs
end
end K4
namespace L2
open PySem PySem.Spec PyProof.Rows
structure Q7(K:W.Frag)(C:Addr)(m:Str)(f:Addr):Prop where
 gt:W.specialIn K (.ref C) "__getattribute__"=some (some (.builtin "type.__getattribute__"))
 rd:W.readsIn K C (.type "type")=true
 fc:W.findCls K (.ref C) (.type "type") m=some (.val (.ref f))
 kp:W.keepIn K (.ref f)=true
def KL{C f:Addr}(g:Gl X x)(z:X.mg x=some (.ref C))(c:Q7 X.K C m f)(F:Ye X.prog X.w X.K X.mg X.base CX k f l A R)(j:Vr k X.A)(d:Binds X.K l A o)(hd:Vals dvs o)(S:Uk CX X E)(w:PA X (e::J) t)(M:(x==("__debug__":Str))=false:=by decide)(G:starEach (e::J) X.env=(false,eval e X.env)::starEach J X.env:=by rfl)(L:(backTo pos<|starEach J X.env).any (·.1)=false:=by rfl)(P:eval (.Call (.Attribute (.Name x p) m apos) (e::J) [] pos) X.env=(do
   let ov <-eval (.Name x p) X.env
   standAt apos.atName
   let(f,first) <-holding [ov] (getMethod ov m pl)
   callWith pos f first (backTo pos<|starEach (e::J) X.env) (backToKw pos<|keywordEach [] X.env)):=by rfl):
  PE X (.Call (.Attribute (.Name x p) m apos) (e::J) [] pos) (M6 R dvs E t):=by
 intro Z s U H Q I h;refine W.methodCall_KW (pl:=pl) (thn ((V5 (v:=.ref C) g z Y M) Z s U H (λx O=>x=.ref C/\M6 R dvs E t U O Q) I ⟨Y,h⟩) λu s1 ⟨y,O,N,B,b,q⟩=>?_) P;subst b;obtain rfl:u=Value.ref C:=B;refine W.method_cls N.kIn c.gt<|W.cls_value N.kIn c.rd c.fc rfl ?_;have i:=N.tok<|s1.toks+1;refine qH (first:=[]) (h₀:=X.base) I.ok.mod.kin c.kp (thn (w pos Z _ U O _ i q) λa s2 ⟨n,H2,T,r,D⟩=>⟨T.kIn,?_⟩) G L;exact Gw F j d hd S T r D
structure WA where
 t:Addr
 dx:Addr
 gr:Addr
 uw:Addr
 wr:Addr
 wn:Addr
 hs:Addr
def Vt(bw:Bool)(A:WA)(mo bg:Int):List (Str×V):=("ground",.ref A.gr)::("most",.int mo)::("begun",.int bg)::("under_way",.ref A.uw)::if bw=true then[("wanters",.ref A.wr),("wants",.ref A.wn),("heads",.ref A.hs)]else[]
structure DCl(K:W.Frag)(C:Addr):Prop where
 cl:Cls K C
 gr:VG K C "ground"
 mo:VG K C "most"
 bg:VG K C "begun"
 uw:VG K C "under_way"
structure WCl(K:W.Frag)(C:Addr):Prop extends DCl K C where
 wr:VG K C "wanters"
 wn:VG K C "wants"
 hs:VG K C "heads"
structure WS(bw:Bool)(H:Hp)(C:Addr)(A:WA)(mo bg:Int)(us:List V)(r n h:List (Key×V)):Prop where
 ins:H A.t=some (.ins C A.dx (Vt bw A mo bg))
 uw:H A.uw=some (.lst us)
 wr:bw=true->H A.wr=some (.dK r)
 wn:bw=true->H A.wn=some (.dK n)
 hs:bw=true->H A.hs=some (.dK h)
def WS.mono(g:WS bw H C A mo bg Z r n h)(s:Same H J):WS bw J C A mo bg Z r n h:=⟨s _ _ g.ins,s _ _ g.uw,λz=>s _ _<|g.wr z,λz=>s _ _<|g.wn z,λz=>s _ _<|g.hs z⟩
structure WF(bw:Bool)(Hm:Hp)(A:WA):Prop where
 t:Hm A.t=none
 uw:Hm A.uw=none
 wr:bw=true->Hm A.wr=none
 wn:bw=true->Hm A.wn=none
 hs:bw=true->Hm A.hs=none
 d1:bw=true->A.wr≠A.wn
 d2:bw=true->A.wr≠A.hs
 d3:bw=true->A.wn≠A.hs
end L2
namespace K4
open PySem L2
section
variable{C CK CG CO CW CD:Addr}
def yb:Yh ["self","ground","most"] ["self","ground","most"] (Yd Lx):=Y2
def yS:Yh ["self","ground","most"] ["self","ground","most"] (Yd Fl):=Y2
inductive SDI(CW:Addr)(H:Hp)(Q:VK):List V->Prop
 |mk (x dx gr:Addr) (mo:Int) (hx:H x=some (.ins CW dx []))
  (q:∀uw H',H uw=none->SameB x H H'->H' x=some (.ins CW dx [("ground",.ref gr),("most",.int mo),("begun",.int 0),("under_way",.ref uw)])->H' uw=some (.lst [])->Q .non H'):SDI CW H Q [.ref x,.ref gr,.int mo]
def IM(CW:Addr):Sp:=λZ H Q _=>SDI CW H Q Z
def Qi(Z:DCl K CW)(F:Fun K "__init__" "Doing.__init__" Lx f j):Ye P w K v base CX0 (n+1) f j ["self","ground","most"] (IM CW):=by
 refine F.oi yb λy A M s H d Q E r h=>?_;obtain⟨x,L,l,u,U,q⟩:=h;refine⟨_,YY (VT (pv 0) (pv 1) Y)
  (YY (VT (pv 0) (pv 2) rfl)
  (YY (VT (pv 0) (Ya) rfl)
  (YZ<|VT (pv 0) (JJ VR) rfl))),?_⟩
 dsimp only[VY,Cx.nox,Cx.wish];show let p:=_;let k:=Yk _ p;let g:=Yk _ k;Yk _ g _ _ _
 intros
 refine⟨x,CW,L,_,Y,U,Z.cl,Z.gr,by decide,?_⟩;refine fld_in x _ λi m S=>⟨x,CW,L,_,Y,S,Z.cl,Z.mo,(by show 1<1000;decide),?_⟩;refine fld_in x _ λo t I=>⟨x,CW,L,_,Y,I,Z.cl,Z.bg,(by show 2<1000;decide),?_⟩;refine fld_in x _ λe z O=>⟨sl 0,λR J=>?_⟩;have N:R≠x:=(Yb O J).symm;refine up_in J _ λb T X=>⟨x,CW,L,_,Y,T _ _ O,Z.cl,Z.uw,(by show 3<1000;decide),?_⟩;refine fld_in x _ λc B D=>?_;have G:=(m.trans t).trans z;exact q R c (G.free N J) ((G.trans T.sb).trans B) D<|B _ _ N X
inductive SWI(CW:Addr)(H:Hp)(Q:VK):List V->Prop
 |mk (Hm:Hp) (x dx gr:Addr) (mo:Int) (h0:Hm x=none) (sm:Same Hm H) (hx:H x=some (.ins CW dx []))
  (q:∀(A:WA) H',A.t=x->A.gr=gr->WF true Hm A->Same Hm H'->WS true H' CW A mo 0 [] [] [] []->Q .non H'):SWI CW H Q [.ref x,.ref gr,.int mo]
def SY(CW:Addr):Sp:=λZ H Q _=>SWI CW H Q Z
def Cp(M:WCl K CW)(F:Fun K "__init__" "Walk.__init__" Fl f fd)(mD:e "Doing"=some (.ref CD))(cD:Q7 K CD "__init__" g)(k:Ye P w K e base CX0 n g gd ["self","ground","most"] (IM CW))(bD:Binds K gd ["self","ground","most"] []):Ye P w K e base CX0 (n+1) f fd ["self","ground","most"] (SY CW):=by
 refine F.oi yS λJ2 A z s H vs Q E hr h=>?_;obtain⟨Hm,x,T,a,mo,t,l,o,q⟩:=h;refine⟨_,YY (VS<|KL rfl mD cD k hr bD .nil Y3 (pa3 (pv 0) (pv 1)<|pv 2))
  (YY (VT (pv 0) (Vz) rfl)
  (YY (VT (pv 0) (Vz) rfl)
  (YZ<|VT (pv 0) (Vz) rfl))),?_⟩
 dsimp only[VY,Cx.nox,Cx.wish];show let T0:=_;let T1:=Yk _ T0;let T2:=Yk _ T1;Yk _ T2 _ _ _
 intros
 refine⟨x,T,a,mo,o,λr H1 R b1 u g1=>?_⟩;have xu:r≠x:=(Yb o R).symm;intro wr L;have X:wr≠x:=(Yb u L).symm;refine up_in L _ λH2 b g2=>⟨x,CW,T,_,Y,b _ _ u,M.cl,M.wr,(by show 4<1000;decide),?_⟩;refine fld_in x _ λH3 b3 d=>?_;intro v G;have j:v≠x:=(Yb d G).symm;have g3:=b3 _ _ X g2;refine up_in G _ λH4 y g4=>⟨x,CW,T,_,Y,y _ _ d,M.cl,M.wn,(by show 5<1000;decide),?_⟩;refine fld_in x _ λH5 m c=>?_;intro i Z;have p:i≠x:=(Yb c Z).symm;refine up_in Z _ λH6 S g6=>⟨x,CW,T,_,Y,S _ _ c,M.cl,M.hs,(by show 6<1000;decide),?_⟩;refine fld_in x _ λH7 U x7=>?_;have I:=b.sb.trans b3;have D:=(I.trans y.sb).trans m;have B:=(D.trans S.sb).trans U;have J:Same Hm H1:=UK t l b1;have N:=m _ _ X<|y _ _ g3;have O:=m _ _ j g4
 let A':WA:=⟨x,T,a,r,wr,v,i⟩
 refine q A' H7 Y Y ⟨t,?_,λ_=>?_,λ_=>?_,λ_=>?_,λ_=>?_,λ_=>?_,λ_=>?_⟩ (UK t J B) ⟨x7,B _ _ xu g1,λ_=>U _ _ X<|S _ _ N,λ_=>U _ _ j<|S _ _ O,λ_=>U _ _ p g6⟩
 .exact l.free R
 .exact J.free L
 .exact J.free (I.free j G)
 .exact J.free (D.free p Z)
 .exact Yb g3 G
 .exact Yb N Z
 .exact Yb O Z
end
end K4
namespace L2
open PySem
def Uo{H:Hp}{o p:HO}(h:H a=some o)(g:H b=some p)(n:o≠p):a≠b:=λz=>n (by rw[z,g]at h;exact(ZT h).symm)
def WS.tb(g:WS bw H C A mo bg J r n h)(s:SameB A.t H Z)(x:Z A.t=some (.ins C A.dx<|Vt bw A mo bg')):WS bw Z C A mo bg' J r n h:=
 have k:∀{c kvs},H c=some (.dK kvs)->Z c=some (.dK kvs):=λe=>s _ _ (Uo e g.ins (by intro z;cases z)) e
 ⟨x,s _ _ (Uo g.uw g.ins (by intro z;cases z)) g.uw,λz=>k<|g.wr z,λz=>k<|g.wn z,λz=>k<|g.hs z⟩
def WS.ub(g:WS bw H C A mo bg J r n h)(s:SameB A.uw H Z)(x:Z A.uw=some (.lst us')):WS bw Z C A mo bg us' r n h:=
 have k:∀{c kvs},H c=some (.dK kvs)->Z c=some (.dK kvs):=λe=>s _ _ (Uo e g.uw (by intro z;cases z)) e
 ⟨s _ _ (Uo g.ins g.uw (by intro z;cases z)) g.ins,x,λz=>k<|g.wr z,λz=>k<|g.wn z,λz=>k<|g.hs z⟩
def WS.rb(g:WS true H C A mo bg J r n h)(f:WF true G A)(b:SameB A.wr H Z)(x:Z A.wr=some (.dK r')):WS true Z C A mo bg J r' n h:=
 ⟨b _ _ (Uo g.ins (g.wr rfl) (by intro z;cases z)) g.ins,b _ _ (Uo g.uw (g.wr rfl) (by intro z;cases z)) g.uw,λ_=>x,λz=>b _ _ (f.d1 z).symm<|g.wn z,λz=>b _ _ (f.d2 z).symm<|g.hs z⟩
def WS.nb(g:WS true H C A mo bg J r n h)(f:WF true G A)(b:SameB A.wn H Z)(x:Z A.wn=some (.dK n')):WS true Z C A mo bg J r n' h:=
 ⟨b _ _ (Uo g.ins (g.wn rfl) (by intro z;cases z)) g.ins,b _ _ (Uo g.uw (g.wn rfl) (by intro z;cases z)) g.uw,λz=>b _ _ (f.d1 z)<|g.wr z,λ_=>x,λz=>b _ _ (f.d3 z).symm<|g.hs z⟩
def WS.hb(g:WS true H C A mo bg J r n h)(f:WF true L A)(b:SameB A.hs H Z)(x:Z A.hs=some (.dK G)):WS true Z C A mo bg J r n G:=
 ⟨b _ _ (Uo g.ins (g.hs rfl) (by intro z;cases z)) g.ins,b _ _ (Uo g.uw (g.hs rfl) (by intro z;cases z)) g.uw,λz=>b _ _ (f.d2 z)<|g.wr z,λz=>b _ _ (f.d3 z)<|g.wn z,λ_=>x⟩
def WS.lb(g:WS bw H C A mo bg J r n h)(e:H l=some (.lst L))(G:l≠A.uw)(s:SameB l H Z):WS bw Z C A mo bg J r n h:=
 have k:∀{c kvs},H c=some (.dK kvs)->Z c=some (.dK kvs):=λq=>s _ _ (Uo q e (by intro z;cases z)) q
 ⟨s _ _ (Uo g.ins e (by intro z;cases z)) g.ins,s _ _ G.symm g.uw,λz=>k<|g.wr z,λz=>k<|g.wn z,λz=>k<|g.hs z⟩
def P2:JY O≠Vt bw B mo bg:=λz=>by
 have Z:some ("number":Str)=some ("most":Str):=congrArg (λl:List (Str×V)=>(l.map (·.1))[1]?) z;exact Zr Z<|by decide +kernel
def P3:Up G≠Vt bw B mo bg:=λz=>by
 have Z:some ("given":Str)=some ("most":Str):=congrArg (λl:List (Str×V)=>(l.map (·.1))[1]?) z;exact Zr Z<|by decide +kernel
structure UE where
 k:Nat
 F:Str
 b:Bd
 l:List WEn
structure WSt where
 u:List UE
 r:List (Nat×Option Nat)
 h:List (Nat×Str)
 bg:Nat
 wc:Nat
 s:Ss
def oV:Option Nat->V
 |none=>.non
 |some k=>.int (k:Nat)
def kK(k:Nat):Key:=Sum.inl (k:Int)
def rK(r:List (Nat×Option Nat)):kJ:=r.map λp=>(kK p.1,oV p.2)
def avW(bw:Bool)(B:WA):Addr->Prop:=λa=>bw=true/\(a=B.wr\/a=B.wn\/a=B.hs)
def hdT(t:Str):Dat:=.tup [.str "tag",.str t]
def Mg:(hdT t).ti=true:=by simp[hdT,Dat.ti,Dat.tis]
def HdV(H:Hp)(hK:kJ)(h:List (Nat×Str)):Prop:=hK.map (·.1)=h.map (λp=>kK p.1)/\HasL H (hK.map (·.2)) (h.map λp=>hdT p.2)
def WLs(Hm H:Hp)(A:GA)(B:WA)(wc:Nat)(Os:List OM)(v:V):Prop:=∃l Z,v=.ref l/\H l=some (.lst Z)/\Z.all UG=true/\Z.length<=wc/\l≠B.uw/\l≠A.bs/\Hm l=none/\∀O∈Os,l≠O.wl
structure WK(bw:Bool)(P:Program)(w:World)(Hm H:Hp)(C CK CG CO CW:Addr)(A:GA)(ks:List (Str×Shp))(d:Str->Nat)(ds:List Dd)(B:WA)(mo:Nat)(S:WSt)(Os:List OM):Prop where
 mx:MX P w Hm H C CK CG A ks d ds S.s.1 S.s.2 (avW bw B)
 gr:B.gr=A.t
 wf:WF bw Hm B
 n1:¬avW bw B A.st
 n2:A.bs≠B.uw
 l3:A.gs.length<=3
 ws:∃nK hK,WS bw H CW B (mo:Nat) (S.bg:Nat) (Os.map λO=>.ref O.t) (rK S.r) nK hK/\HdV H hK S.h/\nK.map (·.1)=S.r.map (λp=>kK p.1)/\∀p∈nK,WLs Hm H A B S.wc Os p.2
 ul:Os.length=S.u.length
 us:∀(i:Nat) O e,Os[i]?=some O->S.u[i]?=some e->RG P w Hm H C CK CG CO A ks d ds (avW bw B) O e.b e.l S.s/\O.n=e.k/\O.F=e.F
 nd:(Os.map (·.wl)).Nodup
 nu:∀O∈Os,O.wl≠B.uw
def WLs.mono(h:WLs G H A B wc Os v)(s:Same H L):WLs G L A B wc Os v:=let⟨l,Z,e,J,r⟩:=h;⟨l,Z,e,s _ _ J,r⟩
def EO(h:List (Nat×Str)):Dat.tis (h.map λp=>hdT p.2)=true:=U4 λd hd=>by obtain⟨p,_,rfl⟩:=ZW.mp hd;exact Mg
def HdV.tk(h:HdV H hK l)(t:TK H Z):HdV Z hK l:=⟨h.1,Jb t _ (EO l) h.2⟩
def Same.tk0(s:Same H Z):TK H Z:=λ_ _ e=>s _ _ e
def WK.mono(k:WK bw P w D H C F CG CO CW A J d T B mo S Os)(s:Same H E):WK bw P w D E C F CG CO CW A J d T B mo S Os:=by
 obtain⟨Z,G,R,N,M,L⟩:=k.ws;exact⟨k.mx.mono s,k.gr,k.wf,k.n1,k.n2,k.l3,⟨Z,G,R.mono s,N.tk s.tk0,M,λp m=>(L p m).mono s⟩,k.ul,λi O e a b=>let⟨r,q⟩:=k.us i O e a b;⟨r.same s,q⟩,k.nd,k.nu⟩
def WK.al(k:WK bw P w O H C R CG CO CW A L d N B mo S Os):∀a,avW bw B a->∃o,H a=some o:=by
 obtain⟨G,M,J,_⟩:=k.ws;rintro a ⟨Z,rfl|rfl|rfl⟩
 .exact ⟨_,J.wr Z⟩
 .exact ⟨_,J.wn Z⟩
 .exact ⟨_,J.hs Z⟩
structure Fo(Hm H H':Hp)(A:GA)(av:Addr->Prop)(l:Addr):Prop where
 b:SameB l H H'
 x:∃o,H' l=some o
 m:Hm l=none
 t:l≠A.t
 bs:l≠A.bs
 nu:l≠A.nu
 st:l≠A.st
 tk:TK H H'
 kn:∀kn ρ m,KnR A H kn ρ m->¬av kn->kn≠l
def KnR.fo(k:KnR A H kn ρ m)(f:Fo B H T A av l)(M:¬av kn):KnR A T kn ρ m:=by
 obtain⟨n,Z,R,N,O⟩:=id k;exact⟨n,Z,f.b _ _ (f.kn _ _ _ k M) R,N,λx J e=>let⟨v,L,G⟩:=O x J e;⟨v,L,VL f.tk _ (Tg.ti J) G⟩⟩
def GG.fo(g:GG P w H CG A cs sts av)(f:Fo Q H X A av l):GG P w X CG A cs sts av:=by
 obtain⟨L,C,U⟩:=g.bs;obtain⟨T,S,I,G⟩:=g.nu;obtain⟨Z,F,E,D⟩:=g.st;refine⟨f.b _ _ f.t.symm g.ins,⟨L,f.b _ _ f.bs.symm C,Jb f.tk _ (J6 cs) U⟩,⟨T,f.b _ _ f.nu.symm S,I.tk G f.tk,G⟩,g.nd,f.tk _ _ g.gv,Z,f.b _ _ f.st.symm F,E,λk st e=>?_⟩;obtain⟨t,p,B,R,O,N,M,J⟩:=D k st e;exact⟨t,p,B,R,f.tk _ _ O,f.tk _ _ N,M.fo f J,J⟩
def MX.fo(m:MX P w Z H C M CG A J d G cs sts av)(f:Fo Z H L A av l):MX P w Z L C M CG A J d G cs sts av:=
 ⟨λa o e=>f.b a o (Yb e f.m)<|m.sm _ _ e,m.bi,m.f1,m.f2,m.f3,m.gg.fo f⟩
def WEm.fo(h:WEm A av H z c)(f:Fo T H R A av l):WEm A av R z c:=by
 obtain⟨t,O,p,J,e,N,M,L,G,Z⟩:=h;exact⟨t,O,p,J,e,f.tk _ _ N,VL f.tk _ (Bd.ti _) M,f.tk _ _ L,G.fo f Z,Z⟩
def RG.fo(g:RG P w J H C E CG CO A N d B av O b l s)(f:Fo J H D A av p)(M:p≠O.t)(L:p≠O.wl):RG P w J D C E CG CO A N d B av O b l s:=by
 obtain⟨G,R,Z⟩:=g.wl;refine⟨g.mx.fo f,λa T=>?_,⟨f.b _ _ M.symm g.gm.ins,VL f.tk _ (Bd.ti _) g.gm.bd,g.gm.ok,g.gm.gr⟩,⟨G,f.b _ _ L.symm R,Z.1,λk z c a b=>(Z.2 k z c a b).fo f⟩,g.wb,g.fw,g.on⟩
 by_cases z:a=p
 .exact z ▸ f.x
 .obtain ⟨o,q⟩:=g.al a T
  exact⟨o,f.b a o z q⟩
def Lh(g:GG P w H CG A cs sts av)(L:H l=some (.lst N))(f:FrW A l H M):TK H M:=λa O h=>by
 obtain⟨G,J,Z⟩:=g.ne h (λ_ z=>by cases z) (λ_ z=>by cases z) λ_=>Ec.symm;exact f a _ G J Z (Yy h L (by intro z;cases z)) h
def RG.frw(g:RG P w U H C Q CG CO A M d S av O1 b1 l1 s)(I:RG P w U X C Q CG CO A M d S av O b l E)(N:H O.wl=some (.lst zs0))(ne:O1.wl≠O.wl)(f:FrW A O.wl H X)(h:s.1.length<=E.1.length):RG P w U X C Q CG CO A M d S av O1 b1 l1 E:=by
 obtain⟨j,R,F⟩:=g.wl;have Z:=Lh g.mx.gg N f;have L:=g.mx.gg.ne g.gm.ins (λ_ z=>by cases z) (λ_ z=>by cases z) λ_=>X4.symm
 have n:O1.wl≠A.nu/\O1.wl≠A.st:=by
  obtain⟨J,T,_⟩:=g.mx.gg.nu;obtain⟨M,e3,_⟩:=g.mx.gg.st;exact⟨Yy R T Ue.symm,Yy R e3 (by intro z;cases z)⟩
 refine⟨I.mx,I.al,⟨f _ _ L.1 L.2.1 L.2.2 (Yy g.gm.ins N (by intro z;cases z)) g.gm.ins,VL Z _ (Bd.ti _) g.gm.bd,g.gm.ok,g.gm.gr⟩,⟨j,f _ _ g.wb n.1 n.2 ne R,F.1,λk z c a b=>?_⟩,g.wb,g.fw,Zb g.on h⟩;obtain⟨t,bv,p,kn,e,u1,u2,i,⟨B,J,G,y,m⟩,o⟩:=F.2 k z c a b;obtain⟨xs,e1,_⟩:=g.mx.gg.bs;obtain⟨J2,T,_⟩:=g.mx.gg.nu;exact⟨t,bv,p,kn,e,Z _ _ u1,VL Z _ (Bd.ti _) u2,Z _ _ i,⟨B,J,f _ _ (Yy G e1 (by intro z;cases z)) (Yy G T Wo.symm) B (Yy G N (by intro z;cases z)) G,y,λx D q=>let⟨v,r,u⟩:=m x D q;⟨v,r,VL Z _ (Tg.ti D) u⟩⟩,o⟩
def SA(h:∀p∈nK,WLs M H A B wc Os p.2)(k:List.map (·.1) nK=List.map (λp:Nat×Option Nat=>kK p.1) r)(m:x∈r.map (·.1)):∃v,VC nK (kK x)=some v/\WLs M H A B wc Os v:=by
 have:(nK.any λG=>decide<|G.1=kK x)=true:=by
  obtain⟨p,L,rfl⟩:=ZW.mp m;have:kK p.1∈List.map (·.1) nK:=by rw[k];exact ZW.mpr ⟨p,L,Y⟩
  obtain⟨y,Z,e⟩:=ZW.mp this;exact jT.mpr ⟨y,Z,decide_eq_true e⟩
 rw[JS]at this;obtain⟨v,J⟩:=j9.mp this;exists v,J;unfold VC at J;obtain⟨y,Z,rfl⟩:=Zj.mp J;exact h y<|vm Z
section
variable{P:Program}{w:World}{bw:Bool}{C CK CG CO CW:Addr}
def WK.get(k:WK bw P w M H C CK CG CO CW A G d L B mo S Os)(h:O∈Os):∃e:UE,RG P w M H C CK CG CO A G d L (avW bw B) O e.b e.l S.s:=by
 obtain⟨i,J⟩:=vg.mp h;have Z:=(ZF.mp J).1;rw[k.ul]at Z;exact⟨_,(k.us i O _ J<|ZD Z).1⟩
def WK.usf(k:WK bw P w Z H C CK CG CO CW A M d N B mo S Os)(f:Fo Z H R A (avW bw B) l)(J:∀O∈Os,l≠O.t/\l≠O.wl):∀(i:Nat) O e,Os[i]?=some O->S.u[i]?=some e->RG P w Z R C CK CG CO A M d N (avW bw B) O e.b e.l S.s/\O.n=e.k/\O.F=e.F:=λi O e a b=>by
 obtain⟨r,q⟩:=k.us i O e a b;obtain⟨L,G⟩:=J O<|ZJ a;exact⟨r.fo f L G,q⟩
def WLs.fo(h:WLs G H A B wc Os v)(b:SameB l H L)(n:∀Z,H l≠some (.lst Z)):WLs G L A B wc Os v:=by
 obtain⟨a,Z,e,J,r⟩:=h;exact⟨a,Z,e,b _ _ (λz=>n Z<|z ▸ J) J,r⟩
def WK.foI(k:WK bw P w N H C CK CG CO CW A R d D B mo S Os)(h:H B.t=some (.ins CW B.dx<|Vt bw B mo bg))(b:SameB B.t H Z)(x:Z B.t=some o):Fo N H Z A (avW bw B) B.t:=by
 obtain⟨L,G,J⟩:=k.mx.gg.ne h (λ_ z=>by cases z) (λ_ z=>by cases z) λ_=>X4.symm;refine⟨b,⟨_,x⟩,k.wf.t,λz=>?_,L,G,J,λa O e=>b _ _ (Yy e h (by intro z;cases z)) e,λT ρ m M _=>?_⟩
 .exact (Yy h k.mx.gg.ins (λz=>by injection z with _ _ z;exact P3 z.symm)) z
 .obtain ⟨_,kvs,e,_⟩:=M
  exact Yy e h (by intro z;cases z)
def WK.foD(k:WK bw P w Z H C CK CG CO CW A D d I B mo S Os)(a:avW bw B l)(h:H l=some (.dK O))(m:Z l=none)(b:SameB l H J)(x:J l=some o):Fo Z H J A (avW bw B) l:=by
 obtain⟨T,N,_⟩:=k.mx.gg.bs;obtain⟨L,M,_⟩:=k.mx.gg.nu;exact⟨b,⟨_,x⟩,m,Yy h k.mx.gg.ins (by intro z;cases z),Yy h N (by intro z;cases z),Yy h M Wo.symm,λz=>k.n1<|z ▸ a,λa R e=>b _ _ (Yy e h (by intro z;cases z)) e,λF ρ m E G z=>G<|z ▸ a⟩
def WK.foL(k:WK bw P w Z H C CK CG CO CW A F d U B mo S Os)(h:H l=some (.lst D))(m:Z l=none)(G:l≠A.bs)(b:SameB l H J)(x:J l=some o):Fo Z H J A (avW bw B) l:=by
 obtain⟨N,T,_⟩:=k.mx.gg.nu;obtain⟨M,R,_⟩:=k.mx.gg.st;refine⟨b,⟨_,x⟩,m,Yy h k.mx.gg.ins (by intro z;cases z),G,Yy h T Ue.symm,Yy h R (by intro z;cases z),λa E e=>b _ _ (Yy e h (by intro z;cases z)) e,λI ρ m O _=>?_⟩;obtain⟨_,L,e,_⟩:=O;exact Yy e h (by intro z;cases z)
def WK.nD(k:WK bw P w M H C CK CG CO CW A G d L B mo S Os)(h:H l=some (.dK Z)):∀O∈Os,l≠O.t/\l≠O.wl:=λO m=>by
 obtain⟨e,r⟩:=k.get m;obtain⟨Z,J,_⟩:=r.wl;exact⟨Yy h r.gm.ins (by intro z;cases z),Yy h J (by intro z;cases z)⟩
def WK.bg(k:WK bw P w I H C CK CG CO CW A M d F B J S Os)(b:SameB B.t H G)(x:G B.t=some (.ins CW B.dx<|Vt bw B (J:Nat) (bg':Nat))):WK bw P w I G C CK CG CO CW A M d F B J {S with bg:=bg'} Os:=by
 obtain⟨L,N,Z,E,D,T⟩:=k.ws;have f:=k.foI Z.ins b x;refine⟨k.mx.fo f,k.gr,k.wf,k.n1,k.n2,k.l3,⟨L,N,Z.tb b x,E.tk f.tk,D,λp m=>(T p m).fo b (λX z=>by rw[Z.ins]at z;cases z)⟩,k.ul,k.usf f λO m=>?_,k.nd,k.nu⟩;obtain⟨e,r⟩:=k.get m;obtain⟨U,R,_⟩:=r.wl;exact⟨(Yy r.gm.ins Z.ins (λz=>by injection z with _ _ z;exact P2 z)).symm,Yy Z.ins R (by intro z;cases z)⟩
def WK.wr(k:WK true P w M H C CK CG CO CW A N d R B T S Os)(U:VC nK' (kK c)=none->True)(b:SameB B.wr H Z)(x:Z B.wr=some (.dK<|rK<|S.r++[(c,o)])):∃J G,TK H Z/\MX P w M Z C CK CG A N d R S.s.1 S.s.2 (avW true B)/\WS true Z CW B (T:Nat) (S.bg:Nat) (Os.map λO=>.ref O.t) (rK<|S.r++[(c,o)]) J G/\HdV Z G S.h/\J.map (·.1)=S.r.map (λp=>kK p.1)/\(∀p∈J,WLs M Z A B S.wc Os p.2)/\(∀(i:Nat) O e,Os[i]?=some O->S.u[i]?=some e->RG P w M Z C CK CG CO A N d R (avW true B) O e.b e.l S.s/\O.n=e.k/\O.F=e.F):=by
 obtain⟨J,G,L,F,E,D⟩:=k.ws;have f:=k.foD ⟨rfl,.inl rfl⟩ (L.wr rfl) (k.wf.wr rfl) b x;exact⟨J,G,f.tk,k.mx.fo f,L.rb k.wf b x,F.tk f.tk,E,λp m=>(D p m).fo b (λI z=>by rw[L.wr rfl]at z;cases z),k.usf f<|k.nD<|L.wr rfl⟩
def WK.wn(k:WK true P w N H C CK CG CO CW A j d g B mo S Os)(bR:SameB B.wr H T)(n:T B.wr=some (.dK<|rK<|S.r++[(c,o)]))(M:T l=none)(s:Same T R)(U:R l=some (.lst []))(b:SameB B.wn R H3)(nn:∀L:kJ,R B.wn=some (.dK L)->H3 B.wn=some (.dK<|L++[(kK c,.ref l)])):WK true P w N H3 C CK CG CO CW A j d g B mo {S with r:=S.r++[(c,o)]} Os:=by
 obtain⟨L,hK,x,J,Q,h2,h3,h4,G⟩:=k.wr (nK':=[]) (λ_=>trivial) bR n;have k1:WK true P w N T C CK CG CO CW A j d g B mo {S with r:=S.r} Os->True:=λ_=>trivial;have Z:=Q.mono s;have X:=nn L<|Z.wn rfl;obtain⟨h,e1,_⟩:=(J.mono s).gg.bs;obtain⟨J2,e2,_⟩:=(J.mono s).gg.nu;have f:Fo N R H3 A (avW true B) B.wn:=⟨b,⟨_,X⟩,k.wf.wn rfl,Yy (Z.wn rfl) (J.mono s).gg.ins (by intro z;cases z),Yy (Z.wn rfl) e1 (by intro z;cases z),Yy (Z.wn rfl) e2 Wo.symm,λz=>k.n1<|z ▸ ⟨rfl,.inr<|.inl rfl⟩,λa ys e=>b _ _ (Yy e (Z.wn rfl) (by intro z;cases z)) e,λkn ρ m kr nk z=>nk<|z ▸ ⟨rfl,.inr<|.inl rfl⟩⟩;have D:H3 l=some (.lst []):=b _ _ (Yy U (Z.wn rfl) (by intro z;cases z)) U;have G1:=J.gg.bs;obtain⟨v,e3,_⟩:=J.gg.bs;have F:N l=none:=J.sm.free M;refine⟨(J.mono s).fo f,k.gr,k.wf,k.n1,k.n2,k.l3,⟨_,hK,Z.nb k.wf b X,(h2.tk s.tk0).tk f.tk,by rw[ZK,ZK,h3];rfl,λp m=>?_⟩,k.ul,λi O e a b'=>?_,k.nd,k.nu⟩
 .rcases ZX.mp m with m|m
  .exact ((h4 p m).mono s).fo b (λh z=>by rw[Z.wn rfl]at z;cases z)
  .rw [ZQ]at m
   subst m;refine⟨l,[],Y,D,Y,Zc _,(Yb Q.uw M).symm,(Yb e3 M).symm,F,λO m=>?_⟩;obtain⟨i,t⟩:=vg.mp m;have y:=(ZF.mp t).1;rw[k.ul]at y;obtain⟨u,I,_⟩:=(G i O _ t<|ZD y).1.wl;exact(Yb I M).symm
 .obtain ⟨r,q⟩:=G i O e a b'
  have E:=r.same s;obtain⟨u,I,_⟩:=E.wl;exact⟨E.fo f (Yy (Z.wn Y) E.gm.ins (by intro z;cases z)) (Yy (Z.wn Y) I (by intro z;cases z)),q⟩
def WK.wl(k:WK true P w J H C CK CG CO CW A I d c B mo S Os)(h:WLs J H A B S.wc Os (.ref l))(e:H l=some (.lst M))(b:SameB l H G)(x:G l=some (.lst<|M++[y]))(t:UG y=true):WK true P w J G C CK CG CO CW A I d c B mo {S with wc:=S.wc+1} Os:=by
 obtain⟨F,U,q,j,Q,X⟩:=k.ws;obtain⟨o,L,g,Z,E,v,D,T,R,N⟩:=h;cases g;rw[e]at Z;cases Z;have f:=k.foL e R T b x;refine⟨k.mx.fo f,k.gr,k.wf,k.n1,k.n2,k.l3,⟨F,U,q.lb e D b,j.tk f.tk,Q,λp m=>?_⟩,k.ul,k.usf f λO m=>?_,k.nd,k.nu⟩
 .obtain ⟨a,ys,v1,v2,v3,v4,v5⟩:=X p m
  by_cases z:a=l
  .subst z
   rw[e]at v2;cases v2;exact⟨a,_,v1,x,by rw[List.all_append,E];simp[t],by rw[ZL,vc];exact kq v4,v5⟩
  .exact ⟨a,ys,v1,b _ _ z v2,v3,qT v4,v5⟩
 .obtain ⟨e2,r⟩:=k.get m
  exact⟨Yy e r.gm.ins (by intro z;cases z),N O m⟩
def WK.wc(k:WK true P w X H C CK CG CO CW A R d U B mo S Os):WK true P w X H C CK CG CO CW A R d U B mo {S with wc:=S.wc+1} Os:=by
 obtain⟨O,T,I,F,E,D⟩:=k.ws;exact⟨k.mx,k.gr,k.wf,k.n1,k.n2,k.l3,⟨O,T,I,F,E,λp m=>let⟨a,Z,N,M,L,G,J⟩:=D p m;⟨a,Z,N,M,L,qT G,J⟩⟩,k.ul,k.us,k.nd,k.nu⟩
def WK.hd(k:WK true P w F H C CK CG CO CW A O d E B mo S Os)(b:SameB B.hs H M)(R:Has H y (hdT t))(x:∀Z:kJ,H B.hs=some (.dK Z)->HdV H Z S.h->M B.hs=some (.dK<|Z++[(kK c,y)])):WK true P w F M C CK CG CO CW A O d E B mo {S with h:=S.h++[(c,t)]} Os:=by
 obtain⟨N,Z,J,G,D,T⟩:=k.ws;have L:=x Z (J.hs rfl) G;have f:=k.foD ⟨rfl,.inr<|.inr rfl⟩ (J.hs rfl) (k.wf.hs rfl) b L;exact⟨k.mx.fo f,k.gr,k.wf,k.n1,k.n2,k.l3,⟨N,_,J.hb k.wf b L,⟨by rw[ZK,ZK,G.1];rfl,by rw[ZK,ZK];exact Z7 (Jb f.tk _ (EO _) G.2)<|Z5<|VL f.tk _ Mg R⟩,D,λp m=>(T p m).fo b (λI z=>by rw[J.hs rfl]at z;cases z)⟩,k.ul,k.usf f<|k.nD<|J.hs rfl,k.nd,k.nu⟩
def WK.push(k:WK bw P w X H C CK CG CO CW A F d U B mo S Os)(s:Same H Q)(g:RG P w X Q C CK CG CO A F d U (avW bw B) O bd l S.s)(E:H O.wl=none)(b:SameB B.uw Q y)(x:y B.uw=some (.lst<|(Os.map λO=>.ref O.t)++[.ref O.t])):WK bw P w X y C CK CG CO CW A F d U B mo {S with u:=S.u++[⟨O.n,O.F,bd,l⟩]} (Os++[O]):=by
 have M:=k.mono s;obtain⟨nK,hK,D,h2,h3,h4⟩:=M.ws;obtain⟨N,T,I,g2,g3,g4⟩:=k.ws;have f:=M.foL D.uw k.wf.uw k.n2.symm b x;have G:O.wl≠B.uw:=(Yb I.uw E).symm
 have v:∀Z∈Os,Z.wl≠O.wl:=λZ m=>by
  obtain⟨e,r⟩:=k.get m;obtain⟨zs,n,_⟩:=r.wl;exact Yb n E
 refine⟨M.mx.fo f,k.gr,k.wf,k.n1,k.n2,k.l3,⟨N,T,?_,(g2.tk s.tk0).tk f.tk,g3,λp m=>?_⟩,by rw[ZL,ZL,k.ul];rfl,λi Z e a L=>?_,?_,λZ m=>?_⟩
 .rw [ZK]
  exact(I.mono s).ub b x
 .obtain ⟨a,ys,v1,v2,v3,v4,v5,v6,v7,v8⟩:=g4 p m
  refine⟨a,ys,v1,b _ _ v5<|s _ _ v2,v3,v4,v5,v6,v7,λZ J=>?_⟩;rcases ZX.mp J with J|J
  .exact v8 Z J
  .rw [ZQ]at J;subst J;exact Yb v2 E
 .rcases jB i Os.length with q|q
  .rw [vd q]at a
   rw[vd (by rw[<-k.ul];exact q)]at L;have m:=ZJ a;obtain⟨r,t⟩:=M.us i Z e a L;exact⟨r.fo f (Yy D.uw r.gm.ins (by intro z;cases z)) (k.nu Z m).symm,t⟩
  .rw [vb q]at a
   rw[vb (by rw[<-k.ul];exact q),<-k.ul]at L
   cases e0:i-Os.length with
   |zero=>
    rw[e0]at a L;cases a;cases L;exact⟨g.fo f (Yy D.uw g.gm.ins (by intro z;cases z)) G.symm,Y,Y⟩
   |succ j=>rw[e0]at a;simp at a
 .rw [ZK,jh]
  refine⟨k.nd,by simp,λa h c o=>?_⟩;obtain⟨Z,m,rfl⟩:=ZW.mp h;have R:c=O.wl:=by simpa using o
  rw[R];exact v Z m
 .rcases ZX.mp m with m|m
  .exact k.nu Z m
  .rw [ZQ]at m;subst m;exact G
def WK.run(k:WK bw P w v H C CK CG CO CW A X d t B mo S (Os++[O]))(Q:S.u=u++[e])(f:FrW A O.wl H F)(g:RG P w v F C CK CG CO A X d t (avW bw B) O e.b l' I)(le:S.s.1.length<=I.1.length):WK bw P w v F C CK CG CO CW A X d t B mo {S with u:=u++[{e with l:=l'}],s:=I} (Os++[O]):=by
 obtain⟨nK,hK,J,h2,h3,h4⟩:=k.ws;have b:=k.ul;rw[Q,ZL,ZL,vc,vc]at b;have Z:Os.length=u.length:=by omega
 have N:=k.us;rw[Q]at N;obtain⟨n,q1,x⟩:=N Os.length O e (by rw[vb (ZG _),vt];rfl) (by rw[Z,vb<|ZG _,vt];rfl);obtain⟨M,L,_⟩:=n.wl;have o:=Lh k.mx.gg L f;obtain⟨xs,e1,_⟩:=k.mx.gg.bs;obtain⟨G1,E,_⟩:=k.mx.gg.nu;obtain⟨J2,y,_⟩:=k.mx.gg.st;have T:O.wl≠B.uw:=k.nu O<|ZU _<|ZQ.mpr rfl;have D:∀{a M},avW bw B a->H a=some (.dK M)->F a=some (.dK M):=λha h=>f _ _ (Yy h e1 (by intro z;cases z)) (Yy h E Wo.symm) (λz=>k.n1<|z ▸ ha) (Yy h L (by intro z;cases z)) h;have R:=k.mx.gg.ne J.ins (λ_ z=>by cases z) (λ_ z=>by cases z) λ_=>X4.symm;have U:=k.nd;rw[ZK,jh]at U;refine⟨g.mx,k.gr,k.wf,k.n1,k.n2,k.l3,⟨nK,hK,⟨f _ _ R.1 R.2.1 R.2.2 (Yy J.ins L (by intro z;cases z)) J.ins,f _ _ k.n2.symm (Yy J.uw E Ue.symm) (Yy J.uw y (by intro z;cases z)) T.symm J.uw,λz=>D ⟨z,.inl Y⟩<|J.wr z,λz=>D ⟨z,.inr<|.inl rfl⟩<|J.wn z,λz=>D ⟨z,.inr<|.inr rfl⟩<|J.hs z⟩,h2.tk o,h3,λp m=>?_⟩,by rw[ZL,ZL,Z];rfl,λi c e' a G=>?_,k.nd,k.nu⟩
 .obtain ⟨a,ys,v1,v2,v3,v4,v5,v6,v7,v8⟩:=h4 p m
  exact⟨a,ys,v1,f _ _ v6 (Yy v2 E Ue.symm) (Yy v2 y (by intro z;cases z)) (v8 O<|ZU _<|ZQ.mpr rfl) v2,v3,v4,v5,v6,v7,v8⟩
 .rcases jB i Os.length with q|q
  .have a':=a
   rw[vd q]at a';rw[vd (by rw[<-Z];exact q)]at G;obtain⟨r,q'⟩:=N i c e' a (by rw[vd (by rw[<-Z];exact q)];exact G);exact⟨r.frw g L (U.2.2 _ (ZW.mpr ⟨c,ZJ a',Y⟩) _<|by simp) f le,q'⟩
  .rw [vb q]at a
   rw[vb (by rw[<-Z];exact q),<-Z]at G
   cases e0:i-Os.length with
   |zero=>
    rw[e0]at a G;cases a;cases G;exact⟨g,q1,x⟩
   |succ j=>rw[e0]at a;simp at a
def WK.pop(k:WK bw P w y H C CK CG CO CW A D d Q B mo S (Os++[O]))(L:S.u=u++[e])(b:SameB B.uw H M)(x:M B.uw=some (.lst<|Os.map λO=>.ref O.t)):WK bw P w y M C CK CG CO CW A D d Q B mo {S with u:=u} Os:=by
 obtain⟨T,E,J,U,I,F⟩:=k.ws;have N:=k.ul;rw[L,ZL,ZL,vc,vc]at N;have f:=k.foL J.uw k.wf.uw k.n2.symm b x;have G:=k.nd;rw[ZK,jh]at G;refine⟨k.mx.fo f,k.gr,k.wf,k.n1,k.n2,k.l3,⟨T,E,J.ub b x,U.tk f.tk,I,λp m=>?_⟩,by omega,λi Z X a j=>?_,G.1,λZ m=>k.nu Z<|vT _ m⟩
 .obtain ⟨a,ys,v1,v2,v3,v4,v5,v6,v7,v8⟩:=F p m
  exact⟨a,ys,v1,b _ _ v5 v2,v3,v4,v5,v6,v7,λZ m=>v8 Z<|vT _ m⟩
 .have il:=(ZF.mp a).1
  have m:=vT [O]<|ZJ a;obtain⟨r,R⟩:=k.us i Z X (by rw[vd il];exact a) (by rw[L,vd (by omega)];exact j);exact⟨r.fo f (Yy J.uw r.gm.ins (by intro z;cases z)) (k.nu Z m).symm,R⟩
end
def L0{α:Type}{us:List α}{D E:α->V}(L:Itx J H (us.map D))(B:us.length<=10000)(O:∀u (R:V->Hp->Prop),u∈us->R (E u) H->g (D u) s0 H λN T=>te N T R)(hd:∀p Z,H p=none->Same H Z->Z p=some (.lst<|us.map E)->Q (.ref p) Z):Tn J g te s0 Q H:=by
 refine Va us.length (JI<|by omega) (λi G Z=>Z=H/\G=(us.take i).map E/\i<=us.length) ⟨rfl,rfl,Zc _⟩ (λi G Z z=>by rw[z.2.1,ZA,ZN];exact vR z.2.2) ?_ ?_ ?_ ?_
 .rintro i G Z hi ⟨rfl,_⟩
  exact L.go i (by rw[ZA];exact hi)
 .rintro G Z ⟨rfl,_⟩
  have:=L.stop
  rwa [ZA]at this
 .rintro i G Z x H'' R hi ⟨rfl,rfl,z3⟩ yl rT
  obtain⟨rfl,y⟩:=L.yld i x H'' yl;rw[ZH]at y;obtain⟨u,M,rfl⟩:=Zj.mp y;refine O u R (ZJ M)<|rT _ _ ⟨rfl,?_,hi⟩;rw[take_snoc M,ZK]
  rfl
 .rintro G Z p ⟨rfl,rfl,_⟩ hp
  rw[Zg (ZG _)];exact hd p _ hp (Yq hp _) Yf
def bD(cs:List Mk1)(n:Nat):Dat:=(Vq cs).getD n<|.tup []
def WK.nums(k:WK bw P w L H C M CG CO CW A J d G B mo S Os):Os.map (λO=>V.int (O.n:Nat))=S.u.map λe=>V.int (e.k:Nat):=by
 refine List.ext_getElem? λi=>?_;rw[ZH,ZH]
 cases h:Os[i]? with
 |none=>
  have:=je.mp h;rw[je.mpr (by rw[<-k.ul];exact this)]
  rfl
 |some O=>
  have Z:=(ZF.mp h).1;rw[k.ul]at Z;have:=k.us i O _ h<|ZD Z;rw[ZD Z];exact congrArg some<|congrArg (λn:Nat=>V.int n) this.2.1
def WK.le(k:WK bw P w M H C N CG CO CW A G d L B mo S Os)(m:e∈S.u):e.k<=S.s.1.length:=by
 obtain⟨i,J⟩:=vg.mp m;have Z:=(ZF.mp J).1;rw[<-k.ul]at Z;have:=k.us i _ e (ZD Z) J;rw[<-this.2.1];exact this.1.on
theorem RH:∀l:List UE,HasL H (l.map λe=>V.int (e.k:Nat))<|l.map λe=>Dat.int (e.k:Nat)
 |[]=>Z6
 |e::l=>Z4 (by unfold Has;rfl)<|RH l
def itd{Z:kJ}(h:H d=some (.frz o<|.dK Z)):Itx (Itd d o Z) H (Z.map λJ=>kV J.1):=⟨λi G=>⟨h,by rw[ZA]at G;exact G⟩,⟨h,by rw[ZA]⟩,λi x M y=>by
 obtain⟨e,J,L,rfl⟩:=y;exact⟨e,by rw[ZH,L];rfl⟩⟩
def EA(K:W.Frag)(Z:PE X e ta)(J:attributeBase e f X.env (eval e X.env)=eval e X.env)(G:X.K=K:=by rfl):PE X (.Attribute e f pos) (SN K ta f):=by
 subst G;exact Ym Z J
end L2
namespace K4
open PySem L2
section
variable{C CK CG CO CW CD:Addr}
abbrev sn:kC:=["self","number"]
def QS(A:WA):(Vt bw A mo bg).lookup ("ground":Str)=some (V.ref A.gr):=rfl
def QR(A:WA):(Vt bw A mo bg).lookup ("most":Str)=some (V.int mo):=rfl
def Dl(A:WA):(Vt bw A mo bg).lookup ("begun":Str)=some (V.int bg):=rfl
def Wv(A:WA):(Vt bw A mo bg).lookup ("under_way":Str)=some (V.ref A.uw):=rfl
def Ts(A:WA):(Vt true A mo bg).lookup ("wanters":Str)=some (V.ref A.wr):=rfl
def Dj(A:WA):(Vt true A mo bg).lookup ("wants":Str)=some (V.ref A.wn):=rfl
def Dk(A:WA):(Vt true A mo bg).lookup ("heads":Str)=some (V.ref A.hs):=rfl
def SD(A:WA):(Vt bw A mo bg).lookup ("going_of":Str)=none:=by cases bw <;> rfl
def Fi(A:WA):(Vt bw A mo bg).lookup ("go_into":Str)=none:=by cases bw <;> rfl
def Fj(A:WA):(Vt true A mo bg).lookup ("birth_of":Str)=none:=rfl
def A1(A:WA):(Vt true A mo bg).lookup ("ring_from":Str)=none:=rfl
def SB(A:WA):(Vt bw A mo bg).length<1000:=by unfold Vt;cases bw <;> simp
def AX(A:OM):(JY A).lookup ("begin":Str)=none:=rfl
def CS:Yh sn sn (Yd X7):=Y2
def CT:Yh sn sn (Yd GZ):=Y2
def Sl:Yh ["self","number","head"] ["self","number","head"] (Yd SG):=Y2
def CV:Yh sn sn (Yd Gb):=Y2
def CN:Yh ["self","number","numbers"] sn (Yd WE):=Y2
inductive OK(P:Program)(w:World)(CG CW:Addr)(H:Hp)(Q:VK):List V->Prop
 |num (A:GA) (B:WA) (mo bg:Int) (cs:List Mk1) (sts:Nat->Option Sta) (av:Addr->Prop) (k:Nat) (ins:H B.t=some (.ins CW B.dx (Vt true B mo bg))) (gr:B.gr=A.t) (gg:GG P w H CG A cs sts av) (hk:k<=cs.length) (q:∀v,Has H v (bD cs k)->Q v H):OK P w CG CW H Q [.ref B.t,.int (k:Nat)]
 |non (B:WA) (q:Q .non H):OK P w CG CW H Q [.ref B.t,.non]
def R0(P:Program)(w:World)(CG CW:Addr):Sp:=λZ H Q _=>OK P w CG CW H Q Z
def Pe(M:WCl K CW)(TG:GCl K CG)(F:Fun K "birth_of" "Walk.birth_of" Gb f S):Ye P w K m base CX0 (n+1) f S sn (R0 P w CG CW):=by
 refine F.oi CV (len:=λO H Q E h=>by cases h <;> rfl) λj A Z s H O Q E g h=>?_;refine⟨_,YY (Y5 (Ys Wb (pv 1) Vi<|Y0 _) (YZ<|Yi<|Vi) Yp)
  (YZ<|Yi<|Yr VH (Ym (Ym (pv 0) rfl) rfl) (pv 1) λ_ _=>rfl),?_⟩
 dsimp only[VY,Cx.nox,Cx.wish];show let z:=_;let y:=_;Yk (VE _ y _) z _ _ _
 intros
 rcases h with⟨r,B,t,u,d,R,v,k,ins,I,L,p,q⟩|⟨B,q⟩
 .refine ⟨rfl,_,rfl,Y1 (by simp) ?_⟩
  exists CW,_,_,_,ins,M.cl,M.gr,QS _;rw[I];obtain⟨N,D,G⟩:=L.bs;have T:=G.length;rw[Ti]at T;have J:k<N.length:=by omega
  obtain⟨c,X,U⟩:=G.get<|ZD J;refine⟨CG,_,_,_,L.ins,TG.cl,TG.bs,Mp _,_,_,Z3 D,VD<|ZD J,q _ ?_⟩;unfold bD;rw[jd,X];exact U
 .exact ⟨rfl,_,rfl,VF (by decide +kernel) q⟩
inductive Q3(bw:Bool)(P:Program)(w:World)(C CK CG CO CW:Addr)(H:Hp)(Q:VK):List V->Prop
 |mk (Hm:Hp) (A:GA) (ks:List (Str×Shp)) (d:Str->Nat) (ds:List Dd) (B:WA) (mo:Nat) (S:WSt) (Os:List OM) (k:Nat) (sta:Sta) (df:Dd) (wk:WK bw P w Hm H C CK CG CO CW A ks d ds B mo S Os) (hs:S.s.2 k=some sta) (hd:df∈ds) (ef:df.1.1=sta.f) (ok:df.2.ok) (hk:k<=S.s.1.length)
  (q:∀(O:OM) H',O.n=k->O.F=sta.f->Same H H'->H O.wl=none->RG P w Hm H' C CK CG CO A ks d ds (avW bw B) O df.2 [] S.s->H' O.pl=some (.tup (sta.pl.map V.int))->KnR A H' O.kn sta.ρ (3+sta.pl.length)->¬avW bw B O.kn->Q (.ref O.t) H'):Q3 bw P w C CK CG CO CW H Q [.ref B.t,.int (k:Nat)]
def Rx(bw:Bool)(P:Program)(w:World)(C CK CG CO CW:Addr):Sp:=λZ H Q _=>Q3 bw P w C CK CG CO CW H Q Z
def EE(I:DCl K CW)(F:Fun K "going_of" "Doing.going_of" X7 f i)(t:T "Going"=some (.ref CO))(MO:Mk K CO g)(GI:Ye P w K T base CX0 n g l ["self","ground","number"] (IA P w C CK CG CO))(bI:Binds K l ["self","ground","number"] []):Ye P w K T base CX0 (n+2) f i sn (Rx bw P w C CK CG CO CW):=by
 refine F.oi CS λJ2 A L s H vs Q E u h=>?_;obtain⟨Hm,A',m,d,ds,B,mo,S,Os,k,G,df,J,c,hd,ef,y,r,q⟩:=h;exists _,YZ<|Yi<|Ub MO GI u rfl t bI .nil Y3 (pa2 (Ym (pv 0) rfl)<|pv 1);dsimp only[VY,Cx.nox,Cx.wish];obtain⟨nK,hK,U,_⟩:=J.ws;refine⟨CW,_,_,_,U.ins,I.cl,I.gr,QS _,λx Z D M v=>?_⟩;have R:Same H (upd (upd H Z<|.own x) x<|.ins CO Z []):=λb o e=>by rw[Yg (Yb e D),Yg (Yb e M)];exact e
 have N:upd (upd H Z<|.own x) x (.ins CO Z []) x=some (.ins CO Z []):=Yf;generalize upd (upd H Z<|.own x) x (.ins CO Z [])=H7 at N R |-;rw[J.gr];refine⟨Hm,H,x,Z,A',m,d,ds,avW bw B,S.s,k,G,df,D,R,N,J.mx,J.al,c,hd,ef,y,r,λO H' e1 e2 e3 s1 a X j p z=>⟨Y,?_⟩⟩;rw[<-e1];exact q O H' e2 e3 s1 a X j p z
inductive OH(bw:Bool)(P:Program)(w:World)(C CK CG CO CW:Addr)(n:Nat)(H:Hp)(Q:VK):List V->Prop
 |go (Hm:Hp) (A:GA) (ks:List (Str×Shp)) (d:Str->Nat) (ds:List Dd) (B:WA) (mo:Nat) (S:WSt) (Os:List OM) (k:Nat) (sta:Sta) (df:Dd) (m:Nat) (r:Stp) (l':List WEn) (s':Ss) (wk:WK bw P w Hm H C CK CG CO CW A ks d ds B mo S Os) (hs:S.s.2 k=some sta) (hd:df∈ds) (ef:df.1.1=sta.f) (ok:df.2.ok) (hk:k<=S.s.1.length) (lt:S.bg<mo) (lu:S.u.length<=9000) (gs:Gos ds A.gs sta.f df.2 k n m (.body sta.pl sta.ρ) [] S.s r l' s') (ls:S.s.1.length<=s'.1.length)
  (q:∀v O H',WK bw P w Hm H' C CK CG CO CW A ks d ds B mo {S with u:=S.u++[⟨k,sta.f,df.2,l'⟩],bg:=S.bg+1,s:=s'} (Os++[O])->r.on A (avW bw B) H' v->Q v H'):OH bw P w C CK CG CO CW n H Q [.ref B.t,.int (k:Nat)]
 |dry (Hm:Hp) (A:GA) (ks:List (Str×Shp)) (d:Str->Nat) (ds:List Dd) (B:WA) (S:WSt) (Os:List OM) (k:Nat) (wk:WK bw P w Hm H C CK CG CO CW A ks d ds B S.bg S Os) (q:∀t H',Same H H'->H' t=some (.tup [.str "dry"])->Q (.ref t) H'):OH bw P w C CK CG CO CW n H Q [.ref B.t,.int (k:Nat)]
def Gi(bw:Bool)(P:Program)(w:World)(C CK CG CO CW:Addr)(n:Nat):Sp:=λZ H Q _=>OH bw P w C CK CG CO CW n H Q Z
def EF(Z:DCl K CW)(TO:OCl K CO)(F:Fun K "go_into" "Doing.go_into" GZ f fd)(m1:VI K CW "going_of" y)(G1:Ye P w K i base CX0 L y d1 sn (Rx bw P w C CK CG CO CW))(p:Binds K d1 sn [])(m2:VI K CO "begin" g2)(G2:Ye P w K i base CX0 L g2 d2 ["self"] (N5 P w C CK CG CO n))(b2:Binds K d2 ["self"] []):Ye P w K i base CX0 (L+1) f fd sn (Gi bw P w C CK CG CO CW n):=by
 refine F.oi CT (len:=λvs H Q E h=>by cases h <;> rfl) λR1 A X s H vs Q E a h=>?_;refine⟨_,YY (Y5 (Ys Vc (Ym (pv 0) Y) (Ym (pv 0) Y)<|Y0 _) (YZ<|Yi<|Yj<|pa1<|Yw) Yp)
  (YY (E1 (pv 0) Ya Ae)
  (YY (VS<|Uw Zz Z0 Z1 JR (Ym (pv 0) rfl)<|pa1<|Y4 (pv 0) Z.cl m1 G1 a p .nil Y3<|pa1<|pv 1)
  (YZ<|Yi<|Vj (Yr VH (Ym (pv 0) rfl)<|NF Gc Ya) TO.cl m2 G2 a b2 .nil Y3))),?_⟩
 dsimp only[VY,Cx.nox,Cx.wish];show let T0:=_;let T1:=Yk _ T0;let T2:=Yk _ T1;let T3:=_;Yk (VE _ T3 _) T2 _ _ _
 intros
 rcases h with⟨l,b,j,d,z,B,mo,S,c,k,R,I,m,r,l',s',T,hs,hd,ef,ok,hk,lt,lu,gs,ls,q⟩|⟨l,b,j,d,z,B,S,c,k,T,q⟩
 .obtain ⟨nK,hK,ws,_⟩:=id T.ws
  refine⟨CW,_,_,_,ws.ins,Z.cl,Z.bg,Dl _,CW,_,_,_,ws.ins,Z.cl,Z.mo,QR _,Y,_,Y,Y1 (by simp;omega) ?_⟩;exists _,_,_,_,_,Y,ws.ins,Z.cl,Z.bg,Dl _,_,1,Y,Y,_,_,ws.ins,SB _;refine fld_in B.t _ λH1 p x1=>?_;have N:=T.bg (bg':=S.bg+1) p x1;obtain⟨G3,O1,J,_⟩:=id N.ws;refine⟨CW,_,_,_,J.ins,Z.cl,Z.uw,Wv _,.inl ⟨Y,_,Z3 J.uw⟩,_,_,J.ins,SD _,l,b,j,d,z,B,mo,_,c,k,R,I,N,hs,hd,ef,ok,hk,λO H2 e1 x e f2 r2 p2 k2 n2=>?_⟩;have G:=J.mono e;have lo:=T.ul;refine⟨B.uw,_,_,Y,Y,G.uw,JI (by rw[ZA];omega),?_⟩;refine fld_in B.uw _ λH3 g x3=>?_;have M:=N.push e r2 f2 g x3;obtain⟨J2,M2,D,_⟩:=id M.ws;have eu:S.u++[⟨O.n,O.F,I.2,[]⟩]=S.u++[(⟨O.n,O.F,I.2,[]⟩:UE)]:=rfl;obtain⟨o,_⟩:=M.us c.length O ⟨O.n,O.F,I.2,[]⟩ (by rw[vb (ZG _),vt];rfl) (by show(S.u++ _)[_]?=_;rw[lo,vb<|ZG _,vt];rfl);have U:=UM g G.uw;exists CW,_,_,_,D.ins,Z.cl,Z.uw,Wv _,1,Y,_,V.ref O.t,Z3 D.uw,by rw[ZK];exact Tl _ _,_,_,o.gm.ins,AX _;refine⟨l,b,j,d,z,avW bw B,O,I.2,R.pl,R.ρ,S.s,m,r,l',s',o,U _ _ p2,k2.lb G.uw g,n2,by rw[e1,x];exact gs,T.l3,λv H4 f4 r4 hv=>?_⟩;refine q v O H4 ?_ hv;have:=M.run (u:=S.u) rfl f4 r4 ls;rw[e1,x]at this;exact this
 .obtain ⟨nK,hK,ws,_⟩:=id T.ws
  refine⟨CW,_,_,_,ws.ins,Z.cl,Z.bg,Dl _,CW,_,_,_,ws.ins,Z.cl,Z.mo,QR _,Y,_,Y,VF (by simp) ⟨sl 1,λt ht=>?_⟩⟩;refine up_in ht _ λH1 s1 y=>q t H1 s1 y
def upH(bw:Bool)(k:Nat)(t:Str)(S:WSt):WSt:=if bw=true then{S with h:=S.h++[(k,t)]}else S
inductive OG(bw:Bool)(P:Program)(w:World)(C CK CG CO CW:Addr)(H:Hp)(Q:VK):List V->Prop
 |mk (Hm:Hp) (A:GA) (ks:List (Str×Shp)) (d:Str->Nat) (ds:List Dd) (B:WA) (mo:Nat) (S:WSt) (Os:List OM) (k:Nat) (y:V) (t:Str) (wk:WK bw P w Hm H C CK CG CO CW A ks d ds B mo S Os) (hy:Has H y (hdT t)) (nk:bw=true->k∉S.h.map (·.1)/\S.h.length<=900)
  (q:∀H',TK H H'->WK bw P w Hm H' C CK CG CO CW A ks d ds B mo (upH bw k t S) Os->Q .non H'):OG bw P w C CK CG CO CW H Q [.ref B.t,.int (k:Nat),y]
def Xj(bw:Bool)(P:Program)(w:World)(C CK CG CO CW:Addr):Sp:=λZ H Q _=>OG bw P w C CK CG CO CW H Q Z
def V8{Z:kJ}{J:List Nat}(h:Z.map (·.1)=J.map kK)(n:k∉J):VC Z (kK k)=none/\putK Z (kK k) v=Z++[(kK k,v)]:=by
 have a:(Z.any λL=>decide<|L.1=kK k)=false:=by
  rw[qR];intro p M z;have:p.1∈Z.map (·.1):=qL M;rw[h]at this;obtain⟨j,G,e⟩:=ZW.mp this;have N:kK j=kK k:=e.trans<|Zt z;have:(j:Int)=k:=Sum.inl.inj N;rw[show j=k by omega]at G;exact n G
 refine⟨?_,by unfold putK;rw[a];rfl⟩;rw[JS]at a
 cases e:VC Z (kK k)with
 |none=>rfl
 |some _=>rw[e]at a;cases a
def KZ(R:WCl K CW)(F:Fun K "end" "Walk.end" SG f g):Ye P w K b base CX0 (n+1) f g ["self","number","head"] (Xj true P w C CK CG CO CW):=by
 refine F.oi Sl λp A J s H v Q E U h=>?_;obtain⟨Hm,A',i,d,ds,B,l,S,Os,k,y,t,M,D,G,q⟩:=h;obtain⟨G,o⟩:=G rfl;have I:=JA U;exists _,YZ<|Vf I (Ym (pv 0) rfl) (pv 1) (pv 2) rfl;dsimp only[VY,Cx.nox,Cx.wish];obtain⟨r,m,Z,N,_⟩:=id M.ws;have L:m.map (·.1)=(S.h.map (·.1)).map kK:=by rw[N.1,ve];rfl
 have X:=congrArg List.length N.1;rw[ZA,ZA]at X;refine⟨CW,_,_,_,Z.ins,R.cl,R.hs,Dk _,_,Je.k (k:=kK k) (Z.hs Y)<|Yu<|by omega,?_⟩;refine fld_in B.hs _ λc O T=>?_;refine q c (λa u e=>O _ _ (Yy e (Z.hs Y) (by intro z;cases z)) e)<|M.hd (y:=y) (t:=t) O D λj e x=>?_;rw[Z.hs rfl]at e;cases e;rw[T,(V8 L G).2]
def Sz:Yh ["self","number","head"] ["self","number","head"] (Yd Ar):=Y2
def Pd(F:Fun K "end" "Doing.end" Ar f G):Ye P w K R base CX0 (n+1) f G ["self","number","head"] (Xj false P w C CK CG CO CW):=by
 refine F.oi Sz λL A Z s H M Q E I h=>?_;obtain⟨j,z,T,d,U,B,O,S,X,k,y,t,J,D,N,q⟩:=h;exists _,YZ<|O4;exact q H (λ_ _ e=>e) J
def yr:List.Nodup [("going":Str)]:=by decide +kernel
def C8:List.Nodup [("other":Str),"self"]:=by decide +kernel
inductive SRF(P:Program)(w:World)(C CK CG CO CW:Addr)(H:Hp)(Q:VK):List V->Prop
 |mk (Hm:Hp) (A:GA) (ks:List (Str×Shp)) (d:Str->Nat) (ds:List Dd) (B:WA) (mo:Nat) (S:WSt) (Os:List OM) (k i:Nat) (wk:WK true P w Hm H C CK CG CO CW A ks d ds B mo S Os) (lu:S.u.length<=9000) (hi:(S.u.map (·.k))[i]?=some k) (hn:∀j u,j<i->(S.u.map (·.k))[j]?=some u->u≠k)
  (q:∀p vs H',Same H H'->H p=none->H' p=some (.lst vs)->HasL H' vs ((S.u.drop i).map λe=>bD S.s.1 e.k)->Q (.ref p) H'):SRF P w C CK CG CO CW H Q [.ref B.t,.int (k:Nat)]
def Sb(P:Program)(w:World)(C CK CG CO CW:Addr):Sp:=λZ H Q _=>SRF P w C CK CG CO CW H Q Z
def Ct(TW:WCl K CW)(TO:OCl K CO)(F:Fun K "ring_from" "Walk.ring_from" WE f fd)(m:VI K CW "birth_of" g)(G:Ye P w K mg base CX0 n g gd sn (R0 P w CG CW))(bG:Binds K gd sn []):Ye P w K mg base CX0 (n+1) f fd sn (Sb P w C CK CG CO CW):=by
 refine F.oi CN λR3 A X s H vs Q E hr h=>?_;obtain⟨Hm,A',ks,d,ds,B,mo,S,Os,k,i,J,lu,l,hn,q⟩:=h;refine⟨_,YY (MU (i0:=2) ["going"] [] CN.nd Y (Or.inl Y) (Ju<|Ym (pv 0) rfl) (Vm (i:=0)<|by decide) (λcl C T s H=>Yl 0 yr rfl (Or.inl rfl) (Or.inr rfl)) (λcl C T s H=>EA K (pv 0) rfl))
  (YZ<|Yi<|V6 ["other"] [0] (Ju<|Vy Xm (pv 2) (JE<|Uw Zz PySem.F.slot_list_index PySem.F.type_list_index AV (pv 2)<|pa1<|pv 1) JV) (Vm (i:=0)<|by decide) (λcl C T s H=>Yl 0 C8 rfl (Or.inl rfl) (Or.inr rfl)) λcl C T s H=>Y4 (pv 1) TW.cl m G hr bG .nil Y3<|pa1<|pv 0),?_⟩
 dsimp only[VY,Cx.nox,Cx.wish];show let T0:=_;Yk _ T0 _ _ _
 intros
 obtain⟨nK,hK,I,_⟩:=id J.ws;have lo:=J.ul;exists CW,_,_,_,I.ins,TW.cl,TW.uw,Wv _,⟨_,Z3 I.uw⟩;refine L0 (us:=Os) (D:=λO=>.ref O.t) (E:=λO=>.int (O.n:Nat)) (itl<|Z3 I.uw) (by omega) (λO R m o=>?_) λp H1 T s1 N=>?_
 .obtain ⟨e,r⟩:=J.get m
  exact⟨CO,_,_,_,r.gm.ins,TO.cl,TO.nu,NP _,o⟩
 rw[J.nums]at N;have M:=J.mono s1;obtain⟨M2,R1,G2,_⟩:=id M.ws;have il:=(ZF.mp l).1;rw[ZA]at il;rw[ZH]at l;obtain⟨ei,b,G1⟩:=Zj.mp l;exists .inl ⟨Y,_,Z3 N⟩,p,_,_,.int (k:Nat),i,Y,Y,Z3 N,Y,?_,by rw[ZH,b];exact congrArg (λn:Nat=>some<|V.int n) G1,by simp[eqV],λj u hj hu=>?_
 .rw [qf]
  intro v z;obtain⟨e,_,rfl⟩:=ZW.mp z
  rfl
 .rw [ZH]at hu
  obtain⟨e,he,rfl⟩:=Zj.mp hu;have:=hn j e.k hj (by rw[ZH,he];rfl);simp[eqV];omega
 refine⟨(i:Int),Y,p,_,Y,Z3 N,λt ht=>?_⟩;refine up_in ht _ λH2 U a=>?_
 have ec:UW (S.u.map λe=>V.int (e.k:Nat)) (some (i:Int)) none=(S.u.drop i).map λe=>V.int (e.k:Nat):=by
  unfold UW;rw[HT.sIx_nat,HT.sIx_none,ZA,vR<|Zh il,List.map_drop,Zg (by rw[jk,ZA];exact ZG _)]
 rw[ec]at a;exists ⟨_,Z3 a⟩;have Z:=M.mono U;obtain⟨G3,O1,L,_⟩:=id Z.ws;refine Nd (us:=S.u.drop i) (D:=λe=>.int (e.k:Nat)) (E:=λe=>bD S.s.1 e.k) (itl<|Z3 a) ?_ (by rw[jk];omega) (λe x R m hx o=>?_) λvs p2 H3 J2 s3 c y=>?_
 .exact RH _
 .have:x=.int (e.k:Nat):=by unfold Has at hx;exact hx
  subst this;exact⟨_,_,L.ins,Fj _,.num A' B _ _ S.s.1 S.s.2 (avW true B) e.k L.ins J.gr Z.mx.gg (Z.le<|jW m) λv z=>o v z⟩
 .exact q p2 vs H3 ((s1.trans U).trans s3) ((s1.trans U).free J2) c y
end
end K4
namespace L2
open PySem
def Jn(u:List UE):Option Nat:=u.getLast?.map (·.k)
def upW(bw:Bool)(k:Nat)(S:WSt):WSt:=if bw=true then{S with r:=S.r++[(k,Jn S.u)],wc:=S.wc+1}else S
inductive WC(bw:Bool)(ds:List Dd)(gs:List Str)(mo n k:Nat)(S:WSt)(Tk:Str->Prop)(Rg:List Dat->Prop)(Dr:WSt->Prop)(Go:WSt->Stp->Prop):Prop
 |tkn (hb:bw=true) (t:Str) (h:S.h.lookup k=some t) (q:Tk t)
 |ring (hb:bw=true) (i:Nat) (nh:k∉S.h.map (·.1)) (m:k∈S.r.map (·.1)) (hi:(S.u.map (·.k))[i]?=some k) (hn:∀j u,j<i->(S.u.map (·.k))[j]?=some u->u≠k) (q:Rg ((S.u.drop i).map λe=>bD S.s.1 e.k))
 |dry (m:bw=true->k∉S.h.map (·.1)/\k∉S.r.map (·.1)) (e:S.bg=mo) (q:Dr (upW bw k S))
 |go (sta:Sta) (df:Dd) (j:Nat) (r:Stp) (l':List WEn) (s':Ss) (m:bw=true->k∉S.h.map (·.1)/\k∉S.r.map (·.1)) (hs:S.s.2 k=some sta) (hd:df∈ds) (ef:df.1.1=sta.f) (ok:df.2.ok) (hk:k<=S.s.1.length) (lt:S.bg<mo) (gs:Gos ds gs sta.f df.2 k n j (.body sta.pl sta.ρ) [] S.s r l' s') (ls:S.s.1.length<=s'.1.length)
   (q:Go {upW bw k S with u:=S.u++[⟨k,sta.f,df.2,l'⟩],bg:=S.bg+1,s:=s'} r)
def WC.mono{R Z:Str->Prop}{T J:List Dat->Prop}{D L:WSt->Prop}{B G:WSt->Stp->Prop}(c:WC bw u O mo n k S R T D B)(d:∀t,R t->Z t)(p:∀r,T r->J r)(g:∀s,D s->L s)(z:∀s r,B s r->G s r):WC bw u O mo n k S Z J L G:=by
 cases c with
 |tkn N t h q=>exact .tkn N t h<|d _ q
 |ring N i A m y P q=>exact .ring N i A m y P<|p _ q
 |dry m e q=>exact .dry m e<|g _ q
 |go M v j r C E m X hd f F Q I O U q=>exact .go M v j r C E m X hd f F Q I O U<|z _ _ q
theorem LQ{H:Hp}:∀{G:kJ}{h:List (Nat×Str)}{k:Nat}{t:Str},HdV H G h->h.lookup k=some t->∃v,VC G (kK k)=some v/\Has H v (hdT t)
 |[],[],k,t,_,e=>by simp at e
 |[],_::_,k,t,h,e=>by have:=h.1;simp at this
 |_::_,[],k,t,h,e=>by have:=h.1;simp at this
 |(k1,v1)::G,(L,t2)::h,k,t,hv,e=>by
  obtain⟨M,J⟩:=hv;rw[ZV,ZV]at M J;have Z:=List.cons.inj M;unfold HasL at J;rw[vi]at e
  by_cases z:k=L
  .subst z
   rw[beq_self_eq_true]at e;cases e;exact⟨v1,Vh Z.1,J.1⟩
  .rw [beq_eq_false_iff_ne.mpr z]at e
   obtain⟨v,O,N⟩:=LQ ⟨Z.2,J.2⟩ e;refine⟨v,(Vn λq=>z ?_).trans O,N⟩;have:(L:Int)=k:=Sum.inl.inj<|Z.1.symm.trans q;omega
def WK.insB(k:WK bw P w L H C M CG CO CW A J d G B Z S Os):H B.t=some (.ins CW B.dx<|Vt bw B (Z:Nat) (S.bg:Nat)):=let⟨_,_,h,_⟩:=k.ws;h.ins
def MS(r:List (Nat×Option Nat)):(rK r).map (·.1)=(r.map (·.1)).map kK:=by unfold rK;rw[ve,ve];rfl
def OS(h:Z.map (·.1)=(l:List Nat).map kK)(m:k∈l):(VC (Z:kJ)<|kK k).isSome=true:=by
 rw[<-JS,jT];have:kK k∈Z.map (·.1):=by rw[h];exact qL m
 obtain⟨p,J,e⟩:=ZW.mp this;exact⟨p,J,decide_eq_true e⟩
def Pr{c A B:Prop}[Decidable c](J:c->A)(Z:¬c->B):if c then A else B:=by
 by_cases h:c
 .rw [Zp h];exact J h
 .rw [Zq h];exact Z h
def Iu:(rK r).length=r.length:=by unfold rK;rw[ZA]
def G8(h:S.u=u++[e]):Jn (S:WSt).u=some e.k:=by unfold Jn;rw[h,List.getLast?_concat];rfl
end L2
namespace K4
open PySem L2
section
variable{C CK CG CO CW CD:Addr}
def N8:Yh ["self","number","wanter"] sn (Yd Fk):=Y2
inductive OE(bw:Bool)(P:Program)(w:World)(C CK CG CO CW:Addr)(n:Nat)(H:Hp)(Q:VK):List V->Prop
 |mk (Hm:Hp) (A:GA) (ks:List (Str×Shp)) (d:Str->Nat) (ds:List Dd) (B:WA) (mo:Nat) (S:WSt) (Os:List OM) (k:Nat) (wk:WK bw P w Hm H C CK CG CO CW A ks d ds B mo S Os) (hw:bw=true->(∀e∈S.u,e.k∈S.r.map (·.1))/\S.r.length<=900/\S.wc<=9000) (lu:S.u.length<=9000)
  (c:WC bw ds A.gs mo n k S (λt=>∀v y H',WK bw P w Hm H' C CK CG CO CW A ks d ds B mo {S with wc:=S.wc+1} Os->H' v=some (.tup [.str "taken",y])->Has H' y (hdT t)->Q (.ref v) H')
   (λrs=>∀t p vs H',WK bw P w Hm H' C CK CG CO CW A ks d ds B mo {S with wc:=S.wc+1} Os->H' t=some (.tup [.str "ring",.ref p])->Hm p=none->H' p=some (.lst vs)->HasL H' vs rs->Q (.ref t) H')
   (λS'=>∀t H',WK bw P w Hm H' C CK CG CO CW A ks d ds B mo S' Os->H' t=some (.tup [.str "dry"])->Q (.ref t) H')
   (λS' r=>∀v O H',WK bw P w Hm H' C CK CG CO CW A ks d ds B mo S' (Os++[O])->r.on A (avW bw B) H' v->Q v H')):OE bw P w C CK CG CO CW n H Q [.ref B.t,.int (k:Nat)]
def Xi(bw:Bool)(P:Program)(w:World)(C CK CG CO CW:Addr)(n:Nat):Sp:=λZ H Q _=>OE bw P w C CK CG CO CW n H Q Z
def Ka(B':Blt mg)(J:WCl K CW)(TO:OCl K CO)(F:Fun K "want" "Walk.want" Fk f fd)(m:VI K CW "go_into" g)(G:Ye P w K mg base CX0 L g gd sn (Gi true P w C CK CG CO CW n))(bG:Binds K gd sn [])(mR:VI K CW "ring_from" gR)(GR:Ye P w K mg base CX0 L gR gRd sn (Sb P w C CK CG CO CW))(bR:Binds K gRd sn []):Ye P w K mg base CX0 (L+1) f fd sn (Xi true P w C CK CG CO CW n):=by
 refine F.oi N8 λR5 A G3 s H vs Q E hr h=>?_;obtain⟨Hm,A',ks,d,ds,B,mo,S,Os,k,wk,hw,lu,c⟩:=h;obtain⟨hw,lr,lw⟩:=hw rfl;have hu:=JA hr;refine⟨_,YY (Yx 2 N8.nd<|Vi)
  (YY (Y5 (Ys Xt (VB Y8 rfl B'.len Zu (pa1<|Ym (pv 0) rfl)) Ya<|Y0 _) (YY (Yx 2 N8.nd<|Ym (Yr VH (Ym (pv 0) rfl)<|NF Gc Ya) rfl)
  (YZ<|Y5 (Ys JX (pv 1) (Vl hu (Ym (pv 0) rfl) (pv 2) λ_ _=>rfl) rfl) (YZ<|VS<|Uw Zz Z0 Z1 JR (Vl hu (Ym (pv 0) rfl) (pv 2) λ_ _=>rfl)<|pa1<|pv 1) Yp)) Yp)
  (YY (Y5 (Jp<|Ux hu (pv 1)<|Ym (pv 0) rfl) (YZ<|Yi<|Yj<|pa2 (Yw)<|Vl hu (Ym (pv 0) rfl) (pv 1) λ_ _=>rfl) Yp)
  (YY (Y5 (Jp<|Ux hu (pv 1)<|Ym (pv 0) rfl) (YZ<|Yi<|Yj<|pa2 (Yw)<|Y4 (pv 0) J.cl mR GR hr bR .nil Y3<|pa1<|pv 1) Yp)
  (YY (Vf hu (Ym (pv 0) rfl) (pv 1) (pv 2) rfl)
  (YY (Vf hu (Ym (pv 0) rfl) (pv 1) (JJ VR) rfl)
  (YZ<|Yi<|Y4 (pv 0) J.cl m G hr bG .nil Y3<|pa1<|pv 1)))))),?_⟩
 dsimp only[VY,Cx.nox,Cx.wish];show let T0:=_;let T1:=Yk _ T0;let T2:=Yk _ T1;let T3:=_;let T4:=Yk (VE _ T3 _) T2;let T5:=_;let T6:=Yk (VE _ T5 _) T4;let T7:=_;let T8:=VE _ T7 _;let T9:=Yk _ T8;let R3:=Yk (VE _ T9 _) T6;Yk _ R3 _ _ _
 intros
 have lo:=wk.ul;refine OC ?_;refine XA (λU H'=>∃H1,U=[some (.ref B.t),some<|.int (k:Nat),some (oV<|Jn S.u)]/\WK true P w Hm H' C CK CG CO CW A' ks d ds B mo {S with wc:=S.wc+1} Os/\H1=H') ?_ ?_
 .rintro U H1 ⟨_,rfl,wk1,-⟩
  obtain⟨nK,hK,Z,h2,h3,h4⟩:=id wk1.ws;have R1:hK.map (·.1)=(S.h.map (·.1)).map kK:=by rw[h2.1,ve];rfl
  exists CW,_,_,_,Z.ins,J.cl,J.hs,Dk _,_,Vd.k (k:=kK k)<|Z.hs rfl,_,rfl;have vh:k∉S.h.map (·.1)->VC hK (kK k)=none:=λa=>(V8 (v:=.non) R1 a).1
  cases c with
  |tkn hb t e q=>
   obtain⟨y,e1,e2⟩:=LQ h2 e;refine VF (by rw[e1];rfl) ?_;have dg:=Vd.k (k:=kK k)<|Z.hs rfl;rw[e1]at dg;refine⟨CW,_,_,_,Z.ins,J.cl,J.hs,Dk _,_,dg,sl 2,λv hv=>?_⟩;exact up_in hv _ λH3 R g3=>q v y H3 (wk1.mono R) g3<|e2.mono R
  |ring hb i a m hi hn q=>
   refine Y1 (by rw[vh a];decide) ?_;exists CW,_,_,_,Z.ins,J.cl,J.wr,Ts _,_,Vd.k (k:=kK k)<|Z.wr rfl,_,rfl;refine VF (by rw[OS (MS _) m]) ?_;refine⟨_,_,Z.ins,A1 _,Hm,A',ks,d,ds,B,mo,_,Os,k,i,wk1,lu,hi,hn,λp vs H2 s2 fp hp hv=>⟨sl 2,λt ht=>?_⟩⟩;refine up_in ht _ λH3 R g3=>q t p vs H3 (wk1.mono<|s2.trans R) g3 (wk1.mx.sm.free fp) (R _ _ hp)<|hv.mono R
  |dry m e q=>
   obtain⟨a,m⟩:=m rfl;refine Y1 (by rw[vh a];decide) ?_;exists CW,_,_,_,Z.ins,J.cl,J.wr,Ts _,_,Vd.k (k:=kK k)<|Z.wr rfl,_,rfl;obtain⟨vr,pr⟩:=V8 (v:=oV<|Jn S.u) (MS S.r) m;refine Y1 (by rw[vr];decide) ?_;refine⟨CW,_,_,_,Z.ins,J.cl,J.wr,Ts _,_,Je.k (k:=kK k) (Z.wr Y)<|Yu (by rw[Iu];exact Zb lr<|by decide),?_⟩;rw[pr];refine fld_in B.wr _ λH2 b2 x2=>⟨sl 0,λl u=>?_⟩;refine up_in u _ λH3 R g3=>?_;have x:=R _ _<|b2 _ _ (Yy Z.ins (Z.wr rfl) (by intro z;cases z)) Z.ins;have D:=R _ _<|b2 _ _ (wk1.wf.d1 rfl).symm<|Z.wn rfl;have e3:rK (S.r++[(k,Jn S.u)])=rK S.r++[(kK k,oV<|Jn S.u)]:=by unfold rK;rw[ZK];rfl
   have T:=congrArg List.length h3;rw[ZA,ZA]at T;refine⟨CW,_,_,_,x,J.cl,J.wn,Dj _,_,Je.k (k:=kK k) D<|Yu (by rw[T];exact Zb lr<|by decide),?_⟩;have n3:=(V8 (v:=.ref l) (h3.trans (by rw[ve];rfl):nK.map (·.1)=(S.r.map (·.1)).map kK) m).2;rw[n3];refine fld_in B.wn _ λH5 b5 x5=>?_
   have M:=wk1.wn (c:=k) (o:=Jn S.u) (l:=l) b2 (by rw[e3];exact x2) u R g3 b5 λM2 e=>by
    rw[D]at e;cases e;exact x5
   exists _,_,(M.insB),Fi _;have e':mo=({S with r:=S.r++[(k,Jn S.u)],wc:=S.wc+1}:WSt).bg:=e.symm;rw[e']at M;exact .dry Hm A' ks d ds B _ Os k M λt H6 s6 g6=>q t H6 (by rw[e'];exact M.mono s6) g6
  |go G2 df j r l' s' m hs hd ef ok hk lt gs ls q=>
   obtain⟨a,m⟩:=m rfl;refine Y1 (by rw[vh a];decide) ?_;exists CW,_,_,_,Z.ins,J.cl,J.wr,Ts _,_,Vd.k (k:=kK k)<|Z.wr rfl,_,rfl;obtain⟨vr,pr⟩:=V8 (v:=oV<|Jn S.u) (MS S.r) m;refine Y1 (by rw[vr];decide) ?_;refine⟨CW,_,_,_,Z.ins,J.cl,J.wr,Ts _,_,Je.k (k:=kK k) (Z.wr Y)<|Yu (by rw[Iu];exact Zb lr<|by decide),?_⟩;rw[pr];refine fld_in B.wr _ λH2 b2 x2=>⟨sl 0,λl u=>?_⟩;refine up_in u _ λH3 R g3=>?_;have x:=R _ _<|b2 _ _ (Yy Z.ins (Z.wr rfl) (by intro z;cases z)) Z.ins;have D:=R _ _<|b2 _ _ (wk1.wf.d1 rfl).symm<|Z.wn rfl;have e3:rK (S.r++[(k,Jn S.u)])=rK S.r++[(kK k,oV<|Jn S.u)]:=by unfold rK;rw[ZK];rfl
   have T:=congrArg List.length h3;rw[ZA,ZA]at T;refine⟨CW,_,_,_,x,J.cl,J.wn,Dj _,_,Je.k (k:=kK k) D<|Yu (by rw[T];exact Zb lr<|by decide),?_⟩;have n3:=(V8 (v:=.ref l) (h3.trans (by rw[ve];rfl):nK.map (·.1)=(S.r.map (·.1)).map kK) m).2;rw[n3];refine fld_in B.wn _ λH5 b5 x5=>?_
   have M:=wk1.wn (c:=k) (o:=Jn S.u) (l:=l) b2 (by rw[e3];exact x2) u R g3 b5 λM2 e=>by
    rw[D]at e;cases e;exact x5
   exists _,_,(M.insB),Fi _;exact .go Hm A' ks d ds B mo _ Os k G2 df j r l' s' M hs hd ef ok hk lt lu gs ls q
 .intro N hN
  obtain⟨nK,hK,b,h2,h3,h4⟩:=id wk.ws;exists CW,_,_,_,b.ins,J.cl,J.uw,Wv _,B.uw,_,Y,.inl<|Z3 b.uw,_,rfl
  by_cases u0:S.u=[]
  .have o0:Os=[]:=vj (by rw[lo,u0];rfl)
   refine Y1 (by rw[o0];decide)<|hN _ _ ⟨H,?_,wk.wc,rfl⟩;unfold Jn;rw[u0]
   rfl
  .have ne:Os≠[]:=λz=>u0<|vj (by rw[<-lo,z];rfl)
   obtain⟨I,O,rfl⟩:∃I O,Os=I++[O]:=⟨_,_,(vw ne).symm⟩;obtain⟨u',e,eu⟩:∃u' e,S.u=u'++[e]:=⟨_,_,(vw u0).symm⟩
   have ll:I.length=u'.length:=by
    rw[eu,ZL,ZL]at lo;simpa using lo
   have us:=wk.us I.length O e (by rw[vb (ZG _),vt];rfl) (by rw[eu,ll,vb<|ZG _,vt];rfl);have ek:=G8 eu;have em:=hw e (by rw[eu];exact ZU _<|ZQ.mpr rfl);refine VF (by rw[ZA,ZL,vc];exact decide_eq_true<|by omega) ?_;exists CW,_,_,_,b.ins,J.cl,J.uw,Wv _,1,Y,_,V.ref O.t,Z3 b.uw,by rw[ZK];exact Tl _ _,CO,_,_,_,us.1.gm.ins,TO.cl,TO.nu,NP _;obtain⟨v,hv,u⟩:=SA h4 h3 em;obtain⟨l,xs,rfl,X,O1,T,R4⟩:=id u;rw[us.2.1];have dg:=Vd.k (k:=kK e.k)<|b.wn rfl;rw[hv]at dg;exists CW,_,_,_,b.ins,J.cl,J.wn,Dj _,_,dg;exists l,xs,Y,.inl<|Z3 X,rfl,O1,_,rfl;have J2:∀{H':Hp},WK true P w Hm H' C CK CG CO CW A' ks d ds B mo {S with wc:=S.wc+1} (I++[O])->N [some (.ref B.t),some<|.int (k:Nat),some (.int (e.k:Nat))] H':=λG1=>hN _ _ ⟨_,by rw[ek];rfl,G1,rfl⟩;refine Pr (λ_=>?_) λ_=>J2 wk.wc;refine⟨CW,_,_,_,b.ins,J.cl,J.wn,Dj _,_,dg,.inl ⟨Y,_,Z3 X⟩,l,_,_,Y,Y,X,JI<|by omega,?_⟩;refine fld_in l _ λH1 b1 x1=>J2<|wk.wl u X b1 x1 rfl
def Ou:Yh sn sn (Yd Lw):=Y2
def Kp(TW:DCl K CW)(F:Fun K "want" "Doing.want" Lw f fd)(m:VI K CW "go_into" g)(G:Ye P w K p base CX0 L g gd sn (Gi false P w C CK CG CO CW n))(bG:Binds K gd sn []):Ye P w K p base CX0 (L+1) f fd sn (Xi false P w C CK CG CO CW n):=by
 refine F.oi Ou λJ2 A M s H vs Q E i h=>?_;obtain⟨D,I,O,d,R,B,z,S,T,k,Z,hw,u,c⟩:=h;exists _,YZ<|Yi<|Y4 (pv 0) TW.cl m G i bG .nil Y3<|pa1<|pv 1;exists _,_,Z.insB,Fi _
 cases c with
 |tkn N=>cases N
 |ring N=>cases N
 |dry m e q=>
  rw[<-e]at Z;exact .dry D I O d R B _ T k Z λt H6 U g6=>q t H6 (by rw[<-e];exact Z.mono U) g6
 |go J df j r b X m o hd ef y a v x l q=>exact .go D I O d R B z _ T k J df j r b X Z o hd ef y a v u x l q
end
end K4
namespace L2
open PySem
inductive J8 where
 |st (x:Stp)|taken (t:Str)|hd (t:Str)|ring (rs:List Dat)|dry
def J8.on(Hm:Hp)(A:GA)(av:Addr->Prop)(H:Hp)(v:V):J8->Prop
 |.st x=>x.on A av H v
 |.taken t=>Has H v<|.tup [.str "taken",hdT t]
 |.hd t=>Has H v<|.tup [.str "head",hdT t]
 |.ring rs=>∃t p vs,v=.ref t/\H t=some (.tup [.str "ring",.ref p])/\Hm p=none/\H p=some (.lst vs)/\HasL H vs rs
 |.dry=>∃t,v=.ref t/\H t=some (.tup [.str "dry"])
def Wlk(bw:Bool)(ds:List Dd)(gs:kC)(mo n:Nat):Nat->J8->WSt->J8->WSt->Prop
 |0,_,_,_,_=>False
 |j+1,x,S,R,SR=>match x with
  |.ring rs=>R=.ring rs/\SR=S
  |.dry=>R=.dry/\SR=S
  |.st (.want k)=>(bw=true->(∀e∈S.u,e.k∈S.r.map (·.1))/\S.r.length<=900/\S.wc<=9000)/\S.u.length<=9000/\WC bw ds gs mo n k S (λt=>Wlk bw ds gs mo n j (.taken t) {S with wc:=S.wc+1} R SR) (λrs=>Wlk bw ds gs mo n j (.ring rs) {S with wc:=S.wc+1} R SR) (λS'=>Wlk bw ds gs mo n j .dry S' R SR) (λS' r=>Wlk bw ds gs mo n j (.st r) S' R SR)
  |.st (.head t)=>∃u e,S.u=u++[e]/\(bw=true->e.k∉S.h.map (·.1)/\S.h.length<=900)/\Wlk bw ds gs mo n j (.taken t) (K4.upH bw e.k t {S with u:=u}) R SR
  |.taken t=>(S.u=[]/\R=.hd t/\SR=S) \/ ∃u e m r l' s',S.u=u++[e]/\Gos ds gs e.F e.b e.k n m (.head t) e.l S.s r l' s'/\S.s.1.length<=s'.1.length/\Wlk bw ds gs mo n j (.st r) {S with u:=u++[{e with l:=l'}],s:=s'} R SR
  |_=>False
def A7(b:SameB p H G)(h:H p=some (.dK J)):TL H G:=⟨λa Z e=>b _ _ (Yy e h (by intro z;cases z)) e,λa Z e=>b _ _ (Yy e h (by intro z;cases z)) e⟩
def owD(cs:List Mk1):Option Nat->Dat
 |none=>.non
 |some j=>bD cs j
def dnL(S:WSt):kQ:=S.h.map λp=>.tup [bD S.s.1 p.1,owD S.s.1 ((S.r.lookup p.1).getD none)]
structure Ay(S:WSt):Prop where
 ok:∀k∈S.h.map (·.1),k<=S.s.1.length/\∃o,S.r.lookup k=some o/\∀j,o=some j->j<=S.s.1.length
 l:S.h.length<=900
theorem Ir:∀(r:List (Nat×Option Nat)){k:Nat}{o:Option Nat},r.lookup k=some o->VC (rK r) (kK k)=some (oV o)
 |[],_,_,h=>by simp at h
 |p::r,k,o,h=>by
  rw[vi]at h
  by_cases z:k=p.1
  .subst z
   rw[beq_self_eq_true]at h;cases h;exact Vh Y
  .have zb:(k==p.1)=false:=beq_eq_false_iff_ne.mpr z
   rw[zb]at h;refine(Vn λq=>z ?_).trans<|Ir r h;have:(p.1:Int)=k:=Sum.inl.inj q;omega
def J8.dat:J8->Dat
 |.ring rs=>.tup [.str "ring",.lst rs]
 |.hd t=>.tup [.str "worth",.str t]
 |_=>.tup [.str "dry"]
def J8.out(Hm H:Hp)(v:V):J8->Prop
 |.ring rs=>∃t p vs,v=.ref t/\H t=some (.tup [.str "ring",.ref p])/\Hm p=none/\H p=some (.lst vs)/\HasL H vs rs
 |.hd t=>Has H v<|.tup [.str "worth",.str t]
 |_=>∃t,v=.ref t/\H t=some (.tup [.str "dry"])
end L2
namespace K4
open PySem L2
section
variable{C CK CG CO CW CD:Addr}
def A0(A:WA):(Vt bw A mo bg).lookup ("want":Str)=none:=by cases bw <;> rfl
def A3(A:WA):(Vt bw A mo bg).lookup ("end":Str)=none:=by cases bw <;> rfl
def A2(A:WA):(Vt bw A mo bg).lookup ("head_of_cell":Str)=none:=by cases bw <;> rfl
def Az(A:WA):(Vt bw A mo bg).lookup ("whole_of":Str)=none:=by cases bw <;> rfl
def zF(A:OM):(JY A).lookup ("take_head":Str)=none:=rfl
def Ex:Yh ["self","number","stop","ended"] sn (Yd XI):=Y2
inductive zq(bw:Bool)(P:Program)(w:World)(C CK CG CO CW:Addr)(n:Nat)(H:Hp)(Q:VK):List V->Prop
 |mk (Hm:Hp) (A:GA) (ks:List (Str×Shp)) (d:Str->Nat) (ds:List Dd) (B:WA) (mo:Nat) (S:WSt) (Os:List OM) (k j:Nat) (R:J8) (SR:WSt) (wk:WK bw P w Hm H C CK CG CO CW A ks d ds B mo S Os) (gs:Wlk bw ds A.gs mo n j (.st (.want k)) S R SR)
  (q:∀v Os' H',WK bw P w Hm H' C CK CG CO CW A ks d ds B mo SR Os'->((∃rs,R=.ring rs)\/R=.dry \/ ∃t,R=.hd t)->R.on Hm A (avW bw B) H' v->Q v H'):zq bw P w C CK CG CO CW n H Q [.ref B.t,.int (k:Nat)]
def Du(bw:Bool)(P:Program)(w:World)(C CK CG CO CW:Addr)(n:Nat):Sp:=λZ H Q _=>zq bw P w C CK CG CO CW n H Q Z
def Ko(B':Blt mg)(TW:DCl K CW)(TO:OCl K CO)(F:Fun K "head_of_cell" "Doing.head_of_cell" XI f fd)(m1:VI K CW "want" g1)(G1:Ye P w K mg base CX0 L g1 d1 sn (Xi bw P w C CK CG CO CW n))(b1:Binds K d1 sn [])(m2:VI K CW "end" g2)(G2:Ye P w K mg base CX0 L g2 d2 ["self","number","head"] (Xj bw P w C CK CG CO CW))(b2:Binds K d2 ["self","number","head"] [])(m3:VI K CO "take_head" g3)(G3:Ye P w K mg base CX0 L g3 d3 ["self","head"] (F0 P w C CK CG CO n))(b3:Binds K d3 ["self","head"] []):Ye P w K mg base CX0 (L+1) f fd sn (Du bw P w C CK CG CO CW n):=by
 refine F.oi Ex λD7 A R5 s H vs Q E hr h=>?_;obtain⟨Hm,A',ks,d,ds,B,mo,S,T,k,j,R,SR,M,N,q⟩:=h;refine⟨_,YY (Yx 2 Ex.nd<|Yj<|pa2 (Yw)<|pv 1)
  (YZ (G0 Zv (Vv XN) (YZ (Y5 (Ys Vc (Yr (r:=Vb K) Yt (pv 2)<|Ya) Yw<|Y0 _) (YZ<|Yx 2 Ex.nd<|Y4 (pv 0) TW.cl m1 G1 hr b1 .nil Y3<|pa1<|Yr (r:=Vb K) Yt (pv 2)<|Ya) (YZ (Y5 (Ys Vc (Yr (r:=Vb K) Yt (pv 2)<|Ya) Yw<|Y0 _) (YY (Yx 3 Ex.nd<|KO Zz PySem.F.slot_list_pop PySem.F.type_list_pop K6<|Ym (pv 0) rfl)
  (YY (VS<|Y4 (pv 0) TW.cl m2 G2 hr b2 .nil Y3<|pa2 (Ym (pv 3) rfl)<|Yr (r:=Vb K) Yt (pv 2)<|Ya)
  (YZ<|Yx 2 Ex.nd<|Yj<|pa2 (Yw)<|Yr (r:=Vb K) Yt (pv 2)<|Ya)))<|YZ<|Y5 (Ys UR (Yr (r:=Vb K) Yt (pv 2)<|Ya) Yw<|Y0 _) (YZ<|Yi<|pv 2)<|YZ<|Y5 (Ys Vc (VB Y8 rfl B'.len Zu (pa1<|Ym (pv 0) rfl)) Ya<|Y0 _) (YZ<|Yi<|Yj<|pa2 (Yw)<|Yr (r:=Vb K) Yt (pv 2)<|Ya)<|YZ<|Yx 2 Ex.nd<|Y4 (Yr VH (Ym (pv 0) rfl)<|NF Gc Ya) TO.cl m3 G3 hr b3 .nil Y3<|pa1<|Yr (r:=Vb K) Yt (pv 2)<|Ya)))))),?_⟩
 dsimp only[VY,Cx.nox,Cx.wish];show let T0:=_;let T1:=_;let T2:=Yk _ T1;let T3:=Yk _ T2;let T4:=_;let T5:=_;let T6:=_;let T7:=VE _ T5 T6;let T8:=VE _ T4 T7;let T9:=VE _ T3 T8;let D3:=VE _ T0 T9;let D2:=Rm _ D3;Yk _ D2 _ _ _
 intros
 refine⟨sl 2,λt0 R8=>?_⟩;refine up_in R8 _ λH0 s0 g0=>?_
 let W:kM:=λj U i=>∃x S T v z,U=[some (.ref B.t),some<|.int (k:Nat),some v,z]/\WK bw P w Hm i C CK CG CO CW A' ks d ds B mo S T/\x.on Hm A' (avW bw B) i v/\Wlk bw ds A'.gs mo n j x S R SR
 refine⟨W,⟨j,.st<|.want k,S,T,_,_,rfl,M.mono s0,Yo g0<|Z4 Yz<|Z5 (by unfold Has;rfl),N⟩,?_⟩;rintro j U H1 ⟨x,S,T,v,z,rfl,M,hv,N⟩;refine⟨true,Y,VF Y ⟨λU i=>∃j',j'<j/\W j' U i,λU' i z=>z,?_⟩⟩
 cases j with
 |zero=>unfold Wlk at N;exact N.elim
 |succ j=>
 unfold Wlk at N;obtain⟨nK,hK,a,h2,h3,h4⟩:=id M.ws;have lo:=M.ul
 cases x with
 |ring rs=>
  obtain⟨e1,D⟩:=N;subst e1 D;obtain⟨t,p,I,rfl,J,-⟩:=id hv;refine⟨_,_,Z2 J,at0,Y,_,Y,Y1 (by decide +kernel) ?_⟩;refine⟨_,_,Z2 J,at0,Y,_,Y,Y1 (by decide +kernel) ?_⟩;refine⟨_,_,Z2 J,at0,Y,_,Y,VF (by decide +kernel)<|q _ _ _ M (.inl ⟨_,rfl⟩) hv⟩
 |dry=>
  obtain⟨e1,D⟩:=N;subst e1 D;obtain⟨t,rfl,J⟩:=id hv;refine⟨_,_,Z2 J,at0,Y,_,Y,Y1 (by decide +kernel) ?_⟩;refine⟨_,_,Z2 J,at0,Y,_,Y,Y1 (by decide +kernel) ?_⟩;refine⟨_,_,Z2 J,at0,Y,_,Y,VF (by decide +kernel)<|q _ _ _ M (.inr<|.inl rfl) hv⟩
 |st y=>
  cases y with
  |want k'=>
   obtain⟨n1,n2,c⟩:=N;have X:Has H1 v (.tup [.str "want",.int (k':Nat)]):=hv;obtain⟨t,ys,rfl,J,hl⟩:=Yv X;obtain⟨x1,r1,rfl,e1,o⟩:=Yc hl;obtain⟨x2,r2,rfl,D,b⟩:=Yc o;obtain rfl:=VA b;obtain rfl:=has_str e1;obtain rfl:x2=.int (k':Nat):=by unfold Has at D;exact D
   refine⟨_,_,Z2 J,at0,Y,_,Y,VF (by decide +kernel) ?_⟩;refine⟨_,_,a.ins,A0 _,_,_,Z2 J,at1,Hm,A',ks,d,ds,B,mo,S,T,k',M,n1,n2,c.mono ?_ ?_ ?_ ?_⟩
   .exact λt g v y i G l R6=>⟨j,vf _,.taken t,_,T,_,_,rfl,G,Yo l<|Z4 Yz<|Z5 R6,g⟩
   .exact λrs g t p I i G l fp hp M2=>⟨j,vf _,.ring rs,_,T,_,_,rfl,G,⟨t,p,I,rfl,l,fp,hp,M2⟩,g⟩
   .exact λS' g t i G l=>⟨j,vf _,.dry,S',T,_,_,rfl,G,⟨t,rfl,l⟩,g⟩
   .exact λS' r g u O i G M2=>⟨j,vf _,.st r,S',_,_,_,rfl,G,M2,g⟩
  |head t=>
   obtain⟨u,e,eu,n1,g⟩:=N;have X:Has H1 v (.tup [.str "head",hdT t]):=hv;obtain⟨t',ys,rfl,J,hl⟩:=Yv X;obtain⟨x1,r1,rfl,e1,o⟩:=Yc hl;obtain⟨x2,r2,rfl,D,b⟩:=Yc o;obtain rfl:=VA b;obtain rfl:=has_str e1;have ne:T≠[]:=λz=>by rw[z,eu]at lo;simp at lo
   obtain⟨Z,O,rfl⟩:∃Z O,T=Z++[O]:=⟨_,_,(vw ne).symm⟩
   have ll:Z.length=u.length:=by
    rw[eu,ZL,ZL]at lo;simpa using lo
   have I:=M.us Z.length O e (by rw[vb (ZG _),vt];rfl) (by rw[eu,ll,vb<|ZG _,vt];rfl);refine⟨_,_,Z2 J,at0,Y,_,Y,Y1 (by decide +kernel) ?_⟩;refine⟨_,_,Z2 J,at0,Y,_,Y,VF (by decide +kernel) ?_⟩;have uw:=a.uw;rw[ZK]at uw;refine⟨CW,_,_,_,a.ins,TW.cl,TW.uw,Wv _,.inl ⟨Y,_,Z3 uw⟩,B.uw,_,_,Y,Y,uw,by rw[ZL,List.map_singleton,vc,Nat.add_sub_cancel,vb<|ZG _,vt];rfl,?_⟩;rw[List.map_singleton,List.dropLast_concat];refine fld_in B.uw _ λH2 b2 g2=>?_;have J2:=UM b2 a.uw;have R1:=M.pop eu b2 g2;have D0:=b2 _ _ (Yy I.1.gm.ins a.uw (by intro z;cases z)) I.1.gm.ins;exists _,_,R1.insB,A3 _,CO,_,_,_,D0,TO.cl,TO.nu,NP _,_,_,Z2<|J2 _ _ J,at1;rw[I.2.1];refine⟨Hm,A',ks,d,ds,B,mo,_,Z,e.k,x2,t,R1,VL J2 _ Mg D,n1,λH3 R3 R4=>?_⟩;refine⟨_,_,Z2<|R3 _ _<|J2 _ _ J,at1,sl 2,λt4 O1=>?_⟩;refine up_in O1 _ λH4 s4 g4=>?_;refine⟨j,vf _,.taken t,_,Z,_,_,Y,R4.mono s4,?_,g⟩;have ti:(hdT t).ti=true:=Mg;exact Yo g4<|Z4 Yz<|Z5<|(VL R3 _ ti<|VL J2 _ ti D).mono s4
  |body pl ρ=>exact N.elim
  |thing th=>exact N.elim
 |taken t=>
  have X:Has H1 v (.tup [.str "taken",hdT t]):=hv;obtain⟨t',ys,rfl,J,hl⟩:=Yv X;obtain⟨x1,r1,rfl,e1,o⟩:=Yc hl;obtain⟨x2,r2,rfl,D,b⟩:=Yc o;obtain rfl:=VA b;obtain rfl:=has_str e1;refine⟨_,_,Z2 J,at0,Y,_,Y,Y1 (by decide +kernel) ?_⟩;refine⟨_,_,Z2 J,at0,Y,_,Y,Y1 (by decide +kernel) ?_⟩;refine⟨_,_,Z2 J,at0,Y,_,Y,Y1 (by decide +kernel) ?_⟩;exists CW,_,_,_,a.ins,TW.cl,TW.uw,Wv _,B.uw,_,Y,.inl<|Z3 a.uw,rfl,_,rfl;rcases N with⟨u0,rfl,rfl⟩|⟨u,e,m,r,l',s',eu,D1,ls,g⟩
  .have o0:T=[]:=vj (by rw[lo,u0];rfl)
   refine VF (by rw[o0];decide) ⟨_,_,Z2 J,at1,sl 2,λt4 O1=>?_⟩;refine up_in O1 _ λH4 s4 g4=>?_;exact q _ _ _ (M.mono s4) (.inr<|.inr ⟨t,rfl⟩)<|Yo g4<|Z4 Yz<|Z5<|D.mono s4
  have ne:T≠[]:=λz=>by rw[z,eu]at lo;simp at lo
  obtain⟨Z,O,rfl⟩:∃Z O,T=Z++[O]:=⟨_,_,(vw ne).symm⟩
  have ll:Z.length=u.length:=by
   rw[eu,ZL,ZL]at lo;simpa using lo
  have I:=M.us Z.length O e (by rw[vb (ZG _),vt];rfl) (by rw[eu,ll,vb<|ZG _,vt];rfl);refine Y1 (by rw[ZA,ZL,vc];simp;omega) ?_;exists CW,_,_,_,a.ins,TW.cl,TW.uw,Wv _,1,Y,_,V.ref O.t,Z3 a.uw,by rw[ZK];exact Tl _ _,_,_,I.1.gm.ins,zF _,_,_,Z2 J,at1;refine⟨Hm,A',ks,d,ds,avW bw B,O,e.b,e.l,S.s,x2,t,m,r,l',s',I.1,D,by rw[I.2.1,I.2.2];exact D1,M.l3,λv i f rg R7=>?_⟩;exact⟨j,vf _,.st r,_,_,_,_,Y,M.run eu f rg ls,R7,g⟩
 |hd t=>exact N.elim
abbrev shd:kC:=["self","head"]
def yQ:Yh ["self","head","found","thing","told"] shd (Yd X5):=Y2
inductive zi(H:Hp)(Q:VK):List V->Prop
 |mk (z y:V) (t:Str) (hy:Has H y (hdT t)) (q:∀u H',Same H H'->Has H' u (.tup [.str "worth",.str t])->Q u H'):zi H Q [z,y]
def Dq:Sp:=λZ H Q _=>zi H Q Z
def KY(F:Fun K "whole_of" "Doing.whole_of" X5 f T):Ye P w K d base CX0 (n+1) f T shd Dq:=by
 refine F.oi yQ λI A Z s H m Q E u h=>?_;obtain⟨z,y,t,L,q⟩:=h;refine⟨_,YY (Y5 (Ys Vc (Yr (r:=Vb K) Yt (pv 1)<|Ya) Yw<|Y0 _) (YZ<|Yi<|Yj<|pa2 (Yw)<|Yr (r:=Vb K) Yt (pv 1)<|Ya) Yp)
  Jw,?_⟩
 show let S:=_;Yk (VE _ S _) _ _ _ _
 intros
 unfold hdT at L;obtain⟨g,U,rfl,M,O⟩:=Yv L;obtain⟨j,c,rfl,D,G⟩:=Yc O;obtain⟨X,k,rfl,B,J⟩:=Yc G;obtain rfl:=VA J;obtain rfl:=has_str D;refine⟨_,_,Z2 M,at0,Y,_,Y,VF (by decide +kernel) ⟨_,_,Z2 M,at1,sl 2,λp N=>?_⟩⟩;exact up_in N _ λv s1 R=>q _ _ s1<|Yo R<|Z4 Yz<|Z5<|B.mono s1
def Qb:Yh ["self","whole","told"] ["self","whole"] (Yd X6):=Y2
inductive Q2(bw:Bool)(P:Program)(w:World)(C CK CG CO CW:Addr)(n:Nat)(H:Hp)(Q:VK):List V->Prop
 |mk (Hm:Hp) (A:GA) (ks:List (Str×Shp)) (d:Str->Nat) (ds:List Dd) (B:WA) (mo:Nat) (S:WSt) (Os:List OM) (j:Nat) (R:J8) (SR:WSt) (full:Bool) (wk:WK bw P w Hm H C CK CG CO CW A ks d ds B mo S Os) (gs:Wlk bw ds A.gs mo n j (.st (.want 0)) S R SR)
  (q:∀v Os' H',WK bw P w Hm H' C CK CG CO CW A ks d ds B mo SR Os'->R.out Hm H' v->Q v H'):Q2 bw P w C CK CG CO CW n H Q [.ref B.t,.bl full]
def Gg(bw:Bool)(P:Program)(w:World)(C CK CG CO CW:Addr)(n:Nat):Sp:=λZ H Q _=>Q2 bw P w C CK CG CO CW n H Q Z
def ED(c:DCl K CW)(F:Fun K "outcome" "Doing.outcome" X6 f fd)(x:VI K CW "head_of_cell" g1)(G1:Ye P w K z base CX0 L g1 d1 sn (Du bw P w C CK CG CO CW n))(b1:Binds K d1 sn [])(a:VI K CW "whole_of" U)(G2:Ye P w K z base CX0 L U d2 shd Dq)(b2:Binds K d2 shd []):Ye P w K z base CX0 (L+1) f fd ["self","whole"] (Gg bw P w C CK CG CO CW n):=by
 refine F.oi Qb λJ2 A D s H vs Q E m h=>?_;obtain⟨Hm,A',ks,d,ds,B,i,S,Os,j,R,SR,full,y,gs,q⟩:=h;refine⟨_,YY (Yx 2 Qb.nd<|Y4 (pv 0) c.cl x G1 m b1 .nil Y3<|pa1<|Ya)
  (YY (Y5 (Ys UR (Yr (r:=Vb K) Yt (pv 2)<|Ya) Yw<|Y0 _) (YZ<|Yi<|pv 2) Yp)
  (YY (Y5 (Vv<|pv 1) (YZ<|Yi<|Y4 (pv 0) c.cl a G2 m b2 .nil Y3<|pa1<|Yr (r:=Vb K) Yt (pv 2)<|Ya) Yp)
  (YY (Y5 (Ys Vc (Yr (r:=Vb K) Yt (Yr (r:=Vb K) Yt (pv 2)<|Ya)<|Ya) Yw<|Y0 _) Jw Yp)
  (YZ<|Yi<|Yj<|pa2 (Yw)<|Yr (r:=Vb K) Yt (Yr (r:=Vb K) Yt (pv 2)<|Ya)<|Ya)))),?_⟩
 show let T0:=_;let T1:=Yk (VE _ _ _) T0;let T2:=_;let T3:=Yk (VE _ T2 _) T1;let T4:=_;let T5:=Yk (VE _ T4 _) T3;Yk _ T5 _ _ _
 intros
 refine⟨_,_,y.insB,A2 _,Hm,A',ks,d,ds,B,i,S,Os,0,j,R,SR,y,gs,λv G3 H' Z hR N=>?_⟩;rcases hR with⟨rs,rfl⟩|rfl|⟨t,rfl⟩
 .obtain ⟨t,p,us,rfl,J,-⟩:=id N
  exact⟨_,_,Z2 J,at0,Y,_,Y,VF (by decide +kernel)<|q _ _ _ Z N⟩
 .obtain ⟨t,rfl,J⟩:=id N
  exact⟨_,_,Z2 J,at0,Y,_,Y,VF (by decide +kernel)<|q _ _ _ Z N⟩
 .have hv2:Has H' v (.tup [.str "head",hdT t]):=N
  obtain⟨t',l,rfl,J,I⟩:=Yv hv2;obtain⟨b,o,rfl,e1,M⟩:=Yc I;obtain⟨X,e,rfl,k,G⟩:=Yc M;obtain rfl:=VA G;obtain rfl:=has_str e1;refine⟨_,_,Z2 J,at0,Y,_,Y,Y1 (by decide +kernel) ?_⟩
  cases full with
  |true=>
   refine⟨_,Y,VF Y ?_⟩;exact⟨_,_,Z.insB,Az _,_,_,Z2 J,at1,_,X,t,k,λu H2 T hu=>q _ _ _ (Z.mono T) hu⟩
  |false=>
   refine⟨_,Y,Y1 (by decide) ?_⟩;have g:=k;unfold hdT at g;obtain⟨t2,l,rfl,O,I⟩:=Yv g;obtain⟨b,o,rfl,e4,M⟩:=Yc I;obtain⟨X,e,rfl,e5,G⟩:=Yc M;obtain rfl:=VA G;obtain rfl:=has_str e4;refine⟨_,_,Z2 J,at1,_,_,Z2 O,at0,Y,_,Y,Y1 (by decide +kernel) ?_⟩;refine⟨_,_,Z2 J,at1,_,_,Z2 O,at1,sl 2,λp hp=>?_⟩;exact up_in hp _ λH2 T U=>q _ _ _ (Z.mono T)<|Yo U<|Z4 Yz<|Z5<|e5.mono T
def Sy:Yh ["self"] ["self"] (Yd Fm):=Y2
def zA:List.Nodup [("number":Str),"self"]:=by decide +kernel
inductive OI(P:Program)(w:World)(C CK CG CO CW:Addr)(H:Hp)(Q:VK):List V->Prop
 |mk (Hm:Hp) (A:GA) (ks:List (Str×Shp)) (d:Str->Nat) (ds:List Dd) (B:WA) (mo:Nat) (S:WSt) (Os:List OM) (wk:WK true P w Hm H C CK CG CO CW A ks d ds B mo S Os) (dn:Ay S)
  (q:∀p vs H',Same Hm H'->TL H H'->Hm p=none->H' p=some (.lst vs)->HasL H' vs (dnL S)->Q (.ref p) H'):OI P w C CK CG CO CW H Q [.ref B.t]
def Ry(P:Program)(w:World)(C CK CG CO CW:Addr):Sp:=λZ H Q _=>OI P w C CK CG CO CW H Q Z
def Kq(I:WCl K CW)(F:Fun K "done" "Walk.done" Fm f fd)(m:VI K CW "birth_of" g)(G:Ye P w K mg base CX0 L g gd sn (R0 P w CG CW))(bG:Binds K gd sn []):Ye P w K mg base CX0 (L+1) f fd ["self"] (Ry P w C CK CG CO CW):=by
 refine F.oi Sy λG2 A J2 s H vs Q E hr h=>?_;obtain⟨Hm,A',ks,d,ds,B,mo,S,Os,M,dn,q⟩:=h;have hu:=JA hr;refine⟨_,YZ<|Yi<|V6 ["number"] [0] (O9<|Ym (pv 0) rfl) (Vm (i:=0)<|by decide) (λcl C fp s H=>Yl 0 zA rfl (Or.inl rfl) (Or.inr rfl)) λcl C fp s H=>Yj<|pa2 (Y4 (pv 1) I.cl m G hr bG .nil Y3<|pa1<|pv 0)<|Y4 (pv 1) I.cl m G hr bG .nil Y3<|pa1<|Vl hu (EA K (pv 1) rfl) (pv 0) λ_ _=>rfl,?_⟩;dsimp only[VY,Cx.nox,Cx.wish];obtain⟨nK,hK,J,h2,h3,h4⟩:=id M.ws;refine⟨CW,_,_,_,J.ins,I.cl,I.hs,Dk _,B.hs,_,Y,J.hs Y,λo=>?_⟩;refine fld_in B.hs _ λH1 b g1=>?_;have f1:=M.foD ⟨rfl,.inr<|.inr rfl⟩ (J.hs rfl) (M.wf.hs rfl) b g1;have N:=M.mx.fo f1;have G1:=b _ _ (Yy J.ins (J.hs rfl) (by intro z;cases z)) J.ins;have e:=b _ _ (M.wf.d2 rfl)<|J.wr rfl
 have ek:hK.map (λkv=>kV kv.1)=(S.h.map (·.1)).map λk=>V.int (k:Nat):=by
  rw[show(λkv:Key×V=>kV kv.1)=kV ∘ (·.1)from rfl,<-ve,h2.1,ve,ve]
  rfl
 have hx:∀l:List Nat,HasL H1 (l.map λk=>V.int (k:Nat)) (l.map λk=>Dat.int (k:Nat)):=λl=>by
  induction l with
  |nil=>exact Z6
  |cons a l ih=>exact Z4 (by unfold Has;rfl) ih
 refine Td (us:=S.h.map (·.1)) (D:=λk=>.int (k:Nat)) (F:=λk=>.tup [bD S.s.1 k,owD S.s.1 ((S.r.lookup k).getD none)]) (λH' s=>itd<|s _ _ g1) (by rw[ek];exact hx _) (by rw[ZA];have:=dn.l;omega) (λk x r R hm T X hR=>?_) λvs p r fp T hp y=>?_
 .obtain rfl:x=.int (k:Nat):=by unfold Has at X;exact X
  obtain⟨d1,o',d2,d3⟩:=dn.ok k hm;have Z:=T _ _ G1;have c:=(N.mono T).gg;refine⟨_,_,Z,Fj _,.num A' B _ _ S.s.1 S.s.2 (avW true B) k Z M.gr c d1 λv hv=>?_⟩;have dg:=Vd.k (k:=kK k)<|T _ _ e;rw[Ir _ d2]at dg;exists _,_,Z,Fj _,CW,_,_,_,Z,I.cl,I.wr,Ts _,_,dg;have u:∀U,Has r U (owD S.s.1 o')->(∀t,r t=none->R (.ref t) (upd r t<|.tup [v,U])):=λU O t ht=>up_in ht _ λH3 n g3=>hR _ _ n<|Yo g3<|Z4 (hv.mono n)<|Z5 (by rw[d2];exact O.mono n)
  cases o' with
  |none=>exact .non B ⟨sl 2,u _ (by unfold owD Has;rfl)⟩
  |some j=>exact .num A' B _ _ S.s.1 S.s.2 (avW true B) j Z M.gr c (d3 j Y) λU O=>⟨sl 2,u U O⟩
 .exact q p vs r (N.sm.trans T) ((A7 b<|J.hs rfl).trans T.tl) (N.sm.free fp) hp (by unfold dnL;rw[ve]at y;exact y)
end
end K4
namespace L2
open PySem PySem.Spec PyProof.Rows
structure Mw(K:W.Frag)(x qual:Str)(st:Stmt)(f:Addr)(fd:FuncData):Prop where
 ex:∃(oc:Value)(od:Option Addr)(kV doc pm:Value)(an:Option Addr)(cdv ct:Value)(osl:Array (Option Value))(T:Addr)(tc:Value)(td:Option Addr)(tn:Nat)(tl:Array (Option Value)),
  fd=W.fnOf x qual (JH st) (Vp st) (Yd st) (.ref T) kV doc pm an cdv ct/\K.lookup f=some ⟨oc,od,.func fd,osl⟩/\W.codeIn K cdv qual=true/\K.lookup T=some ⟨tc,td,.seq #[.bool false] tn,tl⟩
 kp:W.keepIn K (.ref f)=true
def Mw.oi{K:W.Frag}{st:Stmt}(F:Mw K x qual st f X)(S:Yh N B (Yd st))(L:∀(J:Value)(A:Around)(Z:List Env)(s:Shared)(H:Hp)(G:kL)(Q:VK)(E:XK),Vr k (A.deeper<|PyProof.Rows.envOfC qual (Yd st) s.heap.objs.size f J)->R G H Q E->
   ∃t,PSs (VY CX0 P w K I base N qual (Yd st) f J A Z s H E).nox (Vp st) t/\t {nx:=λ_ y=>Q .non y,rt:=Q} (start N G) H)(len:∀G H Q E,R G H Q E->G.length=B.length:=by intro G H Q E h;cases h;rfl):Ye P w K I base CX0 (k+1) f X B R:=by
 obtain⟨u,d,kV,j,c,r,J,v,D,T,p,g,z,m,rfl,U,O,_⟩:=F.ex;refine Q0 U O S len λA Z s H G Q E C M=>?_;obtain⟨t,h,q⟩:=L J A Z s H G Q E C M;exact⟨t,h.nox,q⟩
def JZ{α:Type}{Z:List α}{n:Nat}(h:Z.length=n+1):∃a t,Z=a::t/\t.length=n:=by
 cases Z with
 |nil=>cases h
 |cons a t=>exact⟨a,t,Y,Nat.succ.inj h⟩
def Mw.b5{K:W.Frag}{st:Stmt}(F:Mw K x qual st f t)(p D B R O:Str)(h:∀(a b c d e T kV Z L:Value)(N:kH)(J M:Value),∃k:Option (kI)->Sem (List<|Str×Value),bindArgs (W.fnOf x qual (JH st) (Vp st) (Yd st) T kV Z L N J M) ⟨[a,b,c,d,e],[]⟩=seqItems? T >>=k/\k (some #[.bool false])=pure ([p,D,B,R,O].zip [a,b,c,d,e]):=by
   exact λ_ _ _ _ _ _ _ _ _ _ _ _=>⟨_,Y,Y⟩):Binds K t [p,D,B,R,O] []:=λs G X E=>by
 obtain⟨r,w,kV,Z,L,N,J,M,A,T,v,u,m,g,rfl,l,y,I⟩:=F.ex;have S:G.length=5:=by simpa using E
 clear E;obtain⟨a,G,rfl,U⟩:=JZ S;obtain⟨b,G,rfl,C⟩:=JZ U;obtain⟨c,G,rfl,P⟩:=JZ C;obtain⟨d,G,rfl,Q⟩:=JZ P;obtain⟨e,G,rfl,j⟩:=JZ Q;obtain rfl:=vj j;obtain⟨k,q,z⟩:=h a b c d e (.ref T) kV Z L N J M;exact BindsTo.of_defaults Y (X _ _ I) Y q z
def Mw.b4{K:W.Frag}{st:Stmt}(F:Mw K x qual st f q)(p D B R O:Str)(h:∀(a b c d T kV Z L:Value)(N:kH)(J M:Value),∃k:Option (kI)->Sem (List<|Str×Value),bindArgs (W.fnOf x qual (JH st) (Vp st) (Yd st) T kV Z L N J M) ⟨[a,b,c,d],[]⟩=seqItems? T >>=k/\k (some #[.bool false])=pure ([p,D,B,R,O].zip [a,b,c,d,.bool false]):=by
   exact λ_ _ _ _ _ _ _ _ _ _ _=>⟨_,Y,Y⟩):Binds K q [p,D,B,R,O] [.bool false]:=λs G X E=>by
 obtain⟨w,v,kV,Z,L,N,J,M,A,T,u,g,t,m,rfl,r,j,I⟩:=F.ex;have S:G.length=4:=by simpa using E
 clear E;obtain⟨a,G,rfl,U⟩:=JZ S;obtain⟨b,G,rfl,C⟩:=JZ U;obtain⟨c,G,rfl,P⟩:=JZ C;obtain⟨d,G,rfl,Q⟩:=JZ P;obtain rfl:=vj Q;obtain⟨k,z,y⟩:=h a b c d (.ref T) kV Z L N J M;exact BindsTo.of_defaults Y (X _ _ I) Y z y
def S0(F:Str)(ρ:Rho):WSt:=⟨[],[],[],0,0,([],WH F ρ)⟩
def Ur(df:Dd):Rho:=Cc (df.1.2.1.map (·.1)) df.1.2.1.length
end L2
namespace K4
open PySem L2
section
variable{C CK CG CO CW CD:Addr}
abbrev wop:kC:=["book","F","worths","most"]
abbrev DZ:kC:=["book","F","worths","most","whole"]
def QQ(A:WA):(Vt bw A mo bg).lookup ("outcome":Str)=none:=by cases bw <;> rfl
def A4(A:WA):(Vt true A mo bg).lookup ("done":Str)=none:=rfl
structure RgA(H:Hp)(C CK bk gv:Addr)(ks:List (Str×Shp))(d:Str->Nat)(ds:List Dd)(df:Dd)(gs:List Str):Prop where
 bi:BI H C CK bk ks d ds
 hd:df∈ds
 hg:H gv=some (.tup (gs.map V.str))
 ln:gs.length=df.1.2.1.length
 l3:df.1.2.1.length<=3
 nd:(df.1.2.1.map (·.1)).Nodup
 ok:∀(i:Nat)(p:Str×Str)(u:Str),df.1.2.1[i]?=some p->gs[i]?=some u->okW ks (.tag u) p.2
def RgA.oks(r:RgA H C CK bk gv J d M df gs):∀(i:Nat)(p:Str×Str)(u:W),df.1.2.1[i]?=some p->(gs.map W.tag)[i]?=some u->okW J u p.2/\u.dep<3:=λi p u L Z=>by
 rw[ZH]at Z;obtain⟨g,G,rfl⟩:=Zj.mp Z;exact⟨r.ok i p g L G,by simp[W.dep]⟩
def yR:Yh wop wop (Yd MI):=Y2
def IZ:Yh ["book","F","worths","most","whole","walk","outcome"] DZ (Yd Ba):=Y2
inductive zj(P:Program)(w:World)(C CK CG CO CW:Addr)(H:Hp)(Q:VK):List V->Prop
 |mk (bk gv:Addr) (ks:List (Str×Shp)) (d:Str->Nat) (ds:List Dd) (df:Dd) (gs:List Str) (mo:Nat) (ra:RgA H C CK bk gv ks d ds df gs) (m1:1<=mo) (m2:mo<=500)
  (q:∀(A:GA)(B:WA) Hm H',Same H Hm->A.gs=gs->WK true P w Hm H' C CK CG CO CW A ks d ds B mo (S0 df.1.1 (Ur df)) []->Q (.ref B.t) H'):zj P w C CK CG CO CW H Q [.ref bk,.str df.1.1,.ref gv,.int (mo:Nat)]
def Fz(P:Program)(w:World)(C CK CG CO CW:Addr):Sp:=λZ H Q _=>zj P w C CK CG CO CW H Q Z
def AD(F:Fun K "walk_of" "walk_of" MI f fd)(DA:Df P w K R base (n+1) "check_asking" bfw (N4 C CK .non))(DM:Df P w K R base (n+1) "check_most" ["most","highest"] Oc)(hC:R "MOST_CELLS"=some u1)(rC:RelV (.int 500) u1)(mW:R "Walk"=some (.ref CW))(MW:Mk K CW k)(GW:Ye P w K R base CX0 n k d1 ["self","ground","most"] (SY CW))(bW:Binds K d1 ["self","ground","most"] [])(mG:R "Ground"=some (.ref CG))(MG:Mk K CG g2)(GG:Ye P w K R base CX0 n g2 d2 ["self","book","F","worths"] (Dw P w C CK CG))(bG:Binds K d2 ["self","book","F","worths"] []):Ye P w K R base CX0 (n+2) f fd wop (Fz P w C CK CG CO CW):=by
 refine F.oi yR λG3 A t s H vs Q E X h=>?_;obtain⟨bk,gv,ks,d,ds,df,gs,mo,Z,m1,m2,q⟩:=h;refine⟨_,YY (VS<|VP DA X<|pa3 (pv 0) (pv 1)<|pv 2)
  (YY (VS<|VP DM X<|pa2 (pv 3)<|V5 rfl hC rC)
  (YZ<|Yi<|Ub MW GW X rfl mW bW .nil Y3 (pa2 (Ub MG GG X rfl mG bG .nil Y3 (pa3 (pv 0) (pv 1)<|pv 2))<|pv 3))),?_⟩
 show let T0:=_;let T1:=Yk _ T0;Yk _ T1 _ _ _
 intros
 refine⟨bk,gv,_,ks,d,ds,df,gs.map W.tag,Z.bi,Z.hd,Z.hg,U5 _,by rw[ZA];exact Z.ln,Z.l3,Z.oks,λT s1=>?_⟩;refine⟨mo,500,by omega,by omega,?_⟩;intro x N U g G2;have v:Same T (upd (upd T N<|.own x) x<|.ins CG N []):=λb o e=>by rw[Yg (Yb e U),Yg (Yb e g)];exact e
 have c:upd (upd T N<|.own x) x (.ins CG N []) x=some (.ins CG N []):=Yf;generalize upd (upd T N<|.own x) x (.ins CG N [])=H2 at c v |-;refine⟨T,x,N,bk,gv,ks,d,ds,df,gs,U,v,c,Z.bi.mono s1,Z.hd,s1 _ _ Z.hg,Z.ln,Z.l3,Z.nd,λG I e1 e2 e3 L=>⟨Y,?_⟩⟩;rw[Z.ln]at L;intro y M S m J2;have u:Same I (upd (upd I M<|.own y) y<|.ins CW M []):=λb o e=>by rw[Yg (Yb e S),Yg (Yb e m)];exact e
 have ty:upd (upd I M<|.own y) y (.ins CW M []) y=some (.ins CW M []):=Yf;generalize upd (upd I M<|.own y) y (.ins CW M [])=H4 at ty u |-;refine⟨I,y,M,x,mo,S,u,ty,λB H5 f1 f2 J r ws=>⟨Y,?_⟩⟩;rw[<-f1];have D:=L.sm;have j:WF true T B:=⟨D.free J.t,D.free J.uw,λz=>D.free<|J.wr z,λz=>D.free<|J.wn z,λz=>D.free<|J.hs z,J.d1,J.d2,J.d3⟩
 have l:∀a,avW true B a->I a=none:=λa z=>by
  rcases z.2 with rfl|rfl|rfl
  .exact J.wr rfl
  .exact J.wn rfl
  .exact J.hs rfl
 obtain⟨xs,k,_⟩:=L.gg.bs;obtain⟨G1,g3,_⟩:=L.gg.st;refine q G B T H5 s1 e3 ⟨⟨D.trans r,L.bi,L.f1,L.f2,L.f3,L.gg.avoids l r⟩,by rw[f2,e1],j,λz=>?_,Yb k J.uw,by rw[e3,Z.ln];exact Z.l3,⟨[],[],ws,⟨Y,Z6⟩,Y,λp h=>(by cases h)⟩,Y,λi O e h=>(by simp at h),jm,λO h=>(by cases h)⟩;have:=l _ z;rw[g3]at this;cases this
inductive Q5(P:Program)(w:World)(C CK:Addr)(n:Nat)(H:Hp)(Q:VK):List V->Prop
 |mk (bk gv:Addr) (ks:List (Str×Shp)) (d:Str->Nat) (ds:List Dd) (df:Dd) (gv':List Str) (mo:Nat) (full:Bool) (j:Nat) (R:J8) (SR:WSt) (ra:RgA H C CK bk gv ks d ds df gv') (m1:1<=mo) (m2:mo<=500) (gs:Wlk true ds gv' mo n j (.st (.want 0)) (S0 df.1.1 (Ur df)) R SR) (dn:Ay SR)
  (q:∀t r l us Hm H',Same H Hm->Same H H'->H' t=some (.tup [r,.ref l])->R.out Hm H' r->H l=none->H' l=some (.lst us)->HasL H' us (dnL SR)->Q (.ref t) H'):Q5 P w C CK n H Q [.ref bk,.str df.1.1,.ref gv,.int (mo:Nat),.bl full]
def N6(P:Program)(w:World)(C CK:Addr)(n:Nat):Sp:=λZ H Q _=>Q5 P w C CK n H Q Z
def J8.out_tl{R:J8}(h:R.out O H v)(t:TL H T):R.out O T v:=by
 cases R with
 |ring B=>obtain⟨Z,p,G,e,J,N,M,L⟩:=h;exact⟨Z,p,G,e,t.1 _ _ J,N,t.2 _ _ M,HasL.tl t _ L⟩
 |hd Z=>exact Has.tl t _ h
 |dry=>obtain⟨Z,e,J⟩:=h;exact⟨Z,e,t.1 _ _ J⟩
 |st x=>obtain⟨Z,e,J⟩:=h;exact⟨Z,e,t.1 _ _ J⟩
 |taken x=>obtain⟨Z,e,J⟩:=h;exact⟨Z,e,t.1 _ _ J⟩
def Pg(k:WCl K CW)(F:Mw K "asked" "asked" Ba f fd)(DW:Df P w K O base L "walk_of" wop (Fz P w C CK CG CO CW))(i:VI K CW "outcome" g1)(G1:Ye P w K O base CX0 L g1 d1 ["self","whole"] (Gg true P w C CK CG CO CW n))(b1:Binds K d1 ["self","whole"] [])(o:VI K CW "done" g2)(G2:Ye P w K O base CX0 L g2 d2 ["self"] (Ry P w C CK CG CO CW))(b2:Binds K d2 ["self"] []):Ye P w K O base CX0 (L+1) f fd DZ (N6 P w C CK n):=by
 refine F.oi IZ λJ2 A M s H vs Q E U h=>?_;obtain⟨bk,gv,I,d,y,df,X,N,full,j,R,p,e,D,T,gs,dn,q⟩:=h;refine⟨_,YY (Yx 5 IZ.nd<|VP DW U<|pa4 (pv 0) (pv 1) (pv 2)<|pv 3)
  (YY (Yx 6 IZ.nd<|Y4 (pv 5) k.cl i G1 U b1 .nil Y3<|pa1<|pv 4)
  (YZ<|Yi<|Yj<|pa2 (pv 6)<|Vj (pv 5) k.cl o G2 U b2 .nil Y3)),?_⟩
 show let T0:=_;let T1:=Yk _ T0;Yk _ T1 _ _ _
 intros
 refine⟨bk,gv,I,d,y,df,X,N,e,D,T,λc B m H1 G eg g=>?_⟩;refine⟨_,_,g.insB,QQ _,m,c,I,d,y,B,N,_,[],j,R,p,_,g,by rw[eg];exact gs,λv z H2 Z a=>?_⟩;refine⟨_,_,Z.insB,A4 _,m,c,I,d,y,B,N,p,z,Z,dn,λl u H3 b r fl hl S=>⟨sl 2,λt x=>?_⟩⟩;refine up_in x _ λH4 J g4=>?_;exact q t v l u m H4 G ((G.trans b).trans J) g4 (J8.out_tl a<|r.trans J.tl) (G.free fl) (J _ _ hl)<|S.mono J
def S1:Yh ["book","F","worths","most","whole","doing","outcome"] DZ (Yd Gv):=Y2
inductive yB(P:Program)(w:World)(C CK:Addr)(n:Nat)(H:Hp)(Q:VK):List V->Prop
 |mk (bk gv:Addr) (ks:List (Str×Shp)) (d:Str->Nat) (ds:List Dd) (df:Dd) (gv':List Str) (mo:Nat) (full:Bool) (j:Nat) (R:J8) (SR:WSt) (ra:RgA H C CK bk gv ks d ds df gv') (m1:1<=mo) (m2:mo<=2000) (gs:Wlk false ds gv' mo n j (.st (.want 0)) (S0 df.1.1 (Ur df)) R SR)
  (q:∀t r Hm H',Same H Hm->Same H H'->H' t=some (.tup [r,.int (SR.bg:Nat)])->R.out Hm H' r->Q (.ref t) H'):yB P w C CK n H Q [.ref bk,.str df.1.1,.ref gv,.int (mo:Nat),.bl full]
def IO(P:Program)(w:World)(C CK:Addr)(n:Nat):Sp:=λZ H Q _=>yB P w C CK n H Q Z
def AO(TD:DCl K CD)(F:Mw K "by_names" "by_names" Gv f fd)(DA:Df P w K N base (L+1) "check_asking" bfw (N4 C CK .non))(DM:Df P w K N base (L+1) "check_most" ["most","highest"] Oc)(hC:N "MOST_GOINGS"=some u1)(rC:RelV (.int 2000) u1)(mD:N "Doing"=some (.ref CD))(MD:Mk K CD g1)(M2:Ye P w K N base CX0 L g1 d1 ["self","ground","most"] (IM CD))(bD:Binds K d1 ["self","ground","most"] [])(mG:N "Ground"=some (.ref CG))(MG:Mk K CG g2)(GG:Ye P w K N base CX0 L g2 d2 ["self","book","F","worths"] (Dw P w C CK CG))(bG:Binds K d2 ["self","book","F","worths"] [])(m1:VI K CD "outcome" g3)(G1:Ye P w K N base CX0 (L+1) g3 d3 ["self","whole"] (Gg false P w C CK CG CO CD n))(b1:Binds K d3 ["self","whole"] []):Ye P w K N base CX0 (L+2) f fd DZ (IO P w C CK n):=by
 refine F.oi S1 λR5 A J2 s H vs Q E g h=>?_;obtain⟨bk,gv,r,d,l,df,k,u,full,j,R,SR,Z,R3,R1,gs,q⟩:=h;refine⟨_,YY (VS<|VP DA g<|pa3 (pv 0) (pv 1)<|pv 2)
  (YY (VS<|VP DM g<|pa2 (pv 3)<|V5 rfl hC rC)
  (YY (Yx 5 S1.nd<|Ub MD M2 g rfl mD bD .nil Y3 (pa2 (Ub MG GG g rfl mG bG .nil Y3 (pa3 (pv 0) (pv 1)<|pv 2))<|pv 3))
  (YY (Yx 6 S1.nd<|Y4 (pv 5) TD.cl m1 G1 g b1 .nil Y3<|pa1<|pv 4)
  (YZ<|Yi<|Yj<|pa2 (pv 6)<|Ym (pv 5) rfl)))),?_⟩
 show let T0:=_;let T1:=Yk _ T0;let T2:=Yk _ T1;let T3:=Yk _ T2;Yk _ T3 _ _ _
 intros
 refine⟨bk,gv,_,r,d,l,df,k.map W.tag,Z.bi,Z.hd,Z.hg,U5 _,by rw[ZA];exact Z.ln,Z.l3,Z.oks,λD s1=>?_⟩;refine⟨u,2000,by omega,by omega,?_⟩;intro x T m G3 R4;have sX:Same D (upd (upd D T<|.own x) x<|.ins CG T []):=λb o e=>by rw[Yg (Yb e m),Yg (Yb e G3)];exact e
 have tx:upd (upd D T<|.own x) x (.ins CG T []) x=some (.ins CG T []):=Yf;generalize upd (upd D T<|.own x) x (.ins CG T [])=H2 at tx sX |-;refine⟨D,x,T,bk,gv,r,d,l,df,k,m,sX,tx,Z.bi.mono s1,Z.hd,s1 _ _ Z.hg,Z.ln,Z.l3,Z.nd,λG S e1 e2 e3 M=>⟨Y,?_⟩⟩;rw[Z.ln]at M;intro y J I G2 O1;have sY:Same S (upd (upd S J<|.own y) y<|.ins CD J []):=λb o e=>by rw[Yg (Yb e I),Yg (Yb e G2)];exact e
 have ty:upd (upd S J<|.own y) y (.ins CD J []) y=some (.ins CD J []):=Yf;generalize upd (upd S J<|.own y) y (.ins CD J [])=H4 at ty sY |-;refine⟨y,J,x,u,ty,λuw H5 fu b5 x5 g5=>⟨Y,?_⟩⟩;have X:Same S H5:=UK I sY b5;have sm:=M.sm
 let B:WA:=⟨y,J,x,uw,0,0,0⟩
 have c:S uw=none:=sY.free fu;obtain⟨xs,gb,_⟩:=M.gg.bs;have wk:WK false P w D H5 C CK CG CO CD G r d l B u (S0 df.1.1<|Ur df) []:=⟨⟨sm.trans X,M.bi,M.f1,M.f2,M.f3,M.gg.avoids (λa z=>by cases z.1) X⟩,e1.symm,⟨sm.free I,sm.free c,λz=>(by cases z),λz=>(by cases z),λz=>(by cases z),λz=>(by cases z),λz=>(by cases z),λz=>(by cases z)⟩,λz=>(by cases z.1),Yb gb c,by rw[e3,Z.ln];exact Z.l3,⟨[],[],⟨x5,g5,λz=>(by cases z),λz=>(by cases z),λz=>(by cases z)⟩,⟨Y,Z6⟩,Y,λp h=>(by cases h)⟩,Y,λi O e h=>(by simp at h),jm,λO h=>(by cases h)⟩;refine⟨_,_,wk.insB,QQ _,D,G,r,d,l,B,u,_,[],j,R,SR,_,wk,by rw[e3];exact gs,λv R6 H6 U hv=>?_⟩;refine⟨CD,_,_,_,U.insB,TD.cl,TD.bg,Dl _,sl 2,λt ht=>?_⟩;refine up_in ht _ λH7 s7 g7=>?_;exact q t v D H7 s1 (s1.trans<|U.mx.sm.trans s7) g7<|J8.out_tl hv s7.tl
end
end K4
namespace L2
open PySem
structure OnP where
 f:Str
 mn:Str
 cs:Str
 kd:Str
 own:Str
 tg:List Str
 t0:Str
 en:Str
 ei:Nat
 o:Nat
 D:Nat
 sh:Bool
def gB(R:OnP):Nat->Bd
 |0=>.tag R.en
 |j+1=>.choose (.name R.own) R.tg<|R.tg.map λ_=>gB R j
def iB(R:OnP):Nat->Bd
 |0=>.ask R.cs []
 |k+1=>.ask R.f [iB R k]
def mB(R:OnP):Bd:=if R.sh=true then .letb R.own R.kd (iB R R.D) (.name R.own)else iB R R.D
def pl0(R:OnP):kE:=if R.sh=true then[0]else[]
def dF(R:OnP):Dd:=((R.f,[(R.own,R.kd)],R.kd),gB R R.o)
def dM(R:OnP):Dd:=((R.mn,[],R.kd),mB R)
def dC(R:OnP):Dd:=((R.cs,[],R.kd),.tag R.t0)
def ods(R:OnP):List Dd:=[dF R,dM R,dC R]
structure OnK(R:OnP)(ds:List Dd):Prop where
 t1:1<=R.tg.length
 t2:R.tg.length<=2
 tn:R.tg.Nodup
 te:R.tg[R.ei]?=some R.en
 tz:R.tg[0]?=some R.t0
 o1:1<=R.o
 o4:R.o<=4
 d1:1<=R.D
 d7:R.D<=7
 fn:(ds.map λx=>x.1.1).Nodup
 mf:dF R∈ds
 mm:dM R∈ds
 mc:dC R∈ds
 ok:∀x∈ds,x.2.ok
def Qe(R:(M.map λx:Dd=>x.1.1).Nodup)(h:x∈M):KP M x.1.1 N->N=x.1.2.1.map (·.1):=by
 rintro⟨y,O,e,rfl⟩;obtain⟨i,J⟩:=vg.mp h;obtain⟨j,Z⟩:=vg.mp O;have L:=(ZF.mp J).1;have G:=(ZF.mp Z).1;have n:=vW.mp R
 have:i=j:=by
  rcases qZ i j with q|q|q
  .exact Zr (by rw[jC,jC,(ZF.mp J).2,(ZF.mp Z).2];exact e.symm) (n i j (by rw[ZA];exact L) (by rw[ZA];exact G) q)
  .exact q
  .exact Zr (by rw[jC,jC,(ZF.mp J).2,(ZF.mp Z).2];exact e) (n j i (by rw[ZA];exact G) (by rw[ZA];exact L) q)
 subst this;rw[J]at Z;cases Z
 rfl
def Wg(f:c∉cs)(h:XU cs c n cs'):n=cs.length+1/\cs'=cs++[c]:=by
 rcases h with⟨k,G,_⟩|⟨_,J,Z⟩
 .exact Zr (ZJ G) f
 .exact ⟨J,Z⟩
def Tj(b:Bd):b.at []=some b:=by unfold Bd.at;rfl
def Me(R:OnP)(k:Nat):∃g Z,iB R k=.ask g Z:=by cases k <;> exact⟨_,_,Y⟩
abbrev zr(j:Nat):kE:=List.replicate j 0
def csT(N:Nat):Nat->List Int->List Mk1
 |0,_=>[]
 |k+1,pl=>(N,pl++[0])::csT N k (pl++[0])
def stI(R:OnP):Nat->Nat->(Nat->Option Sta)->Nat->Option Sta
 |0,l,st=>stP st (l+1) ⟨R.cs,[],Jm [] []⟩
 |k+1,l,st=>stP (stI R k (l+1) st) (l+1) ⟨R.f,[],Jm [R.own] [.cell (l+2)]⟩
theorem Ed:∀k Z,(csT N k Z).length=k
 |0,_=>rfl
 |k+1,Z=>by unfold csT;rw[Zf,Ed k]
def Mx(Z:kE)(j:Nat):Z++[0]++ zr j=Z++ zr (j+1):=by rw[vZ];rfl
theorem LA(K:OnK R I):∀(k n l:Nat)(Z:kE)(J:List Mk1)(st:Nat->Option Sta)(O:Ss),b.at Z=some (iB R k)->J.length=l+1->(∀j,(N,Z++ zr (j+1))∉J)->
  MCp I F ρ (λi=>TAp I F b N ρ (n+k)<|Z++[(i:Int)]) (iB R k) Z (l+1) (J,st) O->O=(J++ csT N k Z,stI R k l st)
 |0,n,l,Z,J,st,O,hb,hl,fr,h=>by
  obtain⟨G,L,X,t,p,B⟩:=h;obtain rfl:=Qe K.fn K.mc p;have T:Thr _ 0 _ G L:=t;cases T;rw[B];unfold csT;rw[ja]
  rfl
 |k+1,n,l,Z,J,st,O,hb,hl,fr,h=>by
  obtain⟨G,L,X,t,p,B⟩:=h;obtain rfl:=Qe K.fn K.mf p;have T:Thr _ (0+1) _ G L:=t
  cases T with
  |snoc h e=>
   cases h;have M:b.at (Z++[((0:Nat):Int)])=some (iB R k):=Bd.at_snoc Z hb (by decide) rfl;have U:TAp I F b N ρ (n+k+1) (Z++[((0:Nat):Int)]) (J,st) _ L:=e;unfold TAp at U;obtain⟨c,E,y⟩:=U;rw[M]at E;obtain⟨g,f,S⟩:=Me R k;rw[S]at E;cases E;obtain⟨d,m,Q,P,D⟩:=y;rw[<-S]at D;obtain⟨rfl,rfl⟩:=Wg (fr 0) Q
   have A:∀j,(N,Z++[0]++ zr (j+1))∉J++[(N,Z++[0])]:=λj z=>by
    rw[Mx]at z;rcases ZX.mp z with q|q
    .exact fr _ q
    .rw [ZQ]at q
     have C:=congrArg (λp:Mk1=>p.2.length) q;simp at C
   rw[hl]at D;have:=LA K k n (l+1) (Z++[0]) (J++[(N,Z++[0])]) st L M (by rw[ZL,hl];rfl) A D;rw[B,this,P,hl]
   conv=>rhs;unfold csT
   rw[vZ]
   rfl
def A8(K:OnK R I)(L:b.at pl=some (iB R k))(O:∀j,(N,pl++ zr j)∉s.1)(h:TAp I F b N ρ (n+k+1) pl s th G):th=.cell (s.1.length+1)/\G=(s.1++ (N,pl)::csT N k pl,stI R k s.1.length s.2):=by
 unfold TAp at h;obtain⟨c,Z,A⟩:=h;rw[L]at Z;obtain⟨g,C,T⟩:=Me R k;rw[T]at Z;cases Z;obtain⟨U,S,E,D,M⟩:=A;rw[<-T]at M;obtain⟨rfl,rfl⟩:=Wg (by have:=O 0;rwa [show zr 0=[]from rfl,ja]at this) E
 have J:∀j,(N,pl++ zr (j+1))∉s.1++[(N,pl)]:=λj z=>by
  rcases ZX.mp z with q|q
  .exact O _ q
  .rw [ZQ]at q
   have B:=congrArg (λp:Mk1=>p.2.length) q;simp at B
 have:=LA K k n s.1.length pl (s.1++[(N,pl)]) s.2 G L (by rw[ZL];rfl) J M;exact⟨D,by rw[this,vZ];rfl⟩
theorem QY:∀(k l i:Nat),i<k->stI R k l st (l+1+i)=some ⟨R.f,[],Jm [R.own] [.cell (l+i+2)]⟩
 |0,l,i,h=>by omega
 |k+1,l,0,h=>by unfold stI stP;rw[Zp (by omega)]
 |k+1,l,i+1,h=>by
  unfold stI stP;rw[Zq (by omega)];have:=QY (R:=R) (st:=st) k (l+1) i (by omega);rw[show l+1+1+i=l+1+(i+1) by omega,show l+1+i+2=l+(i+1)+2 by omega]at this;exact this
theorem QZ:∀(k l:Nat),stI R k l st (l+1+k)=some ⟨R.cs,[],Jm [] []⟩
 |0,l=>by unfold stI stP;rw[Zp (by omega)]
 |k+1,l=>by
  unfold stI stP;rw[Zq (by omega)];have:=QZ (R:=R) (st:=st) k<|l+1;rw[show l+1+1+k=l+1+(k+1) by omega]at this;exact this
theorem Kn(K:OnK R J):∀(k n:Nat),k<n->OkT J ρ n (iB R k)
 |k,0,h=>by omega
 |0,n+1,h=>by
  unfold iB OkT;exact⟨⟨_,K.mc,Y,Y,by decide,jm⟩,λa Z=>by cases Z⟩
 |k+1,n+1,h=>by
  unfold iB OkT;refine⟨⟨_,K.mf,Y,Y,(by show 1<=3;decide),by simp[dF]⟩,λa Z=>?_⟩;rw[ZQ]at Z;subst Z;exact Kn K k n<|by omega
theorem EN:∀k,(iB R k).size=k+1
 |0=>by simp[iB,Bd.size,Bd.sizes]
 |k+1=>by unfold iB Bd.size Bd.sizes;rw[EN k];simp[Bd.sizes];omega
theorem Dp:∀Z:kC,Bd.sizes (Z.map λ_=>b)=Z.length*b.size
 |[]=>by simp[Bd.sizes]
 |t::Z=>by rw[ZV,Zf];unfold Bd.sizes;rw[Dp Z,jq];omega
theorem Qy(Z:R.tg.length<=2):∀j,(gB R j).size+2<=3*2 ^ j
 |0=>by simp[gB,Bd.size]
 |j+1=>by
  unfold gB Bd.size;rw[Dp];have h:=Qy Z j;have:R.tg.length*(gB R j).size<=2*(gB R j).size:=jA _ Z;simp only[Bd.size];rw[Nat.pow_succ];omega
def Qz(Z:R.tg.length<=2)(h:j<=4):(gB R j).size<=46:=by
 have:=Qy Z j;have:2 ^ j<=2 ^ 4:=Nat.pow_le_pow_right (by decide) h;omega
def c0(R:OnP):List Mk1:=(0,pl0 R)::csT 0 R.D (pl0 R)
def s1(R:OnP):Ss:=(c0 R,stI R R.D 0<|WH R.mn<|Ur<|dM R)
def UJ:(s1 R).1.length=R.D+1:=by show(c0 R).length=_;unfold c0;rw[Zf,Ed]
def zU(K:OnK R S):∃m,Gos S [] R.mn (mB R) 0 8 m (.body []<|Ur<|dM R) [] ([],WH R.mn<|Ur<|dM R) (.want 1) [] (s1 R):=by
 have q:=K.d7;have L:=Tj<|mB R
 by_cases z:R.sh=true
 .have em:mB R=.letb R.own R.kd (iB R R.D) (.name R.own):=by unfold mB;rw[Zp z]
  have E:pl0 R=[0]:=by unfold pl0;rw[Zp z]
  rw[em]at L;have T:(mB R).at ([]++[0])=some (iB R R.D):=by rw[em];exact Bd.at_snoc [] L (by decide) Y
  have O:(mB R).at ([]++[1])=some (.name R.own):=by rw[em];exact Bd.at_snoc [] L (by decide) Y
  refine⟨_,.letb (by rw[em];exact L) ?_ (λk=>Kn K _ _<|by omega) ?_ (by show 0+8<=400;omega) (by show 0<=400;omega) (m:=2) λk Q Z X P=>?_⟩
  .obtain ⟨g,y,M⟩:=Me R R.D
   rw[M];trivial
  .unfold Bd.size
   rw[EN];simp[Bd.size];omega
  .obtain ⟨rfl,rfl⟩:=Wg (by simp) X
   have B:∀j,((0,[]++[0]++ zr (j+1)):Mk1) ∉ [((0,[]++[0]):Mk1)]:=λj z=>by
    have C:=congrArg (λp:Mk1=>p.2.length)<|ZQ.mp z;simp at C
   have e:=LA (F:=R.mn) (ρ:=Uv (Ur<|dM R) R.own<|.cell 1) K R.D (8-R.D) 0 ([]++[0]) [(0,[]++[0])] (WH R.mn<|Ur<|dM R) Z T rfl B (by rw[show 8-R.D+R.D=8 by omega];exact P);have D:Z=s1 R:=by rw[e];unfold s1 c0;rw[E];rfl
   subst D;exact .name (th:=.cell 1) O (by unfold Uv;rw[Zp rfl];rfl) (by rw[UJ];omega) (by show 1+8<=400;omega) (by show 0<=400;omega)<|.thC .stopW
 .have em:mB R=iB R R.D:=by unfold mB;rw[Zq z]
  have E:pl0 R=[]:=by unfold pl0;rw[Zq z]
  obtain⟨g,y,M⟩:=Me R R.D;have G:(mB R).at []=some (iB R R.D):=by rw[Tj,em]
  have J:=G;rw[M]at J;have I:=Kn (ρ:=Ur<|dM R) K R.D (8+1) (by omega);have A:=EN (R:=R) R.D;rw[M]at I A;refine⟨_,.ask J I (by rw[A];show 0+_<=9000;omega) (by show 0+8<=400;omega) (by show 0<=400;omega) (m:=1) λth Z U=>?_⟩;have N:TAp S R.mn (mB R) 0 (Ur<|dM R) (8-R.D+R.D+1) [] ([],WH R.mn<|Ur<|dM R) th Z:=by rw[show 8-R.D+R.D+1=8+1 by omega];exact U
  obtain⟨rfl,e⟩:=A8 K G (by simp) N;have D:Z=s1 R:=by rw[e];unfold s1 c0;rw[E];rfl
  subst D;exact .thC .stopW
def Ak:gB R (j+1)=.choose (.name R.own) R.tg (R.tg.map λ_=>gB R j):=rfl
def vI:gB R 0=.tag R.en:=rfl
def tV(R:OnP)(k:Nat):Str:=if k=R.D+1 then R.t0 else R.en
def iV(R:OnP)(k:Nat):Nat:=if k=R.D+1 then 0 else R.ei
def OnK.tv(K:OnK R Z)(k:Nat):R.tg[iV R k]?=some (tV R k):=by
 unfold iV tV
 split
 .exact K.tz
 .exact K.te
def rep(i m:Nat):kE:=List.replicate m<|1+(i:Int)
abbrev rhF(R:OnP)(k:Nat):Rho:=Jm [R.own] [.cell (k+1)]
def O0(R:OnP)(k:Nat):rhF R k R.own=some (.cell<|k+1):=by simp[rhF,Jm]
def wV(R:OnP)(k m:Nat):WEn:=(.choose (.name R.own) R.tg<|R.tg.map λ_=>gB R<|R.o-1-m,rep (iV R<|k+1) m,rhF R k)
theorem DY(K:OnK R Z)(k:Nat):∀m,m<=R.o->(gB R R.o).at (rep (iV R k) m)=some (gB R<|R.o-m)
 |0,_=>by rw[qW];exact Tj _
 |m+1,h=>by
  have ih:=DY K k m (by omega);rw[show R.o-m=R.o-(m+1)+1 by omega]at ih;have e:rep (iV R k) (m+1)=rep (iV R k) m++[1+(iV R k:Int)]:=by unfold rep;rw[jz]
  rw[e];rw[Ak]at ih;refine Bd.at_snoc _ ih (by omega) ?_;show(_::_)[(1+(iV R k:Int)).toNat]?=_;rw[show(1+(iV R k:Int)).toNat=iV R k+1 by omega];show(R.tg.map λ_=>gB R<|R.o-(m+1))[iV R k]?=_;rw[ZH,K.tv k]
  rfl
def W9:(rep i m).length=m:=jt
def LY(K:OnK R M)(T:m<R.o)(O:s.1.length<=100):Gos M gs R.f (gB R R.o) k 8 3 (.body (rep (iV R<|k+1) m)<|rhF R k) [] s (.want<|k+1) [wV R k m] s:=by
 have N:=K.o4;have Z:=DY K (k+1) m (by omega);have J:=Qz (j:=R.o-m) K.t2 (by omega);rw[show R.o-m=R.o-1-m+1 by omega]at Z J;rw[Ak]at Z;have L:(gB R R.o).at (rep (iV R<|k+1) m++[0])=some (.name R.own):=Bd.at_snoc _ Z (by decide) rfl;have G:=W9 (i:=iV R<|k+1) (m:=m);refine .push Z ?_ (by omega) (by show 0<=400;omega)<|.name L (O0 R k) (by omega) (by rw[ZL,G,vc];omega) (by show 1<=400;omega)<|.thC .stopW;rw[Ak]at J;omega
def Qt(K:OnK R G)(J:m+1<R.o)(Z:s.1.length<=100):Gos G gs R.f (gB R R.o) k 8 4 (.head<|tV R<|k+1) [wV R k m] s (.want<|k+1) [wV R k (m+1)] s:=by
 have M:=K.o4;have L:=K.t2;have g:=LY (gs:=gs) (k:=k) K J Z;have e:rep (iV R<|k+1) (m+1)=rep (iV R<|k+1) m++[1+(iV R (k+1):Int)]:=by unfold rep;rw[jz]
 rw[e]at g;exact .cho (l:=[]) K.tn (by omega) (by rw[ZA]) (K.tv<|k+1) (by rw[W9];omega) g
def Qu(K:OnK R G)(O:m+1=R.o)(N:s.1.length<=100):Gos G gs R.f (gB R R.o) k 8 2 (.head<|tV R<|k+1) [wV R k m] s (.head R.en) [] s:=by
 have M:=K.o4;have L:=K.t2;have Z:=DY K (k+1) (m+1) (by omega);rw[show R.o-(m+1)=0 by omega]at Z;rw[vI]at Z;have e:rep (iV R<|k+1) (m+1)=rep (iV R<|k+1) m++[1+(iV R (k+1):Int)]:=by unfold rep;rw[jz]
 have J:=W9 (i:=iV R<|k+1) (m:=m+1);rw[e]at Z J;exact .cho (l:=[]) K.tn (by omega) (by rw[ZA]) (K.tv<|k+1) (by rw[W9];omega)<|.tag Z (by omega) (by omega) (by show 0<=400;omega) .stopH
def Cm(bw:Bool)(ds:List Dd)(mo:Nat)(x:J8)(S:WSt)(Po:J8->WSt->Prop):Prop:=∃j J Z,Wlk bw ds [] mo 8 j x S J Z/\Po J Z
def WOk(bw:Bool)(S:WSt):Prop:=(bw=true->(∀e∈S.u,e.k∈S.r.map (·.1))/\S.r.length<=900/\S.wc<=9000)/\S.u.length<=9000
def Cm.go(G:WOk bw S)(m:bw=true->k∉S.h.map (·.1)/\k∉S.r.map (·.1))(R:S.s.2 k=some sta)(hd:df∈J)(B:df.1.1=sta.f)(L:df.2.ok)(T:k<=S.s.1.length)(M:S.bg<mo)(F:True->True)(g:Gos J [] sta.f df.2 k 8 j (.body sta.pl sta.ρ) [] S.s r l' Z)(N:S.s.1.length<=Z.1.length)(q:Cm bw J mo (.st r) {upW bw k S with u:=S.u++[⟨k,sta.f,df.2,l'⟩],bg:=S.bg+1,s:=Z} Po):Cm bw J mo (.st<|.want k) S Po:=by
 obtain⟨O,E,D,h,p⟩:=q;refine⟨O+1,E,D,?_,p⟩;unfold Wlk;exact⟨G.1,G.2,.go sta df j r l' Z m R hd B L T M g N h⟩
def Cm.tkn(Z:WOk true S)(h:S.h.lookup k=some t)(q:Cm true G mo (.taken t) {S with wc:=S.wc+1} Po):Cm true G mo (.st<|.want k) S Po:=by
 obtain⟨J,M,L,g,p⟩:=q;refine⟨J+1,M,L,?_,p⟩;unfold Wlk;exact⟨Z.1,Z.2,.tkn Y t h g⟩
def Cm.head(J:S.u=u++[e])(n:bw=true->e.k∉S.h.map (·.1)/\S.h.length<=900)(q:Cm bw G mo (.taken t) (K4.upH bw e.k t {S with u:=u}) Po):Cm bw G mo (.st<|.head t) S Po:=by
 obtain⟨Z,M,L,g,p⟩:=q;refine⟨Z+1,M,L,?_,p⟩;unfold Wlk;exact⟨u,e,J,n,g⟩
def Cm.taken(M:S.u=u++[e])(g:Gos J [] e.F e.b e.k 8 m (.head t) e.l S.s r l' Z)(G:S.s.1.length<=Z.1.length)(q:Cm bw J mo (.st r) {S with u:=u++[{e with l:=l'}],s:=Z} Po):Cm bw J mo (.taken t) S Po:=by
 obtain⟨L,O,N,h,p⟩:=q;refine⟨L+1,O,N,?_,p⟩;unfold Wlk;exact .inr ⟨u,e,m,r,l',Z,M,g,G,h⟩
def Cm.fin(Z:S.u=[])(q:Po (.hd t) S):Cm bw J mo (.taken t) S Po:=by
 refine⟨1,.hd t,S,?_,q⟩;unfold Wlk;exact .inl ⟨Z,Y,Y⟩
def tN(o:Nat):Nat->Nat
 |0=>1
 |i+1=>1+o*tN o i
theorem Fu:∀i,1<=tN o i
 |0=>ZG _
 |i+1=>by unfold tN;omega
def Ca(K:OnK R Z)(h:k<R.D):(s1 R).2 (k+1)=some ⟨R.f,[],rhF R<|k+1⟩:=by
 have:=QY (R:=R) (st:=WH R.mn<|Ur<|dM R) R.D 0 k h;rw[show 0+1+k=k+1 by omega,show 0+k+2=k+1+1 by omega]at this;exact this
def Cb:(s1 R).2 (R.D+1)=some ⟨R.cs,[],Jm [] []⟩:=by
 have:=QZ (R:=R) (st:=WH R.mn<|Ur<|dM R) R.D 0;rw[show 0+1+R.D=R.D+1 by omega]at this;exact this
def OW(h:k<R.D):tV R (k+1)=R.en:=by unfold tV;rw[Zq (by omega)]
def SH:tV R (R.D+1)=R.t0:=by unfold tV;rw[Zp rfl]
def Ff(h:S.u.length<=100):WOk false S:=⟨λz=>(by cases z),by omega⟩
theorem Qj(K:OnK R G)(N:k+1<R.D+1)(T:Nat)(J:J8->WSt->Prop)(ih:∀(S:WSt),S.s=s1 R->S.bg+T<=mo->S.u.length<=k+2->(∀Z:WSt,Z.s=s1 R->Z.u=S.u->Z.bg=S.bg+T->Cm false G mo (.taken<|tV R<|k+2) Z J)->Cm false G mo (.st<|.want<|k+2) S J)(u:List UE)(M:u.length<=k+1):
  ∀(i m:Nat)(S:WSt),m+i+1=R.o->S.s=s1 R->S.u=u++[⟨k+1,R.f,gB R R.o,[wV R (k+1) m]⟩]->S.bg+i*T<=mo->(∀Z:WSt,Z.s=s1 R->Z.u=u->Z.bg=S.bg+i*T->Cm false G mo (.taken R.en) Z J)->Cm false G mo (.taken<|tV R<|k+2) S J
 |0,m,S,hm,hs,hu,hb,q=>by
  have I:=K.d7;have L:S.s.1.length<=100:=by rw[hs,UJ];omega
  refine Cm.taken hu (Qu K (by omega) L) (ZG _)<|Cm.head rfl (λz=>by cases z) ?_;exact q _ hs Y (by show S.bg=_;omega)
 |i+1,m,S,hm,hs,hu,hb,q=>by
  have I:=K.d7;have L:S.s.1.length<=100:=by rw[hs,UJ];omega
  rw[jq]at hb q;refine Cm.taken hu (Qt K (by omega) L) (ZG _)<|ih _ hs (by show S.bg+T<=mo;omega) (by show(u++[_]).length<=_;rw[ZL,vc];omega) λZ A F E=>?_;have D:Z.bg=S.bg+T:=E;exact Qj K N T J ih u M i (m+1) Z (by omega) A F (by omega) λU B O C=>q U B O<|by omega
theorem K1(K:OnK R L)(G:J8->WSt->Prop):∀(i k:Nat)(S:WSt),k+i=R.D->S.s=s1 R->S.bg+tN R.o i<=mo->S.u.length<=k+1->(∀Z:WSt,Z.s=s1 R->Z.u=S.u->Z.bg=S.bg+tN R.o i->Cm false L mo (.taken<|tV R<|k+1) Z G)->Cm false L mo (.st<|.want<|k+1) S G
 |0,k,S,hk,hs,hb,hu,q=>by
  have X:=K.d7;obtain rfl:k=R.D:=by omega
  have g:S.bg+1<=mo:=hb;have N:S.s.1.length=R.D+1:=by rw[hs,UJ]
  refine Cm.go (sta:=⟨R.cs,[],Jm [] []⟩) (df:=dC R) (Ff<|by omega) (λz=>by cases z) (by rw[hs];exact Cb) K.mc rfl (K.ok _ K.mc) (by omega) (by omega) (λ_=>trivial) (.tag (Tj _) (by omega) (by show 0+8<=400;omega) (by show 0<=400;omega) .stopH) (ZG _) ?_;refine Cm.head Y (λz=>by cases z) ?_;rw[SH]at q;exact q _ hs Y Y
 |i+1,k,S,hk,hs,hb,hu,q=>by
  have X:=K.d7;have j:=K.o1;have N:S.s.1.length=R.D+1:=by rw[hs,UJ]
  have Q:=Fu (o:=R.o) i;unfold tN at hb q;obtain⟨J,O⟩:∃J,R.o=J+1:=⟨R.o-1,by omega⟩;have M:R.o*tN R.o i=J*tN R.o i+tN R.o i:=by rw[O,jq]
  have ih:=K1 (mo:=mo) K G i<|k+1;refine Cm.go (sta:=⟨R.f,[],rhF R<|k+1⟩) (df:=dF R) (Ff<|by omega) (λz=>by cases z) (by rw[hs];exact Ca K<|by omega) K.mf rfl (K.ok _ K.mf) (by omega) (by omega) (λ_=>trivial) (LY (m:=0) K (by omega)<|by omega) (ZG _) ?_;refine ih _ (by omega) hs (by show S.bg+1+_<=mo;omega) (by show(S.u++[_]).length<=_;rw[ZL,vc];omega) λZ C U I=>?_;have A:Z.bg=S.bg+1+tN R.o i:=I;rw[OW (by omega)]at q;exact Qj K (by omega) (tN R.o i) G (λS D B y T=>ih S (by omega) D B (by omega) T) S.u hu J 0 Z (by omega) C U (by omega) λP F E t=>q P F E<|by omega
def Kz(K:OnK R N)(D:1+tN R.o R.D<=mo):Cm false N mo (.st<|.want 0) (S0 R.mn<|Ur<|dM R) λT O=>T=.hd R.en/\O.bg=1+tN R.o R.D:=by
 have B:=Fu (o:=R.o) R.D;have F:=K.d1;obtain⟨m,g⟩:=zU K;refine Cm.go (sta:=⟨R.mn,[],Ur<|dM R⟩) (df:=dM R) (Ff (by show 0<=100;omega)) (λz=>by cases z) (by show WH _ _ 0=_;unfold WH stP;rw[Zp rfl]) K.mm rfl (K.ok _ K.mm) (by show 0<=0;omega) (by show 0<mo;omega) (λ_=>trivial) g (by show 0<=_;omega) ?_;refine K1 K _ R.D 0 _ (by omega) Y (by show 0+1+_<=mo;omega) (by show 1<=1;omega) λJ E M L=>?_;have Z:J.u=[]++[⟨0,R.mn,mB R,[]⟩]:=M;have G:J.bg=0+1+tN R.o R.D:=L;rw[OW (by omega)];refine Cm.taken Z .stopH (ZG _)<|Cm.head rfl (λz=>by cases z) (Cm.fin rfl ⟨rfl,by show J.bg=_;omega⟩)
def rL:Nat->List (Nat×Option Nat)
 |0=>[(0,none)]
 |k+1=>rL k++[(k+1,some k)]
def hL(R:OnP):Nat->List (Nat×Str)
 |0=>[(R.D+1,R.t0)]
 |i+1=>hL R i++[(R.D-i,R.en)]
theorem Iq:∀k,(rL k).length=k+1
 |0=>rfl
 |k+1=>by unfold rL;rw[ZL,Iq k];rfl
theorem Ml:∀i,(hL R i).length=i+1
 |0=>rfl
 |i+1=>by unfold hL;rw[ZL,Ml i];rfl
theorem Io:∀k x,x<=k->x∈(rL k).map (·.1)
 |0,x,h=>by
  obtain rfl:x=0:=by omega
  exact ZQ.mpr Y
 |k+1,x,h=>by
  unfold rL;rw[ZK]
  by_cases z:x=k+1
  .subst z;exact ZU _<|ZQ.mpr rfl
  .exact vT _ (Io k x<|by omega)
theorem D5:∀k x,x∈(rL k).map (·.1)->x<=k
 |0,x,h=>by
  have:x=0:=ZQ.mp h;omega
 |k+1,x,h=>by
  unfold rL at h;rw[ZK]at h;rcases ZX.mp h with q|q
  .have:=D5 k x q;omega
  .have:x=k+1:=ZQ.mp q
   omega
theorem RI:∀i x,x∈(hL R i).map (·.1)->R.D+1-i<=x/\x<=R.D+1
 |0,x,h=>by
  have:x=R.D+1:=ZQ.mp h;omega
 |i+1,x,h=>by
  unfold hL at h;rw[ZK]at h;rcases ZX.mp h with q|q
  .have:=RI i x q;omega
  .have:x=R.D-i:=ZQ.mp q
   omega
theorem LC{β:Type}{x:Nat}:∀{r:List (Nat×β)},x∉r.map (·.1)->r.lookup x=none
 |[],_=>rfl
 |p::r,h=>by
  rw[vi,beq_eq_false_iff_ne.mpr λz=>h (by rw[z];exact Za)];exact LC λz=>h<|ZM _ z
theorem zT:∀i,i<=R.D->(hL R i).lookup (R.D+1-i)=some (tV R<|R.D+1-i)
 |0,_=>by
  unfold hL;rw[qW,vi,beq_self_eq_true,SH]
 |i+1,h=>by
  unfold hL;have e:R.D+1-(i+1)=R.D-i:=by omega
  rw[e,List.lookup_append,LC λz=>by have:=RI _ _ z;omega];show List.lookup (R.D-i) [(R.D-i,R.en)]=_;rw[vi,beq_self_eq_true];unfold tV;rw[Zq (by omega)]
theorem Ip:∀k x,x<=k->(rL k).lookup x=some (if x=0 then none else some (x-1))
 |0,x,h=>by
  obtain rfl:x=0:=by omega
  rfl
 |k+1,x,h=>by
  unfold rL;rw[List.lookup_append]
  by_cases z:x=k+1
  .subst z
   rw[LC λz=>by have:=D5 _ _ z;omega,Zq (by omega)];show List.lookup (k+1) [(k+1,some k)]=_;rw[vi,beq_self_eq_true]
   rfl
  .rw [Ip k x (by omega)]
   rfl
def Fe(G:∀e∈(S:WSt).u,e.k<=m)(Z:S.r=rL m)(M:S.u.length<=100)(N:m<=100)(J:S.wc<=9000):WOk true S:=
 ⟨λ_=>⟨λe L=>by rw[Z];exact Io _ _<|G e L,by rw[Z,Iq];omega,J⟩,by omega⟩
theorem QP(K:OnK R N)(T:k+1+j=R.D)(G:J8->WSt->Prop)(u:List UE)(O:u.length<=k+1)(L:∀e∈u,e.k<=R.D+1):
  ∀(i m:Nat)(S:WSt),m+i+1=R.o->S.s=s1 R->S.u=u++[⟨k+1,R.f,gB R R.o,[wV R (k+1) m]⟩]->S.r=rL (R.D+1)->S.h=hL R j->S.wc+i<=9000->
   (∀Z:WSt,Z.s=s1 R->Z.u=u->Z.r=rL (R.D+1)->Z.h=hL R (j+1)->Z.bg=S.bg->Z.wc=S.wc+i->Cm true N mo (.taken R.en) Z G)->Cm true N mo (.taken<|tV R<|k+2) S G
 |0,m,S,hm,hs,hu,hr,hh,hw,q=>by
  have C:=K.d7;have J:S.s.1.length<=100:=by rw[hs,UJ];omega
  refine Cm.taken hu (Qu K (by omega) J) (ZG _)<|Cm.head rfl (λ_=>⟨λz=>?_,?_⟩) ?_
  .have z':k+1∈S.h.map (·.1):=z
   rw[hh]at z';have:=RI _ _ z';omega
  .show S.h.length<=900
   rw[hh,Ml];omega
  .refine q _ hs rfl hr ?_ rfl rfl
   show S.h++[(k+1,R.en)]=_;rw[hh]
   conv=>rhs;unfold hL
   rw[show R.D-j=k+1 by omega]
 |i+1,m,S,hm,hs,hu,hr,hh,hw,q=>by
  have C:=K.d7;have J:S.s.1.length<=100:=by rw[hs,UJ];omega
  have M:=zT (R:=R) j (by omega);rw[show R.D+1-j=k+2 by omega]at M;refine Cm.taken hu (Qt K (by omega) J) (ZG _)<|Cm.tkn (t:=tV R<|k+2) (Fe (m:=R.D+1) (λe B=>?_) hr ?_ (by omega) (by show S.wc<=9000;omega)) (by show S.h.lookup (k+1+1)=_;rw[hh];exact M) ?_
  .have he':e∈u++[⟨k+1,R.f,gB R R.o,[wV R (k+1) (m+1)]⟩]:=B
   rcases ZX.mp he' with z|z
   .exact L e z
   .rw [ZQ]at z;subst z;show k+1<=_;omega
  .show (u++[_]).length<=100
   rw[ZL,vc];omega
  .exact QP K T G u O L i (m+1) _ (by omega) hs rfl hr hh (by show S.wc+1+i<=9000;omega) λZ U I A F E D=>q Z U I A F E (by rw[D];show S.wc+1+i=_;omega)
theorem Fh(K:OnK R M)(J:J8->WSt->Prop):∀(i k:Nat)(S:WSt),k+i=R.D->S.s=s1 R->S.bg+i+1<=mo->S.u.length<=k+1->(∀e∈S.u,e.k<=k)->Jn S.u=some k->S.r=rL k->S.h=[]->S.wc+10*i+10<=9000->
  (∀Z:WSt,Z.s=s1 R->Z.u=S.u->Z.r=rL (R.D+1)->Z.h=hL R i->Z.wc<=S.wc+10*i+10->Cm true M mo (.taken<|tV R<|k+1) Z J)->Cm true M mo (.st<|.want<|k+1) S J
 |0,k,S,hk,hs,hb,ul,uk,lu,hr,hh,hw,q=>by
  have C:=K.d7;obtain rfl:k=R.D:=by omega
  have N:S.s.1.length=R.D+1:=by rw[hs,UJ]
  refine Cm.go (sta:=⟨R.cs,[],Jm [] []⟩) (df:=dC R) (Fe uk hr (by omega) (by omega)<|by omega) (λ_=>⟨by rw[hh];simp,λz=>by rw[hr]at z;have:=D5 _ _ z;omega⟩) (by rw[hs];exact Cb) K.mc rfl (K.ok _ K.mc) (by omega) (by omega) (λ_=>trivial) (.tag (Tj _) (by omega) (by show 0+8<=400;omega) (by show 0<=400;omega) .stopH) (ZG _) ?_;refine Cm.head Y (λ_=>⟨by show R.D+1∉S.h.map (·.1);rw[hh];simp,by show S.h.length<=900;rw[hh];show 0<=900;omega⟩) ?_;rw[SH]at q;refine q _ hs Y ?_ ?_ ?_
  .show S.r++[(R.D+1,Jn S.u)]=_
   rw[hr,lu]
   rfl
  .show S.h++[(R.D+1,R.t0)]=_
   rw[hh]
   rfl
  .show S.wc+1<=_
   omega
 |i+1,k,S,hk,hs,hb,ul,uk,lu,hr,hh,hw,q=>by
  have C:=K.d7;have Q:=K.o1;have P:=K.o4;have N:S.s.1.length=R.D+1:=by rw[hs,UJ]
  obtain⟨G,y⟩:∃G,R.o=G+1:=⟨R.o-1,by omega⟩;refine Cm.go (sta:=⟨R.f,[],rhF R<|k+1⟩) (df:=dF R) (Fe uk hr (by omega) (by omega)<|by omega) (λ_=>⟨by rw[hh];simp,λz=>by rw[hr]at z;have:=D5 _ _ z;omega⟩) (by rw[hs];exact Ca K<|by omega) K.mf rfl (K.ok _ K.mf) (by omega) (by omega) (λ_=>trivial) (LY (m:=0) K (by omega)<|by omega) (ZG _) ?_;refine Fh K J i (k+1) _ (by omega) hs (by show S.bg+1+i+1<=mo;omega) (by show(S.u++[_]).length<=_;rw[ZL,vc];omega) (λe L=>?_) (G8 (S:={upW true (k+1) S with u:=S.u++[⟨k+1,R.f,gB R R.o,[wV R (k+1) 0]⟩]}) Y) ?_ hh (by show S.wc+1+10*i+10<=9000;omega) λZ U I A F E=>?_
  .have he':e∈S.u++[⟨k+1,R.f,gB R R.o,[wV R (k+1) 0]⟩]:=L
   rcases ZX.mp he' with z|z
   .have:=uk e z;omega
   .rw [ZQ]at z;subst z;exact ZG _
  .show S.r++[(k+1,Jn S.u)]=_
   rw[hr,lu]
   rfl
  .have e5':Z.wc<=S.wc+1+10*i+10:=E
   rw[OW (by omega)]at q;exact QP K (j:=i) (by omega) J S.u ul (λe L=>by have:=uk e L;omega) G 0 Z (by omega) U I A F (by omega) λX D B T O g t=>q X D B T O<|by omega
def bb(R:OnP)(k:Nat):Dat:=.tup [.tup [],Jt (pl0 R++ zr k)]
def dnE(R:OnP):kQ:=((List.range R.D).map λi=>Dat.tup [bb R (R.D-i),bb R (R.D-1-i)])++[.tup [bb R 0,.tup []],.tup [.tup [],.non]]
theorem Nn:∀(n:Nat)(Z:List Mk1),Z.length=n->(∀c∈Z,c.1=0)->Vq Z=.tup []::Z.map λc=>.tup [.tup [],Jt c.2]
 |0,Z,h,z=>by obtain rfl:=vj h;rfl
 |n+1,Z,h,z=>by
  have J:Z≠[]:=λz=>by rw[z]at h;cases h
  have e:=vw J;have ih:=Nn n Z.dropLast (by rw[jV,h];rfl) λc G=>z c<|List.dropLast_subset _ G;rw[<-e,U3,ih,ZK];unfold L4;rw[z _ (List.getLast_mem J)]
  rfl
theorem RN:∀(k:Nat)(Z:kE),csT N k Z=(List.range k).map λi=>((N,Z++ zr (i+1)):Mk1)
 |0,_=>rfl
 |k+1,Z=>by
  unfold csT;rw[RN k,qj,ZV,ve]
  congr 1
  refine qM λi _=>?_;show(N,Z++[0]++ zr (i+1))=(N,Z++ zr (i+1+1));rw[Mx]
def Nl:c0 R=(List.range<|R.D+1).map λi=>((0,pl0 R++ zr i):Mk1):=by
 unfold c0;rw[RN,qj,ZV,ve]
 congr 1
 rw[show zr 0=[]from rfl,ja]
def RW:Vq (c0 R)=.tup []::(List.range<|R.D+1).map (bb R):=by
 rw[Nn _ _ rfl λc Z=>?_]
 .rw [Nl,ve];rfl
 .rw [Nl]at Z
  obtain⟨i,_,rfl⟩:=ZW.mp Z
  rfl
def zg:bD (c0 R) 0=.tup []:=by unfold bD;rw[RW];rfl
def Aw(h:k<=R.D):bD (c0 R) (k+1)=bb R k:=by
 unfold bD;rw[RW,jd,List.getElem?_cons_succ,ZH,qK (by omega)]
 rfl
theorem NX:∀i,i<=R.D+1->(hL R i).map (·.1)=(List.range<|i+1).map λj=>R.D+1-j
 |0,_=>rfl
 |i+1,h=>by
  unfold hL;rw[ZK,NX i<|by omega,js (n:=i+1),ZK]
  congr 1
  show[R.D-i]=[R.D+1-(i+1)];rw[show R.D+1-(i+1)=R.D-i by omega]
def dOf(R:OnP)(x:Nat):Dat:=.tup [bD (c0 R) x,owD (c0 R) (if x=0 then none else some (x-1))]
def ze(T:1<=R.D)(S:WSt)(G:S.s=s1 R)(L:S.r=rL (R.D+1))(J:S.h=hL R R.D++[(0,R.en)]):dnL S=dnE R:=by
 unfold dnL
 have O:S.h.map (λp=>Dat.tup [bD S.s.1 p.1,owD S.s.1 ((S.r.lookup p.1).getD none)])=(S.h.map (·.1)).map (dOf R):=by
  rw[ve];refine qM λp M=>?_;have Z:p.1∈S.h.map (·.1):=qL M
  have:p.1<=R.D+1:=by
   rw[J,ZK]at Z;rcases ZX.mp Z with z|z
   .exact (RI _ _ z).2
   .have:p.1=0:=ZQ.mp z
    omega
  rw[G,L,Ip _ _ this]
  rfl
 rw[O,J,ZK,NX _<|by omega,js,ZK,ZK,ZK,ve,vZ];unfold dnE
 congr 1
 .refine qM λi N=>?_
  have:=j0.mp N;show dOf R (R.D+1-i)=_;unfold dOf;rw[Zq (by omega)];show Dat.tup [bD (c0 R) (R.D+1-i),bD (c0 R) (R.D+1-i-1)]=_;rw[show R.D+1-i-1=R.D-1-i+1 by omega,show R.D+1-i=R.D-i+1 by omega,Aw<|by omega,Aw (by omega)]
 .show [dOf R (R.D+1-R.D),dOf R 0]=_
  rw[show R.D+1-R.D=0+1 by omega];unfold dOf;rw[Zq (by omega),Zp rfl,Aw<|by omega,zg];show[Dat.tup [bb R 0,bD (c0 R) 0],Dat.tup [Dat.tup [],Dat.non]]=_;rw[zg]
def Fg(K:OnK R S)(P:R.D+2<=mo):Cm true S mo (.st<|.want 0) (S0 R.mn<|Ur<|dM R) λC Z=>C=.hd R.en/\Ay Z/\dnL Z=dnE R:=by
 have U:=K.d1;have y:=K.d7;obtain⟨m,g⟩:=zU K;refine Cm.go (sta:=⟨R.mn,[],Ur<|dM R⟩) (df:=dM R) ⟨λ_=>⟨λe M=>(by cases M),by show 0<=900;omega,by show 0<=9000;omega⟩,by show 0<=9000;omega⟩ (λ_=>⟨by show 0 ∉ [];simp,by show 0 ∉ [];simp⟩) (by show WH _ _ 0=_;unfold WH stP;rw[Zp rfl]) K.mm rfl (K.ok _ K.mm) (by show 0<=0;omega) (by show 0<mo;omega) (λ_=>trivial) g (by show 0<=_;omega) ?_;refine Fh K _ R.D 0 _ (by omega) Y (by show 0+1+_+1<=mo;omega) (by show 1<=1;omega) (λe M=>?_) Y Y Y (by show 0+1+_+_<=9000;omega) λJ I A F N Q=>?_
 .have:e=⟨0,R.mn,mB R,[]⟩:=ZQ.mp M
  subst this;exact ZG _
 .have e2':J.u=[]++[⟨0,R.mn,mB R,[]⟩]:=A
  rw[OW (by omega)]
  have D:0∉J.h.map (·.1):=λz=>by
   rw[N]at z;have:=RI _ _ z;omega
  have X:J.h.length=R.D+1:=by rw[N,Ml]
  refine Cm.taken e2' .stopH (ZG _)<|Cm.head rfl (λ_=>⟨D,by show J.h.length<=900;omega⟩) (Cm.fin rfl ?_)
  let Z:WSt:=K4.upH true 0 R.en {{J with u:=[]++[({(⟨0,R.mn,mB R,[]⟩:UE)with l:=[]}:UE)],s:=J.s}with u:=[]}
  have L:Z.h=hL R R.D++[(0,R.en)]:=by show J.h++[(0,R.en)]=_;rw[N]
  have T:Z.r=rL (R.D+1):=F;have O:Z.s=s1 R:=I;refine⟨Y,⟨λk E=>?_,?_⟩,ze U Z O T L⟩
  .have hk':k∈Z.h.map (·.1):=E
   have B:k<=R.D+1:=by
    rw[L,ZK]at hk';rcases ZX.mp hk' with z|z
    .exact (RI _ _ z).2
    .have:k=0:=ZQ.mp z
     omega
   show k<=Z.s.1.length/\∃o,Z.r.lookup k=some o/\∀j,o=some j->j<=Z.s.1.length;rw[O,UJ,T,Ip _ _ B];refine⟨B,_,Y,λj G=>?_⟩
   by_cases z:k=0
   .rw [Zp z]at G;cases G
   .rw [Zq z]at G;cases G;omega
  .show Z.h.length<=900
   rw[L,ZL,Ml];show _+1<=900;omega
end L2
namespace K4
open PySem L2
section
variable{f g C CK N fI:Addr}
structure DRt(ks:List (Str×Shp))(ds:List Dd)(x:Dd):Prop where
 ok:vP x
 kd:kdn ks (V1 (ds.map (·.1))) 13 (kvP x.1.2.1) x.2=some x.1.2.2
inductive SBK(C CK:Addr)(H:Hp)(Q:VK):List V->Prop
 |mk (A:BA) (kv:List (Key×V)) (ks:List (Str×Shp)) (c d:Str->Nat) (ds:List Dd) (bd:BD H C CK A kv ks d ds) (kg:KG ks) (kk:KK 30 c d ks) (k6:ks.length<=6) (ho:∀x∈ds,FZ (ks.map (·.1)) c 50 x.1) (dok:∀x∈ds,DRt ks ds x) (q:∀H',Same H H'->Q .non H'):SBK C CK H Q [.ref A.t]
def Sk(C CK:Addr):Sp:=λZ H Q _=>SBK C CK H Q Z
def AR(B:Blt j)(me:j "enumerate"=none)(TB:BCl K C)(F:Fun K "check_bodies" "Book.check_bodies" MR f fd)(mH:VI K C "names" g)(GH:Ye P w K j base CX0 n g gd ["self"] (Uu C CK))(bH:Binds K gd ["self"] [])(DK:Df P w K j base n "kind_or_place" ["book","around","body"] (Tx C CK 13)):Ye P w K j base CX0 (n+1) f fd ["self"] (Sk C CK):=by
 refine F.oi Jl λR6 A o s H vs Q E hr h=>?_;obtain⟨S,kv,ks,c,d,t,bd,kg,kk,k6,ho,O1,q⟩:=h;have hu:=JA hr;refine⟨_,YZ (V9 Zv Y (XC Y me (pa1<|Vj (pv 0) TB.cl mH GH hr bH .nil Y3)) (Vg (n:=2) rfl (Yn (Yl 1 Jl.nd)<|Yn (Yl 2 Jl.nd) VJ))
   (YY (Jq (Vl hu (Ym (pv 0) rfl) (pv 2) λ_ _=>rfl)<|Vg (n:=3) rfl (Yn (Yl 3 Jl.nd)<|Yn (Yl 4 Jl.nd)<|Yn (Yl 5 Jl.nd) VJ))
   (YY (Jq (VP DK hr<|pa3 (pv 0) (VZ (Wq rfl) rfl B.dict Ui (pa1<|pv 3))<|pv 5)<|Vg (n:=2) rfl (Yn (Yl 6 Jl.nd)<|Yn (Yl 7 Jl.nd) VJ))
   (YY (Y5 (Ys Wb (pv 6) Vi<|Y0 _) (YZ V4) Yp)
   (YZ<|Y5 (Ys UR (pv 6) (pv 4)<|Y0 _) (YZ V4) Yp))))),?_⟩
 dsimp only[VY,Cx.nox,Cx.wish];show let T0:=_;let T1:=VE _ T0 _;let T2:=_;let T3:=Yk (VE _ T2 _) T1;let T4:=Yk _ T3;let T5:=Yk _ T4;Uq _ _ T5 _ _ _
 intros
 show let a:=_;let b:=VE _ a _;let c:=_;let d:=Yk (VE _ c _) b;let e:=Yk _ d;let f:=Yk _ e;Uq _ _ f _ _ _
 intros
 refine⟨_,_,bd.ins,zY _,S.t,ks,d,t,Y,⟨S,kv,Y,bd⟩,λnl H1 s1 R3 T=>?_⟩;exists nl,false,_,Y,Z3 T
 let I:kM:=λi U D=>Same H1 D/\∃(z1 z2 z3 z4 z5 z6 z7:kP),U=[some (.ref S.t),z1,z2,z3,z4,z5,z6,z7]
 refine GX (tp:=false) (xs:=t.map λx=>V.str x.1.1) I ⟨Z8 _,_,_,_,_,_,_,_,Y⟩ (λi U D _ z=>Z3<|z.1 _ _ T) ?_ ?_
 .rintro BB' RR i x U D r hx ⟨si,z1,z2,z3,z4,z5,z6,z7,rfl⟩ hr'
  rw[ZH]at hx
  cases hc:t[i]? with
  |none=>rw[hc]at hx;cases hx
  |some Z=>
   rw[hc]at hx;cases hx;have hm:=ZJ hc;have o1:=ho Z hm;have X:=O1 Z hm;refine up_in hr' _ λHR sR gR=>?_;have M:=bd.mono<|(s1.trans si).trans sR;obtain⟨v,e1,e2⟩:=M.at hm;obtain⟨ta,u,wv,rfl,G2,R,G1⟩:=Xy e2;exists _,Z2 gR,Y;exists C,_,_,_,M.ins,TB.cl,TB.td,FG _,_,e1;exists _,Z2 G2,Y;unfold psD at R;obtain⟨l,xp,rfl,hl,O⟩:=Yv R;obtain⟨tp,rfl,G⟩:=Iy (K:=K) O;replace G:OL K HR tp (kvP Z.1.2.1):=G;have R1:(kvP Z.1.2.1).length=Z.1.2.1.length:=ZA _;have J:=o1.nd
   have J2:((kvP Z.1.2.1).map (·.1)).Nodup:=by
    unfold kvP;rw[ve];unfold List.Nodup at J |-;rw[qV]at J |-;exact J.imp λG3 q=>G3<|Sum.inr.inj q
   refine⟨l,tp,_,Y,hl,G,J2,λaA M2=>?_⟩;refine up_in M2 _ λH3 p g3=>?_;have l3:=o1.len;have R5:=X.ok.dep;have R4:=X.ok.size;refine⟨S.t,aA,wv,ks,c,d,t,kvP Z.1.2.1,Z.2,Y,⟨S,kv,Y,M.mono p⟩,kk,λf ps k e=>?_,λq' hq=>?_,λm L=>(ho m L).len,.inl g3,by omega,G1.mono p,X.ok.ok,by omega,by omega,λr4 p4 H4 s4 y _=>?_⟩
   .obtain ⟨m,L,e'⟩:=ZW.mp<|EQ e
    have:=(ho m L).own;rw[e']at this;exact this
   .obtain ⟨pr,hpr,rfl⟩:=ZW.mp hq
    exact⟨pr.1,pr.2,Y,o1.kin pr hpr⟩
   rw[X.kd]at y;replace y:H4 r4=some (.tup [.str Z.1.2.2,p4]):=y;exists _,Z2 y,Y;refine⟨Y,_,Y,Y1 (by simp) ?_⟩;refine⟨Y,_,Y,Y1 (by simp) ?_⟩;exact⟨((si.trans sR).trans p).trans s4,_,_,_,_,_,_,_,Y⟩
 .rintro U D ⟨si,_⟩
  exact q D<|s1.trans si
inductive SBN(C CK:Addr)(H:Hp)(Q:VK):List V->Prop
 |mk (x dx kl dl:Addr) (xs zs:List V) (ks:List (Str×Shp)) (c d:Str->Nat) (ds:List Dd) (hx:H x=some (.ins C dx [])) (hkl:H kl=some (.lst xs)) (hxs:HasL H xs (ks.map NS)) (kk:KK 30 c d ks) (nd:(ks.map (·.1)).Nodup) (kg:KG ks) (k0:0<ks.length) (k6:ks.length<=6) (hdl:H dl=some (.lst zs)) (hzs:HasL H zs (ds.map Tq)) (d0:0<ds.length) (d8:ds.length<=8) (wd:Wds 97 (ds.map λx=>x.1.1)) (ho:∀x∈ds,FZ (ks.map (·.1)) c 50 x.1) (dok:∀x∈ds,DRt ks ds x)
  (q:∀H',(∀b o,b≠x->H b=some o->H' b=some o)->BI H' C CK x ks d ds->Q .non H'):SBN C CK H Q [.ref x,.ref kl,.ref dl]
def Sj(C CK:Addr):Sp:=λZ H Q _=>SBN C CK H Q Z
def AQ(hm:m+1<=n)(L:BCl K C)(F:Fun K "__init__" "Book.__init__" BX f fd)(T7:Mk K CK gi)(mC:mg "Kinds"=some (.ref CK))(GI:Ye P w K mg base CX0 m gi M2 ["self","told"] (N3 CK))(bI:Binds K M2 ["self","told"] [])(m1:VI K C "take_heads" g1)(G1:Ye P w K mg base CX0 n g1 d1 ["self","definitions"] (IN C CK))(b1:Binds K d1 ["self","definitions"] [])(m2:VI K C "check_bodies" g2)(G2:Ye P w K mg base CX0 n g2 d2 ["self"] (Sk C CK))(b2:Binds K d2 ["self"] []):
  Ye P w K mg base CX0 (n+1) f fd ["self","kinds","definitions"] (Sj C CK):=by
 refine F.oi Ox λD0 A J2 s H vs Q E hr h=>?_;obtain⟨x,J,kl,dl,xs,zs,U,c,d,ds,hx,R4,R1,kk,nd,kg,k0,k6,R6,O1,d0,d8,wd,ho,R7,q⟩:=h;have R3:Vr (m+1) _:=hr.mono hm;refine⟨_,YY (VT (pv 0) (Ub T7 GI R3 Y mC bI .nil Y3 (pa1<|pv 1)) rfl)
  (YY (VT (pv 0) Vz rfl) (YY (VT (pv 0) Vz rfl) (YY (VT (pv 0) Vz rfl)
  (YY (VS<|Y4 (pv 0) L.cl m1 G1 hr b1 .nil Y3<|pa1<|pv 2)
  (YZ<|VS<|Vj (pv 0) L.cl m2 G2 hr b2 .nil Y3))))),?_⟩
 dsimp only[VY,Cx.nox,Cx.wish];show let T0:=_;let T1:=Yk _ T0;let T2:=Yk _ T1;let T3:=Yk _ T2;let T4:=Yk _ T3;Yk _ T4 _ _ _
 intros
 refine λt R ht R5 T9=>?_;have tx:upd (upd H R<|.own t) t (.ins CK R []) t=some (.ins CK R []):=Yf;have l:Same H (upd (upd H R<|.own t) t<|.ins CK R []):=λb o e=>by rw[Yg (Yb e ht),Yg (Yb e R5)];exact e
 generalize upd (upd H R<|.own t) t (.ins CK R [])=H7 at tx l |-;have T8:x≠t:=Yb hx ht;refine⟨t,R,kl,xs,U,c,d,Y,tx,l _ _ R4,R1.mono l,kk,nd,kg,k0,k6,λZ f8 G3=>⟨Y,?_⟩⟩;have s8:Same H Z:=λb o e=>f8 b o (Yb e ht)<|l b o e;have x8:=s8 _ _ hx;refine⟨x,C,J,_,Y,x8,L.cl,L.so,by decide,?_⟩;have u:upd Z x (.ins C J<|VQ "sorts" (.ref t) []) x=some (.ins C J<|VQ "sorts" (.ref t) []):=Yf;have i:∀b o,b≠x->Z b=some o->upd Z x (.ins C J<|VQ "sorts" (.ref t) []) b=some o:=λb o n e=>by rw[Yg n];exact e
 generalize upd Z x (.ins C J<|VQ "sorts" (.ref t) [])=H9 at u i |-;intro S B;refine⟨x,C,J,_,Y,by rw[Yg (Yb u B)];exact u,L.cl,L.td,(by show 1<1000;decide),?_⟩;obtain⟨r,a1,n1,r1⟩:=Jd (f:="told") (o:=.dK []) u B;generalize upd (upd H9 S<|.dK []) x (.ins C J<|VQ "told" (.ref S)<|VQ "sorts" (.ref t) [])=H1 at r a1 r1 |-;intro X O;refine⟨x,C,J,_,Y,by rw[Yg (Yb r O)];exact r,L.cl,L.rd,(by show 2<1000;decide),?_⟩;obtain⟨v,a2,n2,r2⟩:=Jd (f:="rows") (o:=.dK []) r O;generalize upd (upd H1 X<|.dK []) x (.ins C J<|VQ "rows" (.ref X)<|VQ "told" (.ref S)<|VQ "sorts" (.ref t) [])=H2 at v a2 r2 |-;intro p3 j;refine⟨x,C,J,_,Y,by rw[Yg (Yb v j)];exact v,L.cl,L.tn,(by show 3<1000;decide),?_⟩;obtain⟨x3,a3,n3,a⟩:=Jd (f:="turns") (o:=.dK []) v j;generalize upd (upd H2 p3<|.dK []) x (.ins C J<|VQ "turns" (.ref p3)<|VQ "rows" (.ref X)<|VQ "told" (.ref S)<|VQ "sorts" (.ref t) [])=H3 at x3 a3 a |-
 let T:BA:=⟨x,J,t,S,X,p3⟩
 have M:∀{b:Addr}{o:HO},Xs Z x b=some o->b≠x/\Z b=some o:=λ{b o} h=>by
  unfold Xs at h
  by_cases e:b=x
  .rw [Zp e]at h;cases h
  .rw [Zq e]at h;exact⟨e,h⟩
 have fr:∀b o,b≠x->Z b=some o->H3 b=some o:=λb o n e=>a b o n<|r2 b o n<|r1 b o n<|i b o n e;have sm:Same (Xs Z x) H3:=λb o h=>fr b o (M h).1 (M h).2
 have free:∀p:Addr,(∀o,p≠x->Z p=some o->False)->Xs Z x p=none:=λp h=>by
  cases e:Xs Z x p with
  |none=>rfl
  |some o=>exact(h o (M e).1 (M e).2).elim
 have T6:=r2 _ _ n1 a1;have T5:=a _ _ n1 T6;have R8:=a _ _ n2 a2;have bb:BB (Xs Z x) H3 C CK T U d:=⟨x3,sm,G3.out x8,free S λo n e=>(by have:=i _ _ n e;rw[B]at this;cases this),free X λo n e=>(by have:=r1 _ _ n<|i _ _ n e;rw[O]at this;cases this),Yb a1 O,Zs n1,Zs n2⟩;have bt:BT H3 T [] [] U []:=⟨T5,R8,rfl,Z6,(λy hy=>nomatch hy),ZG _⟩;have D:∀{b:Addr}{o:HO},H b=some o->o≠.ins C J []->Xs Z x b=some o:=λ{b o} h n=>Bm (JQ h hx n)<|s8 _ _ h;have tl:TL H (Xs Z x):=⟨λb xs h=>D h (by intro z;cases z),λb xs h=>D h (by intro z;cases z)⟩;refine⟨_,_,x3,y6 T,Xs Z x,T,dl,zs,U,c,d,ds,Y,bb,bt,kk,k6,D R6 (by intro z;cases z),HasL.tl tl _ O1,d0,d8,wd,ho,λH4 kv rv G I=>?_⟩;have k:BD H4 C CK T kv U d ds:=⟨G.ins,G.so.mono G.sm,I.td,I.ke,I.va,wd.nd⟩;refine⟨_,_,G.ins,vD T,T,kv,U,c,d,ds,k,kg,kk,k6,ho,R7,λH5 s5=>?_⟩;exact q H5 (λb o n e=>s5 _ _<|G.sm _ _<|Bm n<|s8 _ _ e) ⟨T,kv,rfl,k.mono s5⟩
end
end K4
namespace L2
open PySem
theorem Nm{b:Bd}:∀Z:kC,Bd.brs (Z.map λ_=>b) Z=Z.map λt=>.tup [.str t,b.dat]
 |[]=>by unfold List.map Bd.brs;rfl
 |t::Z=>by rw[ZV,ZV];unfold Bd.brs;rw[Nm Z]
theorem WJ:∀Z:kC,HasL H (Z.map V.str)<|Z.map Dat.str
 |[]=>Z6
 |w::Z=>Z4 (by unfold Has;rfl)<|WJ Z
def Ei{Z:kC}{k:Nat}{x:Str}(h:Z[k]?=some x):atI (Z.map V.str) (k:Int)=some (.str x):=VD (by rw[ZH,h];rfl)
end L2
namespace K4
open PySem L2
section
def Oi:Yh ["often","deep","many","k"] ["often","deep"] (Yd LE):=Y2
inductive SMn(H:Hp)(Q:VK):List V->Prop
 |mk (o D:Nat) (o4:o<=4) (d7:D<=7) (q:Q (.int (tN o D:Nat)) H):SMn H Q [.int (o:Nat),.int (D:Nat)]
def Sf:Sp:=λZ H Q _=>SMn H Q Z
def Cz(B:Blt G)(F:Fun K "_law_many_goings" "_law_many_goings" LE f L):Ye P w K G base CX0 (n+1) f L ["often","deep"] Sf:=by
 refine F.oi Oi λM A Z s H T Q E C h=>?_;obtain⟨o,D,S,X,q⟩:=h;refine⟨_,YY (Yx 2 Oi.nd<|Ya)
  (YY (V9 Zv rfl (JP rfl B.range (pa1<|pv 1)) (Yl 3 Oi.nd)
   (YZ<|Yx 2 Oi.nd<|Y7 Vk Ya<|Y7 Uy (pv 0)<|pv 2))
  (YZ<|Yi<|pv 2)),?_⟩
 show let R:=_;let O:=_;let N:=Yk (Uq _ _ O) R;Yk _ N _ _ _
 intros
 try dsimp only[VY,Cx.nox,Cx.wish]
 refine⟨_,Y,by omega,by omega,?_⟩;rw[vV]
 let I:kM:=λi U J=>J=H/\∃z,U=[some (.int (o:Nat)),some<|.int (D:Nat),some<|.int (tN o i:Nat),z]
 refine X1 (n:=D) I ⟨Y,_,Y⟩ ?_ ?_
 .rintro BB RR i U J hi ⟨rfl,z,rfl⟩
  exists .inl ⟨by omega,by omega⟩,Y,some<|.int<|0+(i:Int)
  have e:(1:Int)+(o:Int)*((tN o i:Nat):Int)=((tN o (i+1):Nat):Int):=by
   show _=((1+o*tN o i:Nat):Int);rw[Int.natCast_add,Int.natCast_mul]
   rfl
  rw[<-e]
  rfl
 .rintro U J ⟨rfl,z,rfl⟩
  exact q
def Oq:Yh ["own","tags","end","often","body","k"] ["own","tags","end","often"] (Yd LF):=Y2
def AT:List.Nodup [("tag":Str),"body"]:=by decide +kernel
inductive SGn(H:Hp)(Q:VK):List V->Prop
 |mk (R:OnP) (tl:Addr) (htl:H tl=some (.lst (R.tg.map V.str))) (t2:R.tg.length<=2) (o4:R.o<=4) (q:∀u H',Same H H'->Has H' u (gB R R.o).dat->Q u H'):SGn H Q [.str R.own,.ref tl,.str R.en,.int (R.o:Nat)]
def Sh:Sp:=λZ H Q _=>SGn H Q Z
def C3(B:Blt b)(F:Fun K "_law_gone_into" "_law_gone_into" LF f fd):Ye P w K b base CX0 (n+1) f fd ["own","tags","end","often"] Sh:=by
 refine F.oi Oq λJ2 A N s H c Q E hr h=>?_;obtain⟨R,l,G,t2,o4,q⟩:=h;refine⟨_,YY (Yx 4 Oq.nd (Yj<|pa2 (Yw)<|pv 2) (hx:=Or.inr rfl))
  (YY (V9 Zv rfl (JP rfl B.range (pa1<|pv 3)) (Yl 5 Oq.nd)
   (YZ<|Yx 4 Oq.nd (Yj<|pa3 (Yw) (Yj<|pa2 (Yw)<|pv 0)<|VZ Jj rfl B.tuple JC (pa1<|V6 ["tag"] [4] (Ju<|pv 1) (Vm (i:=0)<|by decide) (λcl C r s H=>Yl 0 AT rfl (Or.inl rfl) (Or.inr rfl)) λcl C r s H=>Yj<|pa2 (pv 0)<|pv 1)) (hx:=Or.inr rfl)))
  (YZ<|Yi<|pv 4)),?_⟩
 dsimp only[VY,Cx.nox,Cx.wish];show let T0:=_;let T1:=_;let T2:=Yk (Uq _ _ T1) T0;Yk _ T2 _ _ _
 intros
 refine⟨sl 2,λa x=>?_⟩;refine up_in x _ λH1 s1 g1=>?_;refine⟨_,Y,by omega,by omega,?_⟩;rw[vV]
 let I:kM:=λi U k=>Same H k/\∃u z,U=[some (.str R.own),some<|.ref l,some<|.str R.en,some<|.int (R.o:Nat),some u,z]/\Has k u (gB R i).dat
 refine X1 (n:=R.o) I ⟨s1,_,_,Y,?_⟩ ?_ ?_
 .unfold gB Bd.dat
  exact Yo g1<|Z4 Yz<|Z5 Yz
 .rintro BB RR i U H2 hi ⟨s2,v,z,rfl,hv⟩
  refine⟨sl 2,λa3 j=>?_⟩;refine up_in j _ λH3 d g3=>?_;have Z:=s2.trans d;exists ⟨_,Z3<|Z _ _ G⟩;refine Td (us:=R.tg) (D:=Dat.str) (F:=λt=>.tup [.str t,(gB R i).dat]) (λk s=>itl<|Z3<|s _ _<|Z _ _ G) (WJ _) (by omega) (λt y H7 Rr m M e hR=>?_) λc p H7 r M o O=>?_
  .obtain rfl:=has_str e
   refine⟨sl 2,λt8 S=>?_⟩;refine up_in S _ λH8 J g=>hR _ _ J ?_;exact Yo g<|Z4 Yz<|Z5<|hv.mono<|d.trans<|M.trans J
  .refine ⟨p,c,rfl,.inl ⟨Z3 o,λp1 X=>?_⟩⟩
   refine up_in X _ λH8 J g=>⟨sl 3,λt9 T=>?_⟩;refine up_in T _ λH9 L g9=>⟨Z.trans<|M.trans<|J.trans L,_,_,rfl,?_⟩;unfold gB
   conv=>arg 3;unfold Bd.dat
   rw[Nm];refine Yo g9 (Z4 Yz<|Z4 ?_<|Z5<|Yo (L _ _ g)<|O.mono<|J.trans L)
   conv=>arg 3;unfold Bd.dat
   exact Yo ((M.trans<|J.trans L) _ _ g3)<|Z4 Yz<|Z5 Yz
 .rintro U H2 ⟨s2,v,z,rfl,hv⟩
  exact q v H2 s2 hv
end
end K4
namespace L2
open PySem
def QH(Z:kE)(m:Nat):UW (Z.map V.int) none (some (m:Int))=(Z.take m).map V.int:=by
 unfold UW;rw[HT.sIx_none,HT.sIx_nat,List.drop_zero,qW,ZA,qb];rcases Nat.le_total m Z.length with h|h
 .rw [vR h]
 .rw [Nat.min_eq_right h,Zg (by rw[ZA];exact ZG _),Zg (by rw[ZA];exact h)]
def QG(Z:kE)(m:Nat)(G:kD):∃J:kE,UW (Z.map V.int) (some (m:Int)) G=J.map V.int/\J.length<=Z.length-m:=by
 unfold UW;refine⟨_,by rw[<-List.map_drop,<-qb],?_⟩;rw[ZN,jk,ZA,HT.sIx_nat];refine Zb (Nat.min_le_right _ _) ?_;rcases Nat.le_total m Z.length with h|h
 .rw [vR h]
  exact ZG _
 .rw [Nat.min_eq_right h,vt]
  exact Zc _
theorem RF:∀Z:kE,HasL H (Z.map V.int)<|Z.map Dat.int
 |[]=>Z6
 |w::Z=>Z4 (by unfold Has;rfl)<|RF Z
theorem TN:∀Z:kE,Dat.deps (Z.map Dat.int)<=1
 |[]=>by simp[Dat.deps]
 |w::Z=>by
  rw[ZV];unfold Dat.deps;have:=TN Z;simp only[Dat.dep];omega
end L2
namespace K4
open PySem L2
section
def Ot:Yh ["script","many","found","k","cell"] ["script","many"] (Yd Ma):=Y2
inductive SFo(K:W.Frag)(H:Hp)(Q:VK):List V->Prop
 |mk (a:Addr) (ns:List Int) (m:Nat) (m1:1<=m) (m2:m<=60) (hS:SqL K H a (ns.map V.int)) (hl:ns.length<=63)
  (q:∀(p:Addr)(ms:List Int)(H':Hp),Same H H'->H p=none->H' p=some (.lst (ms.map V.int))->1<=ms.length->ms.length<=m->Q (.ref p) H'):SFo K H Q [.ref a,.int (m:Nat)]
def Si(K:W.Frag):Sp:=λZ H Q _=>SFo K H Q Z
def C4(B:Blt u)(me:u "enumerate"=none)(F:Fun K "_law_folded" "_law_folded" Ma f fd):Ye P w K u base CX0 (n+4) f fd ["script","many"] (Si K):=by
 refine F.oi Ot λJ2 A D s H vs Q E hr h=>?_;obtain⟨a,M,m,m1,m2,l,hl,q⟩:=h;refine⟨_,YY (Yx 2 Ot.nd<|VZ Uh rfl B.list Jg (pa1<|Vy Xm (pv 0) JV<|JE<|pv 1))
  (YY (V9 Zv rfl (XC rfl me (pa1<|Vy Xm (pv 0) (JE<|pv 1)<|JE Ya)) (Vg (n:=2) rfl (Yn (Yl 3 Ot.nd)<|Yn (Yl 4 Ot.nd) VJ))
   (YZ<|Jq (Y7 Vk (Yr VH (pv 2) (Y7 Jf (pv 3)<|pv 1) λ_ _=>rfl)<|pv 4)<|MV (pv 2) (Y7 Jf (pv 3)<|pv 1) set_list))
  (YY (Y5 (Ys (Bo hr) (pv 2) (JJ VR)<|Y0 _) (YZ<|VS<|Uw Zz Z0 Z1 JR (pv 2)<|pa1<|Ya) Yp)
  (YZ<|Yi<|pv 2))),?_⟩
 dsimp only[VY,Cx.nox,Cx.wish];show let T0:=_;let T1:=_;let T2:=Yk (VE _ T1 _) T0;let T3:=_;let T4:=Yk (Uq _ _ T3) T2;Yk _ T4 _ _ _
 intros
 refine⟨_,Y,a,_,Y,l,λl1 h1=>?_⟩;rw[QH];refine up_in h1 _ λH1 s1 g1=>⟨l1,_,Y,.inl<|Z3 g1,λJ O=>?_⟩;refine up_in O _ λH2 d g2=>⟨_,Y,63,Y,a,_,Y,d.seq<|s1.seq l,λv h3=>?_⟩;obtain⟨zs,ez,lz⟩:=QG M m<|some 63;rw[ez];refine up_in h3 _ λH3 p g3=>⟨v,false,_,Y,Z3 g3,?_⟩;have S:v≠J:=(Yb g2 h3).symm;have t:=p _ _ g2;have C:(M.take m).length=min m M.length:=ZN
 let I:kM:=λi U k=>SameB J H3 k/\∃(Z:kE)(T R:kP),U=[some (.ref a),some<|.int (m:Nat),some<|.ref J,T,R]/\Z.length=min m M.length/\k J=some (.lst<|Z.map V.int)
 refine GX (tp:=false) (xs:=zs.map V.int) I ⟨λ_ _ _ e=>e,M.take m,_,_,Y,C,t⟩ (λi U k _ z=>Z3<|z.1 _ _ S g3) ?_ ?_
 .rintro BB RR i x U H4 r hx ⟨b4,Z,T,R,rfl,lm,g4⟩ hr'
  rw[ZH]at hx;obtain⟨ce,X,rfl⟩:=Zj.mp hx;have iz:=(ZF.mp X).1;have ml:Z.length=m:=by omega
  refine up_in hr' _ λH5 G y=>?_;have N:=G _ _ g4;have im:i % m<Z.length:=by rw[ml];exact qi _<|by omega
  have em:((i:Nat):Int) % ((m:Nat):Int)=((i % m:Nat):Int):=(Int.natCast_emod i m).symm;exists _,Z2 y,Y;exists by omega,_,V.int<|Z[i % m]'im,Z3 N,by rw[em];exact VD (by rw[ZH,ZD im];rfl),by omega,J,_,_,i % m,rfl,rfl,N,?_
  .rw [em]
   unfold ixN;rw[Zp (by omega),Zp (by rw[ZA];omega),vV]
  .refine fld_in J _ λH6 g j=>⟨λb o n e=>g _ _ n<|G _ _<|b4 _ _ n e,Z.set (i % m)<|Z[i % m]'im+ce,_,_,rfl,by rw[List.length_set];exact lm,?_⟩
   rw[j,List.map_set]
 .rintro U H4 ⟨b4,Z,T,R,rfl,lm,g4⟩
  have L:∀{b o},H b=some o->H4 b=some o:=λe=>b4 _ _ (Yb (s1 _ _ e) O)<|p _ _<|d _ _<|s1 _ _ e;have f2:H J=none:=s1.free O;refine⟨sl 0,λe he=>?_⟩;refine up_in he _ λH5 G y=>⟨.lst<|Z.map Dat.int,.lst [],?_,?_,?_,_,rfl,?_⟩
  .unfold Has
   exact⟨J,_,Y,G _ _ g4,RF _⟩
  .unfold Has
   exact⟨e,_,Y,y,Z6⟩
  .have:=TN Z
   simp only[Dat.dep];omega
  rw[S7]
  cases Z with
  |nil=>
   refine VF Y ⟨.inl ⟨Y,_,Z3<|G _ _ g4⟩,J,_,_,rfl,rfl,G _ _ g4,Yu (by simp),?_⟩;refine fld_in J _ λH6 g j=>?_;exact q J [0] H6 (λb o e=>g _ _ (Yb (s1 _ _ e) O)<|G _ _<|L e) f2 j (by simp)<|by simpa using m1
  |cons c Z=>
   refine Y1 (by simp) ?_;exact q J (c::Z) H5 (λb o e=>G _ _<|L e) f2 (G _ _ g4) (by simp)<|by omega
end
end K4
namespace L2
open PySem
abbrev ks2(R:OnP):kS:=[(R.kd,.tags R.tg)]
structure OnO(R:OnP):Prop where
 t1:1<=R.tg.length
 t2:R.tg.length<=2
 te:R.tg[R.ei]?=some R.en
 tz:R.tg[0]?=some R.t0
 o1:1<=R.o
 o4:R.o<=4
 d1:1<=R.D
 d7:R.D<=7
 wk:Wds 97 [R.kd,R.own]
 wt:∃tgs r,Wds 65 tgs/\r<4/\R.tg=tgs.take (1+r)
 wn:Wds 97 [R.f,R.mn,R.cs]
def sh2:Ve (ks2 R) R.kd=some (.tags R.tg):=by simp[Ve]
def Qg(o:OnO R)(h:x∈ods R):V1 ((ods R).map (·.1)) x.1.1=some x.1.2:=LO (ds:=ods R) (by exact o.wn.nd) h
theorem Qs{g:kJ}{hd:Hds}(o:OnO R)(e:VC g (Sum.inr R.own)=some (.str R.kd)):∀j,Kd (ks2 R) hd g R.kd<|gB R j
 |0=>Kd.tag sh2<|ZJ o.te
 |j+1=>by
  unfold gB;refine Kd.choose sh2 (Kd.name e) (by rw[ZA]) λb Z=>?_;obtain⟨t,_,rfl⟩:=ZW.mp Z;exact Qs o e j
theorem LI{g:kJ}(o:OnO R):∀k,Kd (ks2 R) (V1<|(ods R).map (·.1)) g R.kd<|iB R k
 |0=>Kd.ask (ps:=[]) (Qg o (x:=dC R)<|by simp[ods]) rfl λi a p Z _=>by simp at Z
 |k+1=>Kd.ask (ps:=[(R.own,R.kd)]) (Qg o (x:=dF R)<|by simp[ods]) rfl λi a p Z J=>by
  match i,Z,J with
  |0,Z,J=>cases Z;cases J;exact LI o k
  |i+1,Z,J=>simp at Z
theorem L7(o:OnO R):∀j,(gB R j).ok/\(gB R j).dep<=j
 |0=>by unfold gB;exact⟨by simp[Bd.ok],by simp[Bd.dep]⟩
 |j+1=>by
  have L:=o.t1;have N:=o.t2;obtain⟨M,O⟩:=L7 o j
  have G:∀Z:kC,Bd.oks (Z.map λ_=>gB R j):=λZ=>by
   induction Z with
   |nil=>simp[Bd.oks]
   |cons a l ih=>rw[ZV];unfold Bd.oks;exact⟨M,ih⟩
  have J:∀Z:kC,Bd.deps (Z.map λ_=>gB R j)<=j:=λZ=>by
   induction Z with
   |nil=>simp[Bd.deps]
   |cons a l ih=>rw[ZV];unfold Bd.deps;omega
  unfold gB;exists ?_
  .unfold Bd.ok
   exact⟨by simp[Bd.ok],by rw[ZA],⟨L,by omega⟩,G _⟩
  .unfold Bd.dep
   have:=J R.tg;simp only[Bd.dep];omega
theorem L6:∀k,(iB R k).ok/\(iB R k).dep<=k+1
 |0=>by unfold iB;exact⟨by simp[Bd.ok,Bd.oks],by simp[Bd.dep,Bd.deps]⟩
 |k+1=>by
  obtain⟨Z,J⟩:=L6 (R:=R) k;unfold iB;exists ?_
  .simp [Bd.ok,Bd.oks,Z]
  .simp only[Bd.dep,Bd.deps]
   omega
def OnO.bok(o:OnO R):∀x∈ods R,x.2.ok/\x.2.dep<=9/\x.2.size<=100:=by
 have J:=o.o4;have L:=o.d7;intro x Z;rcases Zd.mp Z with rfl|Z
 .obtain ⟨h1,h2⟩:=L7 o R.o
  have:=Qz (j:=R.o) o.t2 J;exact⟨h1,by show(gB R R.o).dep<=9;omega,by show(gB R R.o).size<=100;omega⟩
 rcases Zd.mp Z with rfl|Z
 .obtain ⟨h1,h2⟩:=L6 (R:=R) R.D
  have G:=EN (R:=R) R.D;show(mB R).ok/\(mB R).dep<=9/\(mB R).size<=100;unfold mB
  split
  .refine ⟨by simp[Bd.ok,h1],?_,?_⟩
   .simp only[Bd.dep];omega
   .simp only[Bd.size];omega
  .exact ⟨h1,by omega,by omega⟩
 .rw [ZQ]at Z
  subst Z;exact⟨by simp[dC,Bd.ok],by simp[dC,Bd.dep],by simp[dC,Bd.size]⟩
def OnO.tn(o:OnO R):R.tg.Nodup:=by
 obtain⟨Z,r,w,h,e⟩:=o.wt;rw[e];exact w.nd.sublist<|ju _ _
def OnO.k(o:OnO R):OnK R (ods R):=⟨o.t1,o.t2,o.tn,o.te,o.tz,o.o1,o.o4,o.d1,o.d7,o.wn.nd,by simp[ods],by simp[ods],by simp[ods],λx h=>(o.bok x h).1⟩
def c2(R:OnP):kT:=λ_=>1+R.tg.length
def OnO.kk(o:OnO R):KK 30 (c2 R) (λ_=>0) (ks2 R):=by
 rintro i y s h
 match i,h with
 |0,h=>
  cases h;exact⟨o.t1,by have:=o.t2;omega,Y,Y,o.tn⟩
 |i+1,h=>simp at h
def OnO.kg(o:OnO R):KG (ks2 R):=by
 obtain⟨Z,r,w,h,e⟩:=o.wt;have J:=o.wk;exists ⟨by simp,λy h=>J.len y ?_,λy h=>J.abc y ?_⟩,⟨Z,w,?_⟩
 .have:y=R.kd:=by simpa using h
  rw[this];exact Za
 .have:y=R.kd:=by simpa using h
  rw[this];exact Za
 .rintro i y ts hh
  match i,hh with
  |0,hh=>cases hh;exact⟨r,h,by rw[e];rfl⟩
  |i+1,hh=>simp at hh
 .rintro i1 i2 y1 y2 a b h1 h2
  match i1,h1 with
  |0,h1=>cases h1
  |i+1,h1=>simp at h1
def OnO.hd(o:OnO R):∀x∈ods R,FZ ((ks2 R).map (·.1)) (c2 R) 50 x.1:=by
 have L:=o.t2;have J:∀n,FZ ((ks2 R).map (·.1)) (c2 R) 50 (n,[],R.kd):=λn=>⟨(by show 0<=3;decide),λp h=>(by cases h),by simp,jm,λp h=>(by cases h),(by show 1<=50;decide)⟩
 have G:∀n,FZ ((ks2 R).map (·.1)) (c2 R) 50 (n,[(R.own,R.kd)],R.kd):=λn=>by
  exists by show 1<=3;decide,λp h=>?_,by simp,by simp,λp h=>?_
  .rw [ZQ]at h;subst h;simp
  .rw [ZQ]at h;subst h
   have m:R.own∈ [R.kd,R.own]:=by simp
   exact⟨(o.wk.len _ m).1,(o.wk.len _ m).2,o.wk.abc _ m⟩
  .show 1*(1+R.tg.length)<=50
   omega
 intro x Z;rcases Zd.mp Z with rfl|Z
 .exact G _
 rcases Zd.mp Z with rfl|Z
 .exact J _
 .rw [ZQ]at Z
  subst Z;exact J _
def OnO.rt(o:OnO R):∀x∈ods R,K4.DRt (ks2 R) (ods R) x:=by
 have L:∀z G,Ve (ks2 R) z=some (.tags G)->1<=G.length:=λz G e=>(o.kk.at e).1;have Z:R.kd∈(ks2 R).map (·.1):=by simp
 intro x J;obtain⟨N,O,M⟩:=o.bok x J;refine⟨⟨N,by omega,M⟩,?_⟩;refine Kd.kdn o.kg L 13 _ _ _ ?_ (by omega);rcases Zd.mp J with rfl|J
 .exact Qs o (by show VC [((Sum.inr R.own:Key),V.str R.kd)] _=_;exact Vh Y) R.o
 rcases Zd.mp J with rfl|J
 .show Kd _ _ _ R.kd (mB R)
  unfold mB
  split
  .have pn:VC (putK (kvP []) (Sum.inr R.own)<|V.str R.kd) (Sum.inr R.own)=some (.str R.kd):=by rw[Vx,Zp rfl]
   exact Kd.letb Y Z (LI o R.D) (Kd.name pn)
  .exact LI o R.D
 .rw [ZQ]at J
  subst J;exact Kd.tag sh2<|ZJ o.tz
end L2
namespace L2
open PySem PySem.Spec PyProof.Rows
section
variable{prog:Program}{w:World}{A:Around}{E:kz}{s:Shared}
def Ik(n:Int):Obj:={cls:=.type "range_iterator",data:=.fields #[rawInt (n-1),rawInt n,rawInt (-1)]}
def Th{r:Addr}{n:Int}{t u v:Tok}{Q:kz}(Z:IsRange s.heap r 0 n 1 t u v)(N:0<=n)(M:n<2 ^ 62)(h:Q (.ref s.heap.objs.size) {s with heap:=s.heap.push (Ik n)}):wpAny (model prog w) A (call (.builtin "range.__reversed__") [.ref r]) Q E s:=by
 have J:s.TypeIs (.ref r) "range":=⟨_,Z,rfl⟩;refine vq F.slot_range_reversed J F.entry_range_reversed ?_<|F.args_range_reversed_1 _;unfold Builtin.«range.__reversed__»;refine Zl<|jw (a:=Value.ref r) rfl ?_;refine Zl (?_:wpAny _ _ (Builtin.Range.rangeFields _) _ _ _);unfold Builtin.Range.rangeFields;refine Zl<|Zo Z rfl (x:=.int 0 t) rfl ?_;refine Zl<|jw (a:=some (0:Int)) rfl ?_;refine Zl<|Zo Z rfl (x:=.int n u) rfl ?_;refine Zl<|jw (a:=some n) rfl ?_;refine Zl<|Zo Z rfl (x:=.int 1 v) rfl ?_;refine Zl<|jw (a:=some (1:Int)) rfl ?_;refine Zm ?_;have L:Builtin.Range.rangeSize 0 n 1=n:=by unfold Builtin.Range.rangeSize;simp;omega
 have G:(Builtin.Range.rangeFitsLong 0 && Builtin.Range.rangeFitsLong n && Builtin.Range.rangeFitsLong 1 && Builtin.Range.rangeFitsLong (-1) && Builtin.Range.rangeFitsLong (0-1) && Builtin.Range.rangeFitsLong n)=true:=by
  unfold Builtin.Range.rangeFitsLong;simp;omega
 simp only[L,G];simp only[qc,jc,if_false,if_true];rw[show(0:Int)+(n-1)*1=n-1 by omega]
 first
 |exact Zl<|vS<|Zm ⟨_,rfl,h⟩
 |exact Zl<|Zm<|Zl<|vS<|Zm ⟨_,rfl,h⟩
def XJ{r:Addr}{n:Int}{t u v:Tok}{Z:kz}(J:IsRange s.heap r 0 n 1 t u v)(M:0<=n)(L:n<2 ^ 62)(h:Z (.ref s.heap.objs.size) {s with heap:=s.heap.push (Ik n)}):
  codeAny (model prog w) A (.call (.builtin "reversed.__new__") ⟨[.type "reversed",.ref r],[]⟩) (wants Z E) s:=by
 have G:s.TypeIs (.ref r) "range":=⟨_,J,rfl⟩;refine codeAny_of_tree ?_;show wpAny _ A.in1 (do checkBuiltinCall "reversed.__new__" ⟨[.type "reversed",.ref r],[]⟩;again (.builtin "reversed.__new__" ⟨[.type "reversed",.ref r],[]⟩)) _ _ s;refine Zl<|jw (F.newCall_reversed_1 _)<|Zm ⟨qw F.plain_reversed_new _,j7 F.entry_reversed_new ?_⟩;rw[Around.under_plainId F.plain_reversed_new _];unfold Builtin.«reversed.__new__»;refine Zl (jw (newClass_reversed _) ?_)
 try dsimp only
 refine Zl<|jw (a:=()) (by first|rfl|kernel_rfl) ?_;refine Zl (jw (a:=()) (by first|rfl|kernel_rfl) ?_)
 try dsimp only
 refine Zl (jy G F.slot_range_reversed.lookup ?_)
 try dsimp only
 refine Zl (jw (F.slot_range_reversed.bind _) ?_)
 try dsimp only
 first
 |rw[Zq (show ¬((Value.builtin "range.__reversed__"==Value.none)=true)from Zi)]
 |(show wpAny _ _ (if(Value.builtin "range.__reversed__"==Value.none)=true then _ else _) _ _ _;rw[Zq (show ¬((Value.builtin "range.__reversed__"==Value.none)=true)from Zi)])
 refine Zl<|jD ?_;refine Zl (m:=runValue<|.call (.builtin "range.__reversed__") ⟨[.ref r],[]⟩) (show wpAny _ _ (call (.builtin "range.__reversed__") [.ref r]) _ _ _ from Th J M L ?_)
 first
 |exact Zm h
 |exact Zl<|Zm<|Zm h
def WG:isSubtype (.type "range_iterator") (.type "reversed")=pure false:=by rw[isSubtype_type];kernel_rfl
def XM{r:Addr}{n:Int}{t u v:Tok}{Q:kz}(G:IsRange s.heap r 0 n 1 t u v)(M:0<=n)(L:n<2 ^ 62)(h:Q (.ref s.heap.objs.size) {s with heap:=s.heap.push (Ik n)}):wpAny (model prog w) A (call (.type "reversed") [.ref r]) Q E s:=by
 refine callType_other (U:="range_iterator") (Q₁:=λJ Z=>J=.ref s.heap.objs.size/\Z={s with heap:=s.heap.push (Ik n)}) (by decide +kernel) F.create_reversed ⟨_,_,F.mro_reversed⟩ F.made_reversed WG (F.typeCall_reversed_1 _) ?_ ?_
 .exact XJ G M L ⟨rfl,rfl⟩
 rintro J Z ⟨rfl,rfl⟩;exact⟨⟨_,ZY _ Y,Y⟩,h⟩
end
def Q6(n:Nat):It:=⟨λi _=>i<n,λi H x Z=>Z=H/\x=.int ((n:Int)-1-i),λi _=>n<=i⟩
def Em{P:Program}{w:World}{K:PySem.W.Frag}{q:Expr}(J:Addr)(n:Nat):Turn P w K q (Q6 n) [J] J (λi h=>IsRangeIter h J ((n:Int)-1+(i:Nat)*(-1)) ((n:Int)-(i:Nat))<|-1) where
 mem:=by simp
 obj:=λi h st b G=>by
  have e:b=J:=by simpa using G
  subst e
  exact⟨_,st,λv z=>by
   have y:Data.fields _=Data.cell v:=z;cases y⟩
 keep:=λi h N st k=>k J (by simp) _ st
 item:=by
  intro X B O D T i Z s U H E I M st R;subst B O D;obtain⟨Q,C,p,S,A,F⟩:=M J (by simp);have W:=Walks.range (prog:=X.prog) (w:=X.w) (I.ok.hd T) J ((n:Int)-1) (-1) n;refine W.item i s _ _ R st λv N j g L m=>?_;obtain⟨t,rfl⟩:=g;have d:Inv X Z U H {s with heap:=N,toks:=j}:=I.turned (λb o G e=>m b o (by simpa using G) e) Q C S A F;refine⟨_,Y,EU (s:={s with heap:=N,toks:=j}) (n:="range_iterator") L Y Y (by decide) ⟨.int<|(n:Int)-1-i,H,d,⟨t,?_⟩,⟨rfl,rfl⟩,L,λb G=>(M b G).1⟩⟩;rw[show(n:Int)-1+(i:Nat)*(-1)=(n:Int)-1-i by omega]
 done:=by
  intro X B O D T i Z s U H E I M st R;subst B O D;obtain⟨Q,C,p,S,A,F⟩:=M J (by simp);exact wpAny_pyNext_range_end (I.ok.hd T) st (by have:n<=i:=R;omega) λN c=>⟨Y,I.turned (t':=s.toks) (λb o G e=>c b o G e) Q C S A F⟩
 self:=λ_ _ _ _ _ st h=>qF st h
def zP(ta:TA):TI:=λU H R=>ta U H λZ J=>∃j:Nat,Z=[.int (j:Nat)]/\(j:Int)<2 ^ 62/\R (Q6 j) J
def O8(D:Gl X "reversed")(B:X.mg "reversed"=none)(A:Gl X "range")(F:X.mg "range"=none)(C:PA X [a] ta)(E:starEach [a] X.env=[(false,eval a X.env)]:=by rfl)(J:starEach [.Call (.Name "range" p) [a] [] pos] X.env=[(false,eval (.Call (.Name "range" p) [a] [] pos) X.env)]:=by rfl):PI X tg (.Call (.Name "reversed" p2) [.Call (.Name "range" p) [a] [] pos] [] pos2) (zP ta):=by
 intro Z s U H R I h;refine Call_<|UN I D B boot_reversed<|vo ?_ J rfl;rw[J];show wpAny _ _ (spliced [(false,eval (.Call (.Name "range" p) [a] [] pos) X.env)]) _ _ s;refine Calls.spliced_cons<|Call_<|UN I A F boot_range<|vo (thn (C pos Z s U H _ I h) λy s1 ⟨Q,L,P,N,T⟩=>?_) E rfl;obtain⟨j,e,O,q⟩:=T;subst e
 cases N with
 |cons r M=>
  cases M;obtain⟨t,rfl⟩:=r;refine call_range_1<|Calls.spliced_nil ?_;refine XM (n:=(j:Nat)) (IsRange.new ..) (by omega) O ?_;have G:Inv X Z U L {s1 with heap:=s1.heap.push {cls:=.type "range",data:=.fields #[.int 0 s1.toks,.int (j:Nat) t,.int 1 (s1.toks+1)]},toks:=s1.toks+1+1}:=P.kept λb o e=>ZE _ e;generalize ({s1 with heap:=s1.heap.push {cls:=.type "range",data:=.fields #[.int 0 s1.toks,.int (j:Nat) t,.int 1 (s1.toks+1)]},toks:=s1.toks+1+1}:Shared)=s2 at G |-;have st:IsRangeIter (s2.heap.push<|Ik j) s2.heap.objs.size ((j:Int)-1) (j:Nat) (-1):=ZY _ rfl;refine qF st ⟨s2.heap.objs.size,[s2.heap.objs.size],_,_,L,Y,G.kept (t':=s2.toks) λb o e=>ZE _ e,Em _ j,?_,λb S=>?_,q⟩
  .show IsRangeIter _ _ ((j:Int)-1+((0:Nat):Int)*(-1)) ((j:Int)-((0:Nat):Int)) (-1)
   rw[show(j:Int)-1+((0:Nat):Int)*(-1)=(j:Int)-1 by omega,show(j:Int)-((0:Nat):Int)=(j:Nat) by omega];exact st
  .have e:b=s2.heap.objs.size:=by simpa using S
   subst e;exact G.fpOk (ZG _)<|G.hok.fresh<|ZG _
def vG(K:W.Frag)(n:Nat)(t:TGs):TG:=λv U H Q=>V7 v λa=>∃Z,SqL K H a Z/\Z.length=n/\t Z U H Q
def KE(F:X.calm=true)(h:PGs X M t)(D:(assignEach M X.env).length=n:=by rfl)(L:(assignEach M X.env).findIdx? (·.1)=none:=by rfl):PG X (.Tuple M k pos) (vG X.K n t):=by
 intro Z s U H v u Q I r J;replace J:=V7.old J;obtain⟨a,C,O,B,E,J⟩:=J;subst C;cases r;obtain⟨G,N,T,j⟩:=I.list B;rw[assign_Tuple];refine Zl<|jn ?_;unfold unpack;have S:n=G.toArray.size:=by rw[ZO,<-E,N.length]
 rw[D,L,S];refine Zl<|wpAny_holding<|W.kun_itemsOf (I.ok.hd F) T.isList λA R=>?_;have P:Inv X Z U H {s with heap:=A}:=I.kept (t':=s.toks) λb o e=>R b o (Ze<|ZP e) e;exact h Z _ U H O _ Q P (by simpa using N) J
end L2
namespace L2
open PySem
theorem Do(h:o<=o'):∀i,tN o i<=tN o' i
 |0=>ZG _
 |i+1=>by
  unfold tN;have:=Nat.mul_le_mul h<|Do h i;omega
def SM:tN o 1=1+o:=by unfold tN tN;omega
def AS(h:H a=some (.tup [.str "name",.str x])):Has H (.ref a) (Bd.name x).dat:=by
 unfold Bd.dat;exact Yo h<|Z4 Yz<|Z5 Yz
def OB(h:H c=some (.tup [.str "ask",.str f,.ref b]))(Z:H b=some (.tup [])):Has H (.ref c) (Bd.ask f []).dat:=by
 conv=>arg 3;unfold Bd.dat
 refine Yo h<|Z4 Yz<|Z4 Yz<|Z5<|Yo Z ?_;unfold Bd.dats;exact Z6
def FX(h:H c=some (.tup [.str "ask",.str f,.ref b]))(J:H b=some (.tup [v]))(Z:Has H v d.dat):Has H (.ref c) (Bd.ask f [d]).dat:=by
 conv=>arg 3;unfold Bd.dat
 refine Yo h<|Z4 Yz<|Z4 Yz<|Z5<|Yo J ?_;unfold Bd.dats;refine Z4 Z ?_;unfold Bd.dats;exact Z6
def QJ{K:W.Frag}{Q:VK}(L:H a=some (.tup J))(G:H b=some (.tup Z))(l:J.length+Z.length<=1000)(q:∀p M,Same H M->M p=some (.tup<|J++ Z)->Q (.ref p) M):J3 K (.ref a) (.ref b) H Q\/J1 K (.ref a) (.ref b) H Q:=by
 cases J with
 |nil=>exact .inl ⟨a,b,Z,Y,Y,Z2 L,Z2 G,q b H (Z8 _) G⟩
 |cons x J=>
  refine .inr ⟨a,b,_,Z,Y,Y,Z2 L,Z2 G,(by simp),Zh<|Yu l,λz=>?_,λ_ p N=>q p _ (Yq N _) Yf⟩;subst z;exact q a H (Z8 _) (by rw[ja];exact L)
theorem LM(R:OnP)(b:Bool):∀k,iB {R with sh:=b} k=iB R k
 |0=>rfl
 |k+1=>by unfold iB;rw[LM R b k]
def yG(Z:Nat)(R:OnP):(pl0 R++ zr Z).map V.int=(pl0 R).map V.int++ List.replicate Z (V.int 0):=by
 rw[ZK,List.map_replicate]
def Av(G:H c=some (.tup [.ref e,.ref w]))(J:H e=some (.tup []))(Z:H w=some (.tup<|(pl0 R++ zr k).map V.int)):Has H (.ref c) (bb R k):=
 Yo G (Z4 (Yo J Z6)<|Z5<|JL Z)
def DH(x:Dd):(Tq x).ti=true:=by
 have:∀l:List (Str×Str),Dat.tis (l.map λp=>Dat.tup [.str p.1,.str p.2])=true:=λl=>by
  induction l with
  |nil=>simp[Dat.tis]
  |cons a l ih=>rw[ZV];unfold Dat.tis;rw[ih];simp[Dat.ti,Dat.tis]
 simp[Tq,Dat.ti,Dat.tis,this,Bd.ti]
def L9(h:k<=8):(bb R k).dep<=3:=by
 unfold bb;have:∀Z:kE,Dat.deps (Z.map Dat.int)<=1:=TN;have:=this<|pl0 R++ zr k;simp only[Dat.dep,Dat.deps,Jt];omega
def QD(G:R.D<=7):Dat.deps (dnE R)<=4:=by
 have go:∀l:kQ,(∀d∈l,d.dep<=4)->Dat.deps l<=4:=λl=>by
  induction l with
  |nil=>intro _;simp[Dat.deps]
  |cons a l ih=>
   intro h;unfold Dat.deps;have Z:=h a Za;have J:=ih λd hd=>h d<|ZM _ hd;omega
 refine go _ λd hd=>?_;unfold dnE at hd;rcases ZX.mp hd with h|h
 .obtain ⟨i,hi,rfl⟩:=ZW.mp h
  have:=j0.mp hi;have Z:=L9 (R:=R) (k:=R.D-i) (by omega);have J:=L9 (R:=R) (k:=R.D-1-i) (by omega);simp only[Dat.dep,Dat.deps];omega
 .have Z:=L9 (R:=R) (k:=0)<|by omega
  rcases Zd.mp h with rfl|h
  .simp only[Dat.dep,Dat.deps]
   omega
  .rw [ZQ]at h
   subst h;simp[Dat.dep,Dat.deps]
end L2
namespace K4
open PySem L2
section
variable{C CK:Addr}
def J7:Yh ["stream","bound","tags","kind","own","f","main","constant","often","end","deep","inner","k","shared","definitions","book","place","births","done"] ["stream","bound"] (Yd B0):=Y2
def zC:List.Nodup [("k":Str),"place"]:=by decide +kernel
def zD:List.Nodup [("k":Str),"births"]:=by decide +kernel
inductive SRt(H:Hp)(Q:VK):List V->Prop
 |mk (p:Addr) (bd:Nat) (st:J9 H p) (b1:150<=bd) (b2:bd<=1900) (q:∀H',SameB p H H'->Q (.bl true) H'):SRt H Q [.ref p,.int (bd:Nat)]
def SZ:Sp:=λZ H Q _=>SRt H Q Z
def Cr(B:Blt mg)(F:Fun K "_law_right" "_law_right" B0 f fd)(mv:mg "reversed"=none)(mi:mg "min"=none)(DT:Df P w K mg base (n+9) "_law_take" ["stream","many"] Rq)(DW:Df P w K mg base (n+9) "_law_words" ["stream","many","letters","ways"] W5)(DS:Df P w K mg base (n+9) "_law_small" ["stream","many"] Rt)(DM:Df P w K mg base (n+9) "_law_many_goings" ["often","deep"] Sf)(DG:Df P w K mg base (n+9) "_law_gone_into" ["own","tags","end","often"] Sh)(DA:Df P w K mg base (n+9) "asked" DZ (N6 P w C CK 8))(mN:mg "by_names"=some (.ref gN))(kN:PySem.W.keepIn K (.ref gN)=true)(GN:Ye P w K mg base CX0 (n+9) gN gNd DZ (IO P w C CK 8))(b4:Binds K gNd DZ [.bool false])(mBk:mg "Book"=some (.ref C))(MB:Mk K C g)(GB:Ye P w K mg base CX0 (n+8) g gd ["self","kinds","definitions"] (Sj C CK))(bB:Binds K gd ["self","kinds","definitions"] []):Ye P w K mg base CX0 (n+10) f fd ["stream","bound"] SZ:=by
 refine F.oi J7 λcdv A outer s H vs Q E j h=>?_;obtain⟨p,bd,st,b1,b2,q⟩:=h;refine⟨_,YY (Yx 2 J7.nd<|Vy Xm (VP DW j<|pa4 (pv 0) (Ya) (Yw)<|Ya) JV<|JE<|Y7 Vk (Ya)<|VP DT j<|pa2 (pv 0)<|Ya)
  (YY (Jq (VP DS j<|pa2 (pv 0)<|Ya)<|KE (n:=2) rfl (Yn (Yl 3 J7.nd)<|Yn (Yl 4 J7.nd) VJ))
  (YY (Jq (VP DS j<|pa2 (pv 0)<|Ya)<|KE (n:=3) rfl (Yn (Yl 5 J7.nd)<|Yn (Yl 6 J7.nd)<|Yn (Yl 7 J7.nd) VJ))
  (YY (Yx 8 J7.nd<|Y7 Vk (Ya)<|VP DT j<|pa2 (pv 0)<|Ya)
  (YY (Yx 9 J7.nd<|Yr VH (pv 2) (VP DT j<|pa2 (pv 0)<|VB Y8 rfl B.len Zu (pa1<|pv 2)) λ_ _=>rfl)
  (YY (Yx 10 J7.nd<|Y7 Vk (Ya)<|VP DT j<|pa2 (pv 0)<|Ya)
  (YY (G0 Zv (Ys Xt (VP DM j<|pa2 (pv 8)<|pv 10) (pv 1)<|Y0 _)<|YZ<|Yx 10 J7.nd<|Y7 KS (pv 10)<|Ya)
  (YY (Y5 (Ys Vc (VB Y8 rfl B.len Zu (pa1<|pv 2)) Ya<|Y0 _) (YZ<|Yx 8 J7.nd<|VB (FR rfl) rfl mi FU (pa2 (pv 8) Ya)) Yp)
  (YY (Yx 11 J7.nd<|Yj<|pa3 (Yw) (pv 7)<|Yj<|VR)
  (YY (V9 Zv rfl (JP rfl B.range (pa1<|pv 10)) (Yl 12 J7.nd)
   (YZ<|Yx 11 J7.nd<|Yj<|pa3 (Yw) (pv 5)<|Yj<|pa1<|pv 11))
  (YY (Yx 13 J7.nd<|JF Vc (VP DT j<|pa2 (pv 0)<|Ya) Ya rfl)
  (YY (Y5 (Vv<|pv 13) (YZ<|Yx 11 J7.nd<|Yj<|pa5 (Yw) (pv 4) (pv 3) (pv 11)<|Yj<|pa2 (Yw)<|pv 4) Yp)
  (YY (Yx 14 J7.nd<|JJ<|pa2 (Yj<|pa4 (pv 5) (Yj<|pa1<|Yj<|pa2 (pv 4)<|pv 3) (pv 3)<|VP DG j<|pa4 (pv 4) (pv 2) (pv 9)<|pv 8)<|Yj<|pa4 (pv 6) (Yj<|VR) (pv 3)<|pv 11)
  (YY (VS<|Uw Zz Z0 Z1 JR (pv 14)<|pa1<|Yj<|pa4 (pv 7) (Yj<|VR) (pv 3)<|Yj<|pa2 (Yw)<|Yr VH (pv 2)<|Ya)
  (YY (Yx 15 J7.nd<|Ub MB GB j rfl mBk bB .nil Y3 (pa2 (JJ<|pa1<|Yj<|pa2 (pv 3)<|Yj<|pa2 (Yw)<|VZ Jj rfl B.tuple JC (pa1<|pv 2))<|pv 14))
  (YY (Yx 16 J7.nd (Y7 EB (Yj<|pa1<|Ya)<|VZ RO rfl B.int RT (pa1<|pv 13)) (hx:=Or.inr rfl))
  (YY (Yx 17 J7.nd (V6 ["k"] [16] (JP rfl B.range (pa1<|Y7 Vk (pv 10)<|Ya)) (Vm (i:=0)<|by decide) (λcl C fp s H=>Yl 0 zC rfl (Or.inl rfl) (Or.inr rfl)) λcl C fp s H=>Yj<|pa2 (Yj<|VR)<|Y7 (r:=λx y H Q=>J3 K x y H Q\/J1 K x y H Q) Jh (pv 1)<|Y7 EB (Yj<|pa1<|Ya)<|pv 0) (hx:=Or.inr rfl))
  (YY (Yx 18 J7.nd<|Y7 Bp (V6 ["k"] [17] (O8 rfl mv rfl B.range (pa1<|pv 10)) (Vm (i:=0)<|by decide) (λcl C fp s H=>Yl 0 zD rfl (Or.inl rfl) (Or.inr rfl)) λcl C fp s H=>Yj<|pa2 (Yr (r:=Ez K) VH (pv 1) (Y7 Vk (pv 0)<|Ya) λ_ _=>rfl)<|Yr (r:=Ez K) VH (pv 1) (pv 0) λ_ _=>rfl)<|JJ<|pa2 (Yj<|pa2 (Yr VH (pv 17)<|Ya)<|Yj<|VR)<|Yj<|pa2 (Yj<|VR)<|Vi)
  (YY (Y5 (Ys (Bn j) (VP DA j<|pa5 (pv 15) (pv 6) (Yj<|VR) (Y7 Vk (pv 10)<|Ya)<|XN) (Yj<|pa2 (Yj<|pa2 (Yw)<|pv 9)<|pv 18)<|Y0 _) (YZ<|V4) Yp)
  (YZ<|Yi<|JF (Bo j) (JW GN j rfl mN kN b4 (.cons (show RelV (V.bl false) (Value.bool false)from rfl) .nil) Y3 (pa4 (pv 15) (pv 6) (Yj<|VR)<|Ya)) (Yj<|pa2 (Yj<|pa2 (Yw)<|pv 9)<|Y7 Vk (Ya)<|VP DM j<|pa2 (pv 8)<|pv 10) rfl))))))))))))))))))),?_⟩
 dsimp only[VY,Cx.nox,Cx.wish];show let T0:=_;let T1:=_;let T2:=Yk (VE _ T1 _) T0;let T3:=Yk _ T2;let T4:=Yk _ T3;let T5:=Yk _ T4;let T6:=Yk _ T5;let T7:=Yk _ T6;let T8:=Yk _ T7;let T9:=_;let T10:=Yk (VE _ T9 _) T8;let T11:=Yk _ T10;let T12:=_;let T13:=Yk (Uq _ _ T12) T11;let T14:=Yk _ T13;let T15:=_;let T16:=Yk (VE _ T15 _) T14;let T17:=_;let T18:=Yk (Rm _ T17) T16;let T19:=Yk _ T18;let T20:=Yk _ T19;let T21:=Yk _ T20;let T22:=Yk _ T21;let T23:=Yk _ T22;Yk _ T23 _ _ _
 intros
 refine⟨p,4,65,2,?_,st,.inr Y,by decide,.inl ⟨by decide,by decide⟩,λtl0 Z H2 b2' st2 ft nt ht l4 wt=>?_⟩
 .rw [<-RJ];rfl
 refine⟨p,2,Y,st2,by decide,by decide,λr H3 r0 r4 b3 st3=>?_⟩;obtain⟨L,rfl⟩:=jL r0;refine⟨_,Y,tl0,_,Y,Z3<|b3.sb _ _ nt ht,λtl htl=>?_⟩;dsimp only;rw[show(1:Int)+(L:Int)=((1+L:Nat):Int) by omega,Ly _ _ (by rw[ZA,l4];omega),<-qb];refine up_in htl _ λH4 s4 g4=>?_;have st4:=st3.sm s4;have R1:tl≠p:=st3.ne htl;have lt:(Z.take<|1+L).length=1+L:=by rw[ZN];omega
 refine⟨p,2,Y,st4,by decide,λkl ks2 H5 b5 st5 fkl nkl hkl l2 wk=>?_⟩
 obtain⟨kd,own,rfl⟩:∃kd own,ks2=[kd,own]:=by
  match ks2,l2 with
  |[a,b],_=>exact⟨a,b,Y⟩
 exists _,Z3 hkl,Y;refine⟨p,3,Y,st5,by decide,λnl ks3 H6 b6 st6 fnl nnl hnl l3 wn=>?_⟩
 obtain⟨f0,mn,cs,rfl⟩:∃f0 mn cs,ks3=[f0,mn,cs]:=by
  match ks3,l3 with
  |[a,b,c],_=>exact⟨a,b,c,Y⟩
 exists _,Z3 hnl,Y;refine⟨p,3,Y,st6,by decide,by decide,λoo H7 o0 o3 b7 st7=>?_⟩;obtain⟨oo,rfl⟩:=jL o0;have htl7:H7 tl=some (.lst<|(Z.take<|1+L).map V.str):=b7.sb _ _ R1<|b6 _ _ R1<|b5 _ _ R1 g4;refine⟨tl,_,Y,.inl<|Z3 htl7,p,_,rfl,st7,by rw[ZA];omega,by rw[ZA];omega,λci H8 c0 cl b8 st8=>?_⟩;obtain⟨ci,rfl⟩:=jL c0;rw[ZA]at cl;have cl':ci<(Z.take<|1+L).length:=by omega
 have hci:(Z.take<|1+L)[ci]?=some ((Z.take<|1+L)[ci]):=ZD cl';have h00:0<(Z.take<|1+L).length:=by omega
 have hc0:(Z.take<|1+L)[0]?=some ((Z.take<|1+L)[0]):=ZD h00;have htl8:=b8.sb _ _ R1 htl7;exists _,_,Z3 htl8,Ei hci;refine⟨p,7,Y,st8,by decide,by decide,λdd H9 d0 d7 b9 st9=>?_⟩;obtain⟨dd,rfl⟩:=jL d0;have htl9:=b9.sb _ _ R1 htl8;dsimp only[rI0,UT];rw[show(2:Int)+(oo:Int)=((2+oo:Nat):Int) by omega,show(1:Int)+(dd:Int)=((1+dd:Nat):Int) by omega]
 let R:Nat->Nat->Bool->OnP:=λo D b=>⟨f0,mn,cs,kd,own,Z.take<|1+L,(Z.take<|1+L)[0],(Z.take<|1+L)[ci],ci,o,D,b⟩
 have sb9:SameB p H H9:=b2'.trans<|b3.sb.trans<|s4.sb.trans<|b5.trans<|b6.trans<|b7.sb.trans<|b8.sb.trans b9.sb;have oo3:oo<3:=by omega
 have dd7:dd<7:=by omega
 have rr2:L<2:=by omega
 let ST:Nat->Nat->Option V->Option V->Option V->Option V->Option V->Option V->Option V->Option V->St:=λo D x11 x12 x13 x14 x15 x16 x17 x18=>[some (.ref p),some<|.int (bd:Nat),some<|.ref tl,some<|.str kd,some<|.str own,some<|.str f0,some<|.str mn,some<|.str cs,some<|.int (o:Nat),some<|.str<|(Z.take<|1+L)[ci],some<|.int (D:Nat),x11,x12,x13,x14,x15,x16,x17,x18]
 let W:kM:=λm U G=>H9=G/\1<=m/\m<=7/\U=ST (2+oo) m none none none none none none none none
 refine⟨W,⟨1+dd,Y,by omega,by omega,Y⟩,?_⟩;rintro D U G ⟨rfl,D1,D7,rfl⟩;refine⟨2+oo,D,by omega,by omega,_,Y,Pr (λzc=>?_) λzc=>?_⟩
 .have zc':bd<tN (2+oo) D:=by have:=Zt zc;omega
  have D2:2<=D:=by
   rcases jB D 2 with h|h
   .have:D=1:=by omega
    subst this;rw[SM]at zc';omega
   .exact h
  refine⟨λU' H''=>∃m',m'<D/\W m' U' H'',λU' G z=>z,D-1,by omega,Y,by omega,by omega,?_⟩;show List.set (ST (2+oo) D none none none none none none none none) 10 (some<|V.int<|(D:Int)-1)=_;rw[show((D:Nat):Int)-1=((D-1:Nat):Int) by omega]
  rfl
 have lD:tN (2+oo) D<=bd:=jR λh=>zc (decide_eq_true<|by omega);clear zc;dsimp only[Vo];refine XA (λU G=>∃o:Nat,U=ST o D none none none none none none none none/\H9=G/\1<=o/\o<=2+oo) ?_ ?_
 case refine_2=>
  intro N hN;refine⟨tl,_,Y,.inl<|Z3 htl9,rfl,_,rfl,Pr (λzc=>?_) λzc=>hN _ _ ⟨2+oo,rfl,rfl,by omega,ZG _⟩⟩
  obtain⟨o',eo,h1,h2⟩:∃o':Nat,(if(3:Int)<((2+oo:Nat):Int)then(3:Int)else((2+oo:Nat):Int))=(o':Int)/\1<=o'/\o'<=2+oo:=by
   split
   .exact ⟨3,rfl,by omega,by omega⟩
   .exact ⟨2+oo,rfl,by omega,ZG _⟩
  exists _,_,Y;rw[eo];exact hN _ _ ⟨o',Y,Y,h1,h2⟩
 rintro U G ⟨o,rfl,rfl,o1,o2⟩;have lo:tN o D<=1900:=Zb (Do o2 D) (by omega);refine⟨sl 0,λe0 he0=>?_⟩;refine up_in he0 _ λH10 s10 g10=>⟨sl 3,λi0 hi0=>?_⟩;refine up_in hi0 _ λH11 s11 g11=>?_;have hI0:Has H11 (.ref i0) (iB (R o D false) 0).dat:=OB g11<|s11 _ _ g10;refine⟨_,Y,by omega,by omega,?_⟩;rw[vV]
 let I:kM:=λi U G=>Same H9 G/\∃v z,U=ST o D (some v) z none none none none none none/\Has G v (iB (R o D false) i).dat
 refine X1 (n:=D) I ⟨s10.trans s11,_,_,Y,hI0⟩ ?_ ?_
 .rintro BB RR i U H12 hi ⟨F3,v,z,rfl,hv⟩
  refine⟨sl 1,λa1 F8=>?_⟩;refine up_in F8 _ λH13 s13 g13=>⟨sl 3,λa2 F7=>?_⟩;refine up_in F7 _ λH14 O1 g14=>⟨F3.trans<|s13.trans O1,_,_,rfl,?_⟩;unfold iB;exact FX g14 (O1 _ _ g13)<|hv.mono<|s13.trans O1
 rintro U H12 ⟨F3,v,z,rfl,hv⟩;have S2:=st9.sm F3;refine⟨p,2,Y,S2,by decide,by decide,λr1 H13 _ _ I7 st13=>?_⟩;exists Y;obtain⟨J,esh⟩:∃J:Bool,decide (V.int r1=V.int 1)=J:=⟨_,rfl⟩;rw[esh];clear esh;have F4:=VL (S2.tkB I7.sb) _ (Bd.ti _) hv;dsimp only[Vo];refine XA (λU G=>∃x,U=ST o D (some x) z (some<|.bl J) none none none none none/\Same H13 G/\Has G x (mB<|R o D J).dat) ?_ ?_
 case refine_2=>
  intro N hN;refine⟨_,Y,Pr (λzc=>?_) λzc=>?_⟩
  .refine ⟨sl 2,λa1 F8=>?_⟩
   refine up_in F8 _ λH14 O1 g14=>⟨sl 5,λa2 F7=>?_⟩;refine up_in F7 _ λH15 s15 g15=>hN _ _ ⟨_,Y,O1.trans s15,?_⟩
   have e:mB (R o D J)=.letb own kd (iB (R o D false) D) (.name own):=by
    show(if J=true then Bd.letb own kd (iB (R o D J) D) (.name own)else _)=_;rw[Zp zc];exact congrArg (λb=>Bd.letb own kd b<|.name own)<|LM (R o D false) J D
   rw[e]
   conv=>arg 3;unfold Bd.dat
   exact Yo g15<|Z4 Yz<|Z4 Yz<|Z4 Yz<|Z4 (F4.mono<|O1.trans s15)<|Z5<|AS<|s15 _ _ g14
  .have e:mB (R o D J)=iB (R o D false) D:=by
    show(if J=true then _ else iB (R o D J) D)=_;rw[Zq zc];exact LM (R o D false) J D
   exact hN _ _ ⟨_,Y,Z8 _,by rw[e];exact F4⟩
 rintro U H16 ⟨x,rfl,s16,hx⟩;have T:H16 tl=some (.lst<|(Z.take<|1+L).map V.str):=s16 _ _<|I7.sb _ _ R1<|F3 _ _ htl9;refine⟨sl 2,λa1 F8=>?_⟩;refine up_in F8 _ λH17 I6 g17=>⟨sl 1,λa2 F7=>?_⟩;refine up_in F7 _ λH18 F2 g18=>?_;refine⟨R o D J,tl,F2 _ _<|I6 _ _ T,by show(Z.take<|1+L).length<=2;omega,by show o<=4;omega,λu H19 I5 hu=>⟨sl 4,λa3 ha3=>?_⟩⟩;refine up_in ha3 _ λH20 I4 g20=>⟨sl 0,λa4 ha4=>?_⟩;refine up_in ha4 _ λH21 I3 g21=>⟨sl 4,λa5 ha5=>?_⟩;refine up_in ha5 _ λH22 R8 g22=>⟨sl 2,λdl hdl=>?_⟩;refine up_in hdl _ λH23 s23 g23=>?_;have X:=I6.trans<|F2.trans<|I5.trans<|I4.trans<|I3.trans<|R8.trans s23;exists .inl ⟨Y,_,Z3 g23⟩;refine⟨sl 0,λa6 ha6=>?_⟩;refine up_in ha6 _ λH24 s24 g24=>⟨_,_,Z3<|s24 _ _<|X _ _ T,Ei hc0,sl 2,λa7 ha7=>?_⟩;refine up_in ha7 _ λH25 s25 g25=>⟨sl 4,λa8 ha8=>?_⟩;refine up_in ha8 _ λI9 s26 g26=>?_;have O:=s24.trans<|s25.trans s26;have F9:=O _ _ g23;refine⟨dl,_,_,Y,Y,F9,Yu (by simp),?_⟩;refine fld_in dl _ λH27 b27 g27=>?_;have R3:=UM b27 F9;have G3:=s23.trans O
 have hdf:Has I9 (.ref a3) (Tq<|dF<|R o D J):=by
  have D0:=I3.trans<|R8.trans G3;have D3:=I4.trans D0;have F1:=I5.trans D3;exact Yo (D0 _ _ g20)<|Z4 Yz<|Z4 (Yo (F1 _ _ g18)<|Z5<|Yo (F1 _ _<|F2 _ _ g17)<|Z4 Yz<|Z5 Yz)<|Z4 Yz<|Z5<|hu.mono D3
 have hdm:Has I9 (.ref a5) (Tq<|dM<|R o D J):=Yo (G3 _ _ g22)<|Z4 Yz<|Z4 (Yo (G3 _ _<|R8 _ _ g21) Z6)<|Z4 Yz<|Z5<|hx.mono<|X.trans O
 have hdc:Has I9 (.ref a8) (Tq<|dC<|R o D J):=by
  refine Yo g26<|Z4 Yz<|Z4 (Yo (s26 _ _<|s25 _ _ g24) Z6)<|Z4 Yz<|Z5 ?_;show Has I9 _ (Bd.tag<|(Z.take<|1+L)[0]).dat;unfold Bd.dat;exact Yo (s26 _ _ g25)<|Z4 Yz<|Z5 Yz
 have F6:HasL H27 [.ref a3,.ref a5,.ref a8] ((ods<|R o D J).map Tq):=Z4 (VL R3 _ (DH _) hdf)<|Z4 (VL R3 _ (DH _) hdm)<|Z5<|VL R3 _ (DH _) hdc;have ntd:tl≠dl:=Yb ((I6.trans<|F2.trans<|I5.trans<|I4.trans<|I3.trans R8) _ _ T) hdl;have F5:=b27 _ _ ntd<|O _ _<|X _ _ T;clear hdf hdm hdc hu hx hv F4 hI0;have wkk:=wk;have on:OnO (R o D J):=⟨by show 1<=(Z.take<|1+L).length;omega,by show(Z.take<|1+L).length<=2;omega,hci,hc0,o1,by show o<=4;omega,D1,D7,wk,⟨Z,L,wt,by omega,rfl⟩,wn⟩;refine⟨tl,_,Y,.inl ⟨Z3 F5,λt1 ht1=>?_⟩⟩;refine up_in ht1 _ λH28 s28 g28=>⟨sl 2,λt2 ht2=>?_⟩;refine up_in ht2 _ λH29 s29 g29=>⟨sl 2,λt3 ht3=>?_⟩;refine up_in ht3 _ λH30 s30 g30=>⟨sl 1,λkl2 hkl2=>?_⟩;refine up_in hkl2 _ λI8 I2 g31=>?_;have R7:=s28.trans<|s29.trans<|s30.trans I2;intro bx dx hx0 hdx hne;have sX:Same I8 (upd (upd I8 dx<|.own bx) bx<|.ins C dx []):=λb o e=>by rw[Yg (Yb e hx0),Yg (Yb e hdx)];exact e
 have tx:upd (upd I8 dx<|.own bx) bx (.ins C dx []) bx=some (.ins C dx []):=Yf;generalize upd (upd I8 dx<|.own bx) bx (.ins C dx [])=H32 at tx sX |-
 have hk:HasL H32 [.ref t3] ((ks2<|R o D J).map NS):=by
  refine Z5<|Yo (sX _ _<|I2 _ _ g30)<|Z4 Yz<|Z5 ?_;unfold Shp.dat;exact Yo (sX _ _<|I2 _ _<|s30 _ _ g29)<|Z4 Yz<|Z5<|Yo (sX _ _<|I2 _ _<|s30 _ _<|s29 _ _ g28)<|WJ _
 have R6:=R7.trans sX;refine⟨bx,dx,kl2,dl,_,_,ks2<|R o D J,c2<|R o D J,λ_=>0,ods<|R o D J,tx,sX _ _ g31,hk,on.kk,by simp,on.kg,by simp,by simp,R6 _ _ g27,F6.mono R6,by simp[ods],by simp[ods],on.wn,on.hd,on.rt,λH33 keep bi=>⟨rfl,?_⟩⟩
 have sb33:SameB p H H33:=λb o n e=>by
  have e12:=F3 _ _<|sb9 _ _ n e;have e23:=X _ _<|s16 _ _<|I7.sb _ _ n e12;have nd:b≠dl:=Yb ((I6.trans<|F2.trans<|I5.trans<|I4.trans<|I3.trans R8) _ _<|s16 _ _<|I7.sb _ _ n e12) hdl;have e27:=b27 _ _ nd<|O _ _ e23;have e31:=R7 _ _ e27;exact keep _ _ (Yb e31 hx0)<|sX _ _ e31
 clear F6 hk g31 g30 g29 g28 g27 g26 g25 g24 g22 g21 g20 g18 g17 F5 T;refine⟨sl 1,λz1 hz1=>?_⟩;refine up_in hz1 _ λH34 s34 g34=>.inr ⟨J,Y,?_⟩;refine⟨z1,if J=true then 1 else 0,.int 0,Y,by cases J <;> rfl,g34,by split <;> omega,λpa H35 s35 hpa=>?_⟩
 have hpl:H35 pa=some (.tup<|(pl0<|R o D J).map V.int):=by
  rw[hpa];show some (HO.tup _)=some (HO.tup<|(if J=true then[(0:Int)]else[]).map V.int);cases J <;> rfl
 have lpl:(pl0<|R o D J).length<=1:=by unfold pl0;split <;> simp
 have bi35:=bi.mono<|s34.trans s35;have sb35:=sb33.trans (s34.trans s35).sb;clear hpa;refine⟨D+1,Y,by omega,by omega,?_⟩;refine Va (D+1) (JI<|by omega) (λi vs G=>Same H35 G/\vs.length=i/\HasL G vs ((List.range i).map<|bb<|R o D J)) ⟨Z8 _,rfl,Z6⟩ (λi vs G z=>z.2.1) (λi vs G hi z=>hi) (λvs G z=>ZG _) ?_ ?_
 .rintro i vs G y H'' Rr hi ⟨y1,y2,y3⟩ ⟨rfl,rfl⟩ hR
  refine⟨sl 0,λa ha=>?_⟩;refine up_in ha _ λHa sa ga=>⟨sl 1,λb hb=>?_⟩;refine up_in hb _ λHb sb gb=>?_;refine⟨b,i,.int 0,Y,by rw[Int.zero_add],gb,by omega,λc Hc sc gc=>?_⟩;have y1c:=y1.trans<|sa.trans<|sb.trans sc;refine QJ (y1c _ _ hpl) gc (by rw[ZA,jt];omega) λu Hd sd gd=>⟨sl 2,λt ht=>?_⟩;refine up_in ht _ λHe se ge=>hR _ _ ⟨y1c.trans<|sd.trans se,by rw[ZL,y2];rfl,?_⟩;rw[js,ZK];refine Z7 (y3.mono<|sa.trans<|sb.trans<|sc.trans<|sd.trans se)<|Z5<|Av ge (se _ _<|sd _ _<|sc _ _<|sb _ _ ga) ?_;rw[yG];exact se _ _ gd
 rintro vs H36 bl ⟨y1,y2,y3⟩ hbl;refine up_in hbl _ λH37 s37 g37=>?_;have y37:=y3.mono s37
 have gk:∀k:Nat,k<=D->∃v,atI vs (k:Int)=some v/\Has H37 v (bb (R o D J) k):=λk hk=>by
  have kl:k<vs.length:=by omega
  obtain⟨d,h1,h2⟩:=y37.get<|ZD kl;rw[ZH,qK (by omega)]at h1;cases h1;exact⟨_,VD<|ZD kl,h2⟩
 refine⟨D,Y,by omega,?_⟩;refine Va D (JI<|by omega) (λi us G=>Same H37 G/\us.length=i/\HasL G us ((List.range i).map λi=>Dat.tup [bb (R o D J) (D-i),bb (R o D J) (D-1-i)])) ⟨Z8 _,rfl,Z6⟩ (λi vs G z=>z.2.1) (λi vs G hi z=>hi) (λvs G z=>ZG _) ?_ ?_
 .rintro i us G y H'' Rr hi ⟨u1,u2,u3⟩ ⟨rfl,rfl⟩ hR
  obtain⟨v1,f1,h1⟩:=gk (D-i) (by omega);obtain⟨v2,f2,h2⟩:=gk (D-1-i) (by omega);refine⟨_,v1,Z3<|u1 _ _ g37,by rw[show(D:Int)-1-(i:Int)+1=((D-i:Nat):Int) by omega];exact f1,_,v2,Z3<|u1 _ _ g37,by rw[show(D:Int)-1-(i:Int)=((D-1-i:Nat):Int) by omega];exact f2,sl 2,λt ht=>?_⟩;refine up_in ht _ λHe se ge=>hR _ _ ⟨u1.trans se,by rw[ZL,u2];rfl,?_⟩;rw[js,ZK];exact Z7 (u3.mono se)<|Z5<|Yo ge<|Z4 (h1.mono<|u1.trans se)<|Z5<|h2.mono<|u1.trans se
 rintro us H38 dl1 ⟨u1,u2,u3⟩ hdl1;refine up_in hdl1 _ λH39 s39 g39=>?_;obtain⟨v0,f0',h0'⟩:=gk 0 (by omega);have G2:=u1.trans s39;refine⟨_,v0,Z3<|G2 _ _ g37,f0',sl 0,λe1 he1=>?_⟩;refine up_in he1 _ λH40 s40 g40=>⟨sl 2,λe2 he2=>?_⟩;refine up_in he2 _ λH41 s41 g41=>⟨sl 0,λe3 he3=>?_⟩;refine up_in he3 _ λH42 s42 g42=>⟨sl 2,λe4 he4=>?_⟩;refine up_in he4 _ λH43 s43 g43=>⟨sl 2,λe5 he5=>?_⟩;refine up_in he5 _ λH44 I1 g44=>?_;have S:=s40.trans<|s41.trans<|s42.trans<|s43.trans I1;refine⟨dl1,e5,_,_,Y,Y,S _ _ g39,g44,Zh (Yu (by simp;omega)),λdn hdn=>?_⟩;refine up_in hdn _ λH45 M2 g45=>?_
 have hdn45:Has H45 (.ref dn) (.lst<|dnE<|R o D J):=by
  unfold Has;exists dn,_,Y,g45;unfold dnE;refine Z7 (u3.mono<|s39.trans<|S.trans M2) ?_;have R4:=s42.trans<|s43.trans<|I1.trans M2;exact Z4 (Yo (R4 _ _ g41)<|Z4 (h0'.mono<|G2.trans<|S.trans M2)<|Z5<|Yo (R4 _ _<|s41 _ _ g40) Z6)<|Z5<|Yo ((I1.trans M2) _ _ g43)<|Z4 (Yo ((s43.trans<|I1.trans M2) _ _ g42) Z6)<|Z5 (by unfold Has;rfl)
 have R5:=y1.trans<|s37.trans<|G2.trans<|S.trans M2;have bi45:=bi35.mono R5;have sb45:=sb35.trans R5.sb;clear bi bi35 gk h0' u3 y3 y37;have K0:=on.k;obtain⟨j1,Rr,SR,gs1,eR,dok,eD⟩:=Fg (mo:=D+2) K0<|ZG _;have ra:∀{G gv},Same H45 G->G gv=some (.tup [])->RgA G C CK bx gv (ks2<|R o D J) (λ_=>0) (ods<|R o D J) (dM<|R o D J) []:=λs g=>⟨bi45.mono s,K0.mm,g,rfl,(by show 0<=3;omega),jm,λi p u h=>by simp[dM]at h⟩;refine⟨sl 0,λgv hgv=>?_⟩;refine up_in hgv _ λH46 s46 g46=>?_;refine⟨bx,gv,ks2<|R o D J,λ_=>0,ods<|R o D J,dM<|R o D J,[],D+2,true,j1,Rr,SR,ra s46 g46,by omega,by omega,gs1,dok,λt r l us1 Hm H47 sm s47 ht hr' fl hl hus=>?_⟩;rw[eD]at hus;subst eR;refine⟨sl 2,λw1 hw1=>?_⟩;refine up_in hw1 _ λH48 s48 g48=>⟨sl 2,λw2 hw2=>?_⟩;refine up_in hw2 _ λH49 s49 g49=>?_;have M:=s48.trans s49;have G1:=s46.trans<|s47.trans M;refine⟨.tup [.tup [.str "worth",.str ((Z.take<|1+L)[ci])],.lst (dnE<|R o D J)],.tup [.tup [.str "worth",.str ((Z.take<|1+L)[ci])],.lst (dnE<|R o D J)],?_,?_,?_,_,rfl,Y1 (by rw[Dat.pq_self];simp) ?_⟩
 .exact Yo (M _ _ ht) (Z4 ((show Has H47 r (.tup [.str "worth",.str ((Z.take<|1+L)[ci])])from hr').mono M)<|Z5 (by unfold Has;exact⟨l,us1,Y,M _ _ hl,hus.mono M⟩))
 .exact Yo g49 (Z4 (Yo (s49 _ _ g48)<|Z4 Yz<|Z5 Yz)<|Z5<|hdn45.mono G1)
 .have:=QD (R:=R o D J) D7
  simp only[Dat.dep,Dat.deps];omega
 obtain⟨j2,Rr2,SR2,gs2,eR2,eB⟩:=Kz (mo:=2000) K0 (by show 1+tN o D<=2000;omega);refine⟨sl 0,λgv2 hgv2=>?_⟩;refine up_in hgv2 _ λH50 s50 g50=>?_;refine⟨bx,gv2,ks2<|R o D J,λ_=>0,ods<|R o D J,dM<|R o D J,[],2000,false,j2,Rr2,SR2,ra (G1.trans s50) g50,by omega,by omega,gs2,λt' r' Hm' H51 sm' s51 ht' hr2=>?_⟩;subst eR2;refine⟨sl 2,λw3 hw3=>?_⟩;refine up_in hw3 _ λH52 s52 g52=>⟨o,D,by omega,by omega,sl 2,λw4 hw4=>?_⟩;refine up_in hw4 _ λH53 s53 g53=>?_;rw[eB]at ht';have J2:=s52.trans s53;exists .tup [.tup [.str "worth",.str ((Z.take<|1+L)[ci])],.int ((1+tN o D:Nat):Int)],.tup [.tup [.str "worth",.str ((Z.take<|1+L)[ci])],.int ((1+tN o D:Nat):Int)],?_,?_,?_
 .exact Yo (J2 _ _ ht') (Z4 ((show Has H51 r' (.tup [.str "worth",.str ((Z.take<|1+L)[ci])])from hr2).mono J2)<|Z5 (by unfold Has;rfl))
 .refine Yo g53 (Z4 (Yo (s53 _ _ g52)<|Z4 Yz<|Z5 Yz)<|Z5 ?_)
  unfold Has
  rfl
 .simp only[Dat.dep,Dat.deps]
  omega
 .rw [Dat.pq_self]
  exact q H53<|sb45.trans (G1.trans<|s50.trans<|s51.trans J2).sb
end
section
def IT:Yh ["script","k","cell"] ["script"] (Yd B1):=Y2
inductive zo(K:W.Frag)(H:Hp)(Q:VK):List V->Prop
 |mk (a:Addr) (ns:List Int) (hS:SqL K H a (ns.map V.int)) (hl:ns.length<=63) (q:∀H',Q (.bl true) H'):zo K H Q [.ref a]
def Dt(K:W.Frag):Sp:=λZ H Q _=>zo K H Q Z
def AG(B:Blt Z)(d:Z "enumerate"=none)(F:Fun K "law" "law" B1 f fd)(DS:Df P w K Z base (n+1) "_law_stream" ["cell"] M9)(DO:Df P w K Z base (n+1) "_law_folded" ["script","many"] (Si K))(DR:Df P w K Z base (n+1) "_law_right" ["stream","bound"] SZ):Ye P w K Z base CX0 (n+2) f fd ["script"] (Dt K):=by
 refine F.oi IT λJ2 A M s H vs Q E O h=>?_;obtain⟨a,k,b,u,q⟩:=h;refine⟨_,YY (V9 Zv Y (XC Y d (pa1<|VP DO O<|pa2 (pv 0)<|Ya)) (Vg (n:=2) rfl (Yn (Yl 1 IT.nd)<|Yn (Yl 2 IT.nd) VJ))
   (YZ<|Y5 (JN<|Vv<|VP DR O<|pa2 (VP DS O<|pa1<|pv 2)<|Yr VH (JJ<|pa2 (Ya)<|Ya) (VZ RO rfl B.int RT (pa1<|JF Xt (pv 1) Ya rfl)) λ_ _=>rfl) (YZ<|V4) Yp))
  (YZ<|Yi<|XN),?_⟩
 show let T0:=_;let T1:=_;let T2:=VE _ T1 _;Yk (Uq _ _ T2) T0 _ _ _
 intros
 try dsimp only[VY,Cx.nox,Cx.wish]
 refine⟨a,k,12,by decide,by decide,b,u,λfl c H1 s1 f1 t l1 l2=>?_⟩;exists fl,false,_,Y,Z3 t
 let I:kM:=λi U G=>Same H1 G/\∃X C:kP,U=[some (.ref a),X,C]
 refine GX (tp:=false) (xs:=c.map V.int) I ⟨Z8 _,_,_,Y⟩ (λi U G _ z=>Z3<|z.1 _ _ t) ?_ λU G _=>q G;rintro BB RR i x U H2 r y ⟨g,X,C,rfl⟩ N;rw[ZH]at y;obtain⟨ce,v,rfl⟩:=Zj.mp y;refine up_in N _ λH3 m o=>?_;exists _,Z2 o,Y;refine⟨ce,Y,λp H4 f4 b4 L=>⟨sl 2,λl R=>?_⟩⟩;refine up_in R _ λH5 j e=>?_
 obtain⟨J,D,T,S⟩:∃J:Nat,150<=J/\J<=1900/\atI [V.int 1900,V.int 150] (if decide ((0:Int)<((i:Nat):Int))=true then(1:Int)else 0)=some (V.int (J:Nat)):=by
  by_cases z:(0:Int)<((i:Nat):Int)
  .rw [Zp (decide_eq_true z)]
   exact⟨150,by decide,by decide,Y⟩
  .rw [Zq (by simp;omega)]
   exact⟨1900,by decide,by decide,Y⟩
 refine .inr ⟨_,Y,_,_,Z3 e,S,?_⟩;refine⟨p,J,L.sm j,D,T,λH6 b6=>?_⟩;refine⟨_,Y,Y1 (by simp) ⟨?_,_,_,Y⟩⟩;exact g.trans<|m.trans<|((b4.sb.trans j.sb).trans b6).same f4
end
def At(K:W.Frag)(f:Addr)(x q:Str)(st:Stmt):Prop:=∃(L:Value)(G:kH)(kV M J:Value)(O:kH)(Z N:Value)(sl:Array (Option Value)),K.lookup f=some ⟨L,G,.func<|W.fnOf x q (JH st) (Vp st) (Yd st) .none kV M J O Z N,sl⟩/\W.codeIn K Z q=true/\W.keepIn K (.ref f)=true
def At.of{K:W.Frag}{f:Addr}{x q:Str}{st:Stmt}{L:Value}{G:kH}{kV M J:Value}{O:kH}{Z N:Value}{sl:Array (Option Value)}(l:K.lookup f=some ⟨L,G,.func<|W.fnOf x q (JH st) (Vp st) (Yd st) .none kV M J O Z N,sl⟩)(d:W.codeIn K Z q=true)(k:W.keepIn K (.ref f)=true):At K f x q st:=⟨L,G,kV,M,J,O,Z,N,sl,l,d,k⟩
section
variable{K:W.Frag}{x q:Str}{st:Stmt}{f:Addr}{fd:FuncData}{ps:kC}
def BA1(x q:Str)(st:Stmt)(ps:kC)(us:kB):Prop:=∀(kV Z G:Value)(M:kH)(J L:Value),bindArgs (W.fnOf x q (JH st) (Vp st) (Yd st) .none kV Z G M J L) ⟨us,[]⟩=pure (ps.zip us)
def ON:Nat->(List Value->Prop)->Prop
 |0,R=>R []
 |n+1,R=>∀a,ON n λus=>R (a::us)
theorem ON.at:∀{n:Nat}{R:List Value->Prop}{Z:kB},ON n R->Z.length=n->R Z
 |0,_,[],h,_=>h
 |_+1,R,a::_,h,e=>ON.at (R:=λZ=>R (a::Z)) (h a)<|Nat.succ.inj e
def _root_.L2.Fun.bn(F:Fun K x q st f fd)(ps:kC)(h:ON ps.length (BA1 x q st ps)):Binds K fd ps []:=F.binds λ_ _ _ _ _ _ _ e=>h.at e _ _ _ _ _ _
def _root_.L2.Fun.b1(F:Fun K x q st f fd)(p:Str)(h:∀a,BA1 x q st [p] [a]:=by exact λ_ _ _ _ _ _ _=>Y):Binds K fd [p] []:=F.bn [p] h
def _root_.L2.Fun.b2(F:Fun K x q st f fd)(p Z:Str)(h:∀a b,BA1 x q st [p,Z] [a,b]:=by exact λ_ _ _ _ _ _ _ _=>Y):Binds K fd [p,Z] []:=F.bn [p,Z] h
def _root_.L2.Fun.b3(F:Fun K x q st f fd)(p J Z:Str)(h:∀a b c,BA1 x q st [p,J,Z] [a,b,c]:=by exact λ_ _ _ _ _ _ _ _ _=>Y):Binds K fd [p,J,Z] []:=F.bn [p,J,Z] h
def _root_.L2.Fun.b4(F:Fun K x q st f fd)(p G J Z:Str)(h:∀a b c d,BA1 x q st [p,G,J,Z] [a,b,c,d]:=by exact λ_ _ _ _ _ _ _ _ _ _=>Y):Binds K fd [p,G,J,Z] []:=F.bn [p,G,J,Z] h
end
def At.fn{K:W.Frag}{f:Addr}{x q:Str}{st:Stmt}(h:At K f x q st):∃Z,Fun K x q st f Z:=by
 obtain⟨_,_,_,_,_,_,_,_,_,l,d,k⟩:=h;exact⟨_,Lg (st:=st) l d k⟩
def GA(K:W.Frag)(x:Str)(f:Addr)(st:Stmt):Prop:=W.nsIn K mainGlobals x=some (some<|.ref f)/\At K f x x st
def GR(K:W.Frag)(a:Addr)(y x:Str)(f:Addr)(st:Stmt):Prop:=W.nsIn K a y=some (some<|.ref f)/\At K f x x st
def GM(K:W.Frag)(C:Addr)(x q:Str)(f:Addr)(st:Stmt):Prop:=(W.findIn K (.ref C) x=some (some<|.ref f)/\W.isFn K (.ref f)=true)/\At K f x q st
def GN(K:W.Frag)(x:Str):Prop:=W.nsIn K mainGlobals x=some none
def GC(K:W.Frag)(x:Str)(f:Addr):Prop:=W.nsIn K mainGlobals x=some (some<|.ref f)
def GV(K:W.Frag)(x:Str)(v:V)(u:Value):Prop:=W.nsIn K mainGlobals x=some (some u)/\RelV v u
def GF(K:W.Frag)(C:Addr)(x:Str):Prop:=W.findIn K (.ref C) x=some none
def GA.go{K:W.Frag}{h:Heap}{J:Str->Option Value}{x:Str}{f:Addr}{st:Stmt}(X:K.In h)(G:h.Ns mainGlobals J)(a:GA K x f st):∃Z,Fun K x x st f Z/\W.keepIn K (.ref f)=true/\J x=some (.ref f):=
 let⟨Z,F⟩:=a.2.fn
 ⟨Z,F,F.kp,W.mg_of X G a.1⟩
def GR.go{K:W.Frag}{c:Addr}{y x:Str}{f:Addr}{st:Stmt}(a:GR K c y x f st):∃Z,Fun K x x st f Z/\W.keepIn K (.ref f)=true/\W.nsIn K c y=some (some<|.ref f):=
 let⟨Z,F⟩:=a.2.fn
 ⟨Z,F,F.kp,a.1⟩
def GM.go{K:W.Frag}{c:Addr}{x q:Str}{f:Addr}{st:Stmt}(a:GM K c x q f st):∃Z,Fun K x q st f Z/\VI K c x f:=
 let⟨Z,F⟩:=a.2.fn
 ⟨Z,F,a.1.1,a.1.2,F.kp⟩
def GV.go{K:W.Frag}{h:Heap}{Z:Str->Option Value}{x:Str}{v:V}{u:Value}(X:K.In h)(G:h.Ns mainGlobals Z)(a:GV K x v u):Z x=some u/\RelV v u:=⟨W.mg_of X G a.1,a.2⟩
structure CA(K:W.Frag)(C:Addr):Prop where
 pg:W.plainGet K C Str.empty=true
 hd:W.hasDictIn K C=true
 po:W.plainOver K C=true
 sa:W.findIn K (.ref C) "__setattr__"=some (some (.builtin "object.__setattr__"))
 ma:W.makesIn K C=true
 kc:W.keepIn K (.ref C)=true
def AtD(K:W.Frag)(f:Addr)(x q:Str)(st:Stmt):Prop:=∃(R:Value)(O:kH)(kV B N:Value)(E:kH)(Z D:Value)(sl:Array (Option Value))(T:Addr)(M:Value)(L:kH)(J:Nat)(G:Array (Option Value)),K.lookup f=some ⟨R,O,.func<|W.fnOf x q (JH st) (Vp st) (Yd st) (.ref T) kV B N E Z D,sl⟩/\W.codeIn K Z q=true/\W.keepIn K (.ref f)=true/\K.lookup T=some ⟨M,L,.seq #[.bool false] J,G⟩
def AtD.of{K:W.Frag}{f T:Addr}{x q:Str}{st:Stmt}{R M:Value}{O L:kH}{kV B N:Value}{E:kH}{Z D:Value}{sl G:Array (Option Value)}{J:Nat}(l:K.lookup f=some ⟨R,O,.func<|W.fnOf x q (JH st) (Vp st) (Yd st) (.ref T) kV B N E Z D,sl⟩)(d:W.codeIn K Z q=true)(k:W.keepIn K (.ref f)=true)(t:K.lookup T=some ⟨M,L,.seq #[.bool false] J,G⟩):AtD K f x q st:=⟨R,O,kV,B,N,E,Z,D,sl,T,M,L,J,G,l,d,k,t⟩
def GAD(K:W.Frag)(x:Str)(f:Addr)(st:Stmt):Prop:=W.nsIn K mainGlobals x=some (some<|.ref f)/\AtD K f x x st
def GAD.go{K:W.Frag}{h:Heap}{Z:Str->Option Value}{x:Str}{f:Addr}{st:Stmt}(X:K.In h)(G:h.Ns mainGlobals Z)(a:GAD K x f st):∃E,Mw K x x st f E/\W.keepIn K (.ref f)=true/\Z x=some (.ref f):=by
 obtain⟨D,B,R,kV,F,O,S,I,A,sl,T,N,M,J,L,l,d,k,t⟩:=a;exact⟨_,⟨⟨B,R,kV,F,O,S,I,A,sl,T,N,M,J,L,Y,l,d,t⟩,k⟩,k,W.mg_of X G D⟩
def all_at{l:W.OpenLaw}{w:World}{K:W.Frag}{h:Heap}{mg:Str->Option Value}{fa CK C CG CO CW CD aR fA fN f1 f2 f3 f4 f5 f6 f7 f8 f9 f10 f11 f12 f13 f14 f15 f16 f17 f18 f19 f20 f21 f22 f23 f24 f25 f26 f27 f28 f29 f30 f31 f32 f33 f34 f35 f36 f37 f38 f39 f40 f41 f42 f43 f44 f45 f46 f47 f48 f49 f50 f51 f52 f53 f54 f55 f56 f57 f58 f59 f60 f61 f62 f63 f64 f65 f66 f67 f68 f69 f70 f71 f72 f73 f74 f75 f76 f77 f78 f79 f80 f81 f82 f83 f84 f85 f86 f87 f88:Addr}{es:Array DictEntry}{nR:Nat}{u1v u2v u3v u4v u5v u6v u7v u8v u9v u10v u11v u12v u13v:Value}(X:K.In h)(G:h.Ns mainGlobals mg)(hfa:mg "law"=some (.ref fa))(aC:GC K "Kinds" CK)(aB:GC K "Book" C)(aG':GC K "Ground" CG)(aO':GC K "Going" CO)(aW':GC K "Walk" CW)(aD':GC K "Doing" CD)(aU:GC K "RULES" aR)(lR:K.lookup aR=some ⟨.type "dict",none,.dict es nR,#[]⟩)(kR:W.KeysLit w.params es.toList)(aA:GAD K "asked" fA Ba)(aN':GAD K "by_names" fN Gv)(a1:GA K "parts" f1 BH)(a2:GA K "part_at" f2 Gr)(a3:GA K "kind_or_place" f3 sKP)(a4:GA K "kind_of_part" f4 BO)(a5:GA K "is_name" f5 MN)(a6:GA K "is_tag" f6 BR)(a7:GA K "is_spelt" f7 BF)(a8:GA K "are_parameters" f8 Bb)(a9:GA K "row_count" f9 WT)(a10:GA K "rows_over" f10 WR)(a11:GA K "part_of" f11 MK)(a12:GA K "is_row_over" f12 XZ)(a13:GA K "is_asking" f13 WU)(a14:GA K "check_asking" f14 UZ)(a15:GA K "named" f15 BL)(a16:GA K "check_most" f16 Xa)(a17:GA K "walk_of" f17 MI)(a18:GA K "_law_mixed" f18 BM)(a19:GA K "_law_stream" f19 MJ)(a20:GA K "_law_take" f20 Ia)(a21:GA K "_law_words" f21 BE)(a22:GA K "_law_small" f22 BG)(a23:GA K "_law_folded" f23 Ma)(a24:GA K "_law_gone_into" f24 LF)(a25:GA K "_law_many_goings" f25 LE)(a26:GA K "_law_right" f26 B0)(a27:GA K "law" f27 B1)(a28:GR K aR "tag" "kind_of_tag_body" f28 Ic)(a29:GR K aR "name" "kind_of_name_body" f29 BQ)(a30:GR K aR "pair" "kind_of_pair_body" f30 BP)(a31:GR K aR "one" "kind_of_one_body" f31 Id)(a32:GR K aR "other" "kind_of_other_body" f32 ML)(a33:GR K aR "choose" "kind_of_choose_body" f33 Gu)(a34:GR K aR "ask" "kind_of_ask_body" f34 Ig)(a35:GR K aR "let" "kind_of_let_body" f35 Ie)(a36:GM K CK "__init__" "Kinds.__init__" f36 Ih)(a37:GM K CK "take" "Kinds.take" f37 BN)(a38:GM K CK "take_tags" "Kinds.take_tags" f38 Ib)(a39:GM K CK "take_pair" "Kinds.take_pair" f39 BJ)(a40:GM K CK "names" "Kinds.names" f40 BK)(a41:GM K CK "worths_of" "Kinds.worths_of" f41 WQ)(a42:GM K CK "shape_of" "Kinds.shape_of" f42 Gq)(a43:GM K CK "kind_of_tag" "Kinds.kind_of_tag" f43 MM)(a44:GM K CK "kind_of_pair" "Kinds.kind_of_pair" f44 Gs)(a45:GM K CK "is_worth" "Kinds.is_worth" f45 Xp)(a46:GM K C "__init__" "Book.__init__" f46 BX)(a47:GM K C "take_heads" "Book.take_heads" f47 BU)(a48:GM K C "is_head" "Book.is_head" f48 BY)(a49:GM K C "check_bodies" "Book.check_bodies" f49 MR)(a50:GM K C "kinds" "Book.kinds" f50 MQ)(a51:GM K C "names" "Book.names" f51 MP)(a52:GM K C "parameters" "Book.parameters" f52 BV)(a53:GM K C "kind_of" "Book.kind_of" f53 BW)(a54:GM K C "body_of" "Book.body_of" f54 BZ)(a55:GM K C "told_of" "Book.told_of" f55 BS)(a56:GM K CG "__init__" "Ground.__init__" f56 Lf)(a57:GM K CG "number_at" "Ground.number_at" f57 DB)(a58:GM K CG "part_given" "Ground.part_given" f58 Xf)(a59:GM K CG "head_given" "Ground.head_given" f59 Xg)(a60:GM K CO "__init__" "Going.__init__" f60 Kx)(a61:GM K CO "begin" "Going.begin" f61 Bu)(a62:GM K CO "take_head" "Going.take_head" f62 Wd)(a63:GM K CO "go_on" "Going.go_on" f63 Ky)(a64:GM K CO "from_body" "Going.from_body" f64 Wf)(a65:GM K CO "from_thing" "Going.from_thing" f65 Xd)(a66:GM K CO "from_head" "Going.from_head" f66 We)(a67:GM K CO "with_let" "Going.with_let" f67 G6)(a68:GM K CO "thing_at" "Going.thing_at" f68 Xu)(a69:GM K CO "make_cell" "Going.make_cell" f69 XE)(a70:GM K CW "__init__" "Walk.__init__" f70 Fl)(a71:GM K CW "birth_of" "Walk.birth_of" f71 Gb)(a72:GM K CW "done" "Walk.done" f72 Fm)(a73:GM K CW "want" "Walk.want" f73 Fk)(a74:GM K CW "end" "Walk.end" f74 SG)(a75:GM K CW "ring_from" "Walk.ring_from" f75 WE)(a76:GM K CW "outcome" "Doing.outcome" f76 X6)(a77:GM K CW "whole_of" "Doing.whole_of" f77 X5)(a78:GM K CW "head_of_cell" "Doing.head_of_cell" f78 XI)(a79:GM K CW "go_into" "Doing.go_into" f79 GZ)(a80:GM K CW "going_of" "Doing.going_of" f80 X7)(a81:GM K CD "__init__" "Doing.__init__" f81 Lx)(a82:GM K CD "want" "Doing.want" f82 Lw)(a83:GM K CD "end" "Doing.end" f83 Ar)(a84:GM K CD "outcome" "Doing.outcome" f84 X6)(a85:GM K CD "whole_of" "Doing.whole_of" f85 X5)(a86:GM K CD "head_of_cell" "Doing.head_of_cell" f86 XI)(a87:GM K CD "go_into" "Doing.go_into" f87 GZ)(a88:GM K CD "going_of" "Doing.going_of" f88 X7)(z1:GN K "len")(z2:GN K "isinstance")(z3:GN K "bool")(z4:GN K "str")(z5:GN K "int")(z6:GN K "tuple")(z7:GN K "list")(z8:GN K "dict")(z9:GN K "all")(z10:GN K "zip")(z11:GN K "max")(z12:GN K "range")(z13:GN K "sorted")(z14:GN K "min")(z15:GN K "sum")(z16:GN K "enumerate")(z17:GN K "any")(z18:GN K "ValueError")(z19:GN K "reversed")(g1:GV K "SMALL" (.str<|Str.ofString "abcdefghijklmnopqrstuvwxyz") u1v)(g2:GV K "GREAT" (.str<|Str.ofString "ABCDEFGHIJKLMNOPQRSTUVWXYZ") u2v)(g3:GV K "LONGEST" (.int 8) u3v)(g4:GV K "MOST_KINDS" (.int 6) u4v)(g5:GV K "MOST_TAGS" (.int 4) u5v)(g6:GV K "MOST_WORTHS" (.int 30) u6v)(g7:GV K "MOST_PAIRS_DEEP" (.int 2) u7v)(g8:GV K "MOST_DEFINITIONS" (.int 8) u8v)(g9:GV K "MOST_PARAMETERS" (.int 3) u9v)(g10:GV K "MOST_ROWS" (.int 200) u10v)(g11:GV K "MOST_ROWS_IN_ALL" (.int 400) u11v)(g12:GV K "MOST_CELLS" (.int 500) u12v)(g13:GV K "MOST_GOINGS" (.int 2000) u13v)(caCK:CA K CK)(caC:CA K C)(caCG:CA K CG)(caCO:CA K CO)(caCW:CA K CW)(caCD:CA K CD)(nk1:GF K CK "shapes")(nk2:GF K CK "worths")(nk3:GF K CK "heights")(nk4:GF K CK "pairs_deep")(nk5:GF K CK "tag_kinds")(nk6:GF K CK "pair_kinds")(nb1:GF K C "sorts")(nb2:GF K C "told")(nb3:GF K C "rows")(nb4:GF K C "turns")(ng1:GF K CG "book")(ng2:GF K CG "given")(ng3:GF K CG "births")(ng4:GF K CG "numbers")(ng5:GF K CG "starts")(no1:GF K CO "ground")(no2:GF K CO "number")(no3:GF K CO "f")(no4:GF K CO "place")(no5:GF K CO "known")(no6:GF K CO "body")(no7:GF K CO "waiting")(nw1:GF K CW "ground")(nw2:GF K CW "most")(nw3:GF K CW "begun")(nw4:GF K CW "under_way")(nw5:GF K CW "wanters")(nw6:GF K CW "wants")(nw7:GF K CW "heads")(nd1:GF K CD "ground")(nd2:GF K CD "most")(nd3:GF K CD "begun")(nd4:GF K CD "under_way")(y1:W.specialIn K (.ref CD) "__getattribute__"=some (some<|.builtin "type.__getattribute__"))(y2:W.readsIn K CD (.type "type")=true)(y3:W.findCls K (.ref CD) (.type "type") "__init__"=some (.val<|.ref f81)):∃fd:FuncData,(∀(s:Shared)(v:Value),BindsTo s fd ⟨[v],[]⟩ [("script",v)])/\∀base:Heap,K.In base->base.Ns mainGlobals mg->Ye l.prog w K mg base CX0 40 fa fd ["script"] (Dt K):=by
 have e:=hfa.symm.trans<|W.mg_of X G a27.1;cases e;obtain⟨d1,F1,k1,m1⟩:=a1.go X G;obtain⟨d2,F2,k2,m2⟩:=a2.go X G;obtain⟨d3,F3,k3,m3⟩:=a3.go X G;obtain⟨d4,F4,k4,m4⟩:=a4.go X G;obtain⟨d5,F5,k5,m5⟩:=a5.go X G;obtain⟨d6,F6,k6,m6⟩:=a6.go X G;obtain⟨d7,F7,k7,m7⟩:=a7.go X G;obtain⟨d8,F8,k8,m8⟩:=a8.go X G;obtain⟨d9,F9,k9,m9⟩:=a9.go X G;obtain⟨d10,F10,k10,m10⟩:=a10.go X G;obtain⟨d11,F11,k11,m11⟩:=a11.go X G;obtain⟨d12,F12,k12,m12⟩:=a12.go X G;obtain⟨d13,F13,k13,m13⟩:=a13.go X G;obtain⟨d14,F14,k14,m14⟩:=a14.go X G;obtain⟨d15,F15,k15,m15⟩:=a15.go X G;obtain⟨d16,F16,k16,m16⟩:=a16.go X G;obtain⟨d17,F17,k17,m17⟩:=a17.go X G;obtain⟨d18,F18,k18,m18⟩:=a18.go X G;obtain⟨d19,F19,k19,m19⟩:=a19.go X G;obtain⟨d20,F20,k20,m20⟩:=a20.go X G;obtain⟨d21,F21,k21,m21⟩:=a21.go X G;obtain⟨d22,F22,k22,m22⟩:=a22.go X G;obtain⟨d23,F23,k23,m23⟩:=a23.go X G;obtain⟨d24,F24,k24,m24⟩:=a24.go X G;obtain⟨d25,F25,k25,m25⟩:=a25.go X G;obtain⟨d26,F26,k26,m26⟩:=a26.go X G;obtain⟨_,_,kV,dc,pm,an,cd,ct,_,l',d',k27⟩:=a27.2;have F27:=Lg (st:=B1) l' d' k27;obtain⟨d28,F28,k28,a28⟩:=a28.go;obtain⟨d29,F29,k29,a29⟩:=a29.go;obtain⟨d30,F30,k30,a30⟩:=a30.go;obtain⟨d31,F31,k31,a31⟩:=a31.go;obtain⟨d32,F32,k32,a32⟩:=a32.go;obtain⟨d33,F33,k33,a33⟩:=a33.go;obtain⟨d34,F34,k34,a34⟩:=a34.go;obtain⟨d35,F35,k35,a35⟩:=a35.go;obtain⟨d36,F36,w36⟩:=a36.go;obtain⟨d37,F37,w37⟩:=a37.go;obtain⟨d38,F38,w38⟩:=a38.go;obtain⟨d39,F39,w39⟩:=a39.go;obtain⟨d40,F40,w40⟩:=a40.go;obtain⟨d41,F41,w41⟩:=a41.go;obtain⟨d42,F42,w42⟩:=a42.go;obtain⟨d43,F43,w43⟩:=a43.go;obtain⟨d44,F44,w44⟩:=a44.go;obtain⟨d45,F45,w45⟩:=a45.go;obtain⟨d46,F46,w46⟩:=a46.go;obtain⟨d47,F47,w47⟩:=a47.go;obtain⟨d48,F48,w48⟩:=a48.go;obtain⟨d49,F49,w49⟩:=a49.go;obtain⟨d50,F50,w50⟩:=a50.go;obtain⟨d51,F51,w51⟩:=a51.go;obtain⟨d52,F52,w52⟩:=a52.go;obtain⟨d53,F53,w53⟩:=a53.go;obtain⟨d54,F54,w54⟩:=a54.go;obtain⟨d55,F55,w55⟩:=a55.go;obtain⟨d56,F56,w56⟩:=a56.go;obtain⟨d57,F57,w57⟩:=a57.go;obtain⟨d58,F58,w58⟩:=a58.go;obtain⟨d59,F59,w59⟩:=a59.go;obtain⟨d60,F60,w60⟩:=a60.go;obtain⟨d61,F61,w61⟩:=a61.go;obtain⟨d62,F62,w62⟩:=a62.go;obtain⟨d63,F63,w63⟩:=a63.go;obtain⟨d64,F64,w64⟩:=a64.go;obtain⟨d65,F65,w65⟩:=a65.go;obtain⟨d66,F66,w66⟩:=a66.go;obtain⟨d67,F67,w67⟩:=a67.go;obtain⟨d68,F68,w68⟩:=a68.go;obtain⟨d69,F69,w69⟩:=a69.go;obtain⟨d70,F70,w70⟩:=a70.go;obtain⟨d71,F71,w71⟩:=a71.go;obtain⟨d72,F72,w72⟩:=a72.go;obtain⟨d73,F73,w73⟩:=a73.go;obtain⟨d74,F74,w74⟩:=a74.go;obtain⟨d75,F75,w75⟩:=a75.go;obtain⟨d76,F76,w76⟩:=a76.go;obtain⟨d77,F77,w77⟩:=a77.go;obtain⟨d78,F78,w78⟩:=a78.go;obtain⟨d79,F79,w79⟩:=a79.go;obtain⟨d80,F80,w80⟩:=a80.go;obtain⟨d81,F81,w81⟩:=a81.go;obtain⟨d82,F82,w82⟩:=a82.go;obtain⟨d83,F83,w83⟩:=a83.go;obtain⟨d84,F84,w84⟩:=a84.go;obtain⟨d85,F85,w85⟩:=a85.go;obtain⟨d86,F86,w86⟩:=a86.go;obtain⟨d87,F87,w87⟩:=a87.go;obtain⟨d88,F88,w88⟩:=a88.go;obtain⟨dA,FA,kA,mA⟩:=aA.go X G;obtain⟨dN,FN,kN,mN⟩:=aN'.go X G;have mC:=W.mg_of X G aC;have mB:=W.mg_of X G aB;have mG:=W.mg_of X G aG';have mO:=W.mg_of X G aO';have mW:=W.mg_of X G aW';have mD:=W.mg_of X G aD';have mU:=W.mg_of X G aU;have B:Blt mg:=⟨vp X G z1,vp X G z2,vp X G z3,vp X G z4,vp X G z5,vp X G z6,vp X G z7,vp X G z8,vp X G z9,vp X G z10,vp X G z11,vp X G z12,vp X G z13⟩;have nmin:=vp X G z14;have nsum:=vp X G z15;have nenumerate:=vp X G z16;have nany:=vp X G z17;have nValueError:=vp X G z18;have nreversed:=vp X G z19;obtain⟨q1,r1⟩:=g1.go X G;obtain⟨q2,r2⟩:=g2.go X G;obtain⟨q3,r3⟩:=g3.go X G;obtain⟨q4,r4⟩:=g4.go X G;obtain⟨q5,r5⟩:=g5.go X G;obtain⟨q6,r6⟩:=g6.go X G;obtain⟨q7,r7⟩:=g7.go X G;obtain⟨q8,r8⟩:=g8.go X G;obtain⟨q9,r9⟩:=g9.go X G;obtain⟨q10,r10⟩:=g10.go X G;obtain⟨q11,r11⟩:=g11.go X G;obtain⟨q12,r12⟩:=g12.go X G;obtain⟨q13,r13⟩:=g13.go X G;have T:KCl K CK:=⟨⟨caCK.pg,caCK.hd,caCK.po,caCK.sa⟩,nk1,nk2,nk3,nk4,nk5,nk6⟩;have TB:BCl K C:=⟨⟨caC.pg,caC.hd,caC.po,caC.sa⟩,nb1,nb2,nb3,nb4⟩;have TG:GCl K CG:=⟨⟨caCG.pg,caCG.hd,caCG.po,caCG.sa⟩,ng1,ng2,ng3,ng4,ng5⟩;have TO:OCl K CO:=⟨⟨caCO.pg,caCO.hd,caCO.po,caCO.sa⟩,no1,no2,no3,no4,no5,no6,no7⟩;have TW:WCl K CW:=⟨⟨⟨caCW.pg,caCW.hd,caCW.po,caCW.sa⟩,nw1,nw2,nw3,nw4⟩,nw5,nw6,nw7⟩;have TD:DCl K CD:=⟨⟨caCD.pg,caCD.hd,caCD.po,caCD.sa⟩,nd1,nd2,nd3,nd4⟩;refine⟨W.fnOf "law" "law" (JH B1) (Vp B1) (Yd B1) .none kV dc pm an cd ct,λs v=>.of_eq Y,λbase hIn _=>?_⟩;have tk:∀n,Ye l.prog w K mg base CX0 (n+2) f20 _ ["stream","many"] Rq:=λn=>PU F20 (Kg (n:=n) F18) (F18.b2 _ _) k18 m18;have wo:∀n,Ye l.prog w K mg base CX0 (n+3) f21 _ ["stream","many","letters","ways"] W5:=λn=>KW B F21 (tk n) (F20.b2 _ _) k20 m20;have sm:∀n,Ye l.prog w K mg base CX0 (n+4) f22 _ ["stream","many"] Rt:=λn=>Kc F22 (wo n) (F21.b4 _ _ _ _) k21 m21;have pA:Ye l.prog w K mg base CX0 1 f1 _ _ Xl:=ok_parts (n:=0) B F1;have sp:Ye l.prog w K mg base CX0 1 f7 _ _ W6:=Kb (n:=0) B F7 q3 r3;have na:Ye l.prog w K mg base CX0 2 f5 _ _ (Ut 97):=E7 (n:=1) F5 sp (F7.b2 _ _) k7 m7 q1 r1;have ta:Ye l.prog w K mg base CX0 2 f6 _ _ (Ut 65):=Km (n:=1) F6 sp (F7.b2 _ _) k7 m7 q2 r2;have tt:Ye l.prog w K mg base CX0 3 f38 _ _ (N2 CK):=PV (n:=2) B T F38 q5 r5 ta (F6.b1 _) k6 m6;have tp:Ye l.prog w K mg base CX0 3 f39 _ _ (Ru CK):=Ke (n:=2) B T F39 q7 r7 q6 r6;have kt:Ye l.prog w K mg base CX0 4 f37 _ _ (Rw CK):=Kh (n:=3) B T F37 (na.mono<|by decide) (F5.b1 _) k5 m5 tt (F38.b3 _ _ _) w38 tp (F39.b4 _ _ _ _) w39;have ini:Ye l.prog w K mg base CX0 5 f36 _ _ (N3 CK):=Pc (n:=4) B T F36 q4 r4 kt (F37.b3 _ _ _) w37;have knm:Ye l.prog w K mg base CX0 1 f40 _ _ (U8 CK):=Kf (n:=0) B T F40;have kwo:Ye l.prog w K mg base CX0 1 f41 _ _ (Jy CK):=NH (n:=0) B T F41;have ksh:Ye l.prog w K mg base CX0 1 f42 _ _ (U7 CK):=Bq (n:=0) T F42;have kto:Ye l.prog w K mg base CX0 1 f43 _ _ (Gh CK):=E6 (n:=0) T F43;have kpo:Ye l.prog w K mg base CX0 1 f44 _ _ (WL CK):=Bt (n:=0) T F44;have bki:Ye l.prog w K mg base CX0 1 f50 _ _ (JU C CK):=E9 (n:=0) TB F50;have bnm:Ye l.prog w K mg base CX0 1 f51 _ _ (Uu C CK):=E8 (n:=0) B TB F51;have to:Ye l.prog w K mg base CX0 1 f55 _ _ (Ge C CK):=PR (n:=0) B TB F55;have cP:Ye l.prog w K mg base CX0 2 f52 _ _ (Gf C CK):=PX (n:=1) TB F52 w55 to<|F55.b2 _ _;have cK:Ye l.prog w K mg base CX0 2 f53 _ _ (Rv C CK):=Kl (n:=1) TB F53 w55 to<|F55.b2 _ _;have cY:Ye l.prog w K mg base CX0 2 f54 _ _ (Rz C CK):=Kt (n:=1) TB F54 w55 to<|F55.b2 _ _;have kpt:Ye l.prog w K mg base CX0 2 f4 _ _ (W7 C CK):=Ki (n:=1) TB T F4 w50 (bki) (F50.b1 _) w42 (ksh)<|F42.b2 _ _;have R1:RA l.prog w K mg base C CK (λk=>findBy V0 es k) "tag" _:=⟨f28,_,Uz lR a28,PY (n:=2) TB T F28 w50 ((bki.mono<|by decide)) (F50.b1 _) w43 ((kto.mono<|by decide))<|F43.b2 _ _,k28,F28.b4 _ _ _ _⟩;have R2:RA l.prog w K mg base C CK (λk=>findBy V0 es k) "name" _:=⟨f29,_,Uz lR a29,Kk (n:=2) F29,k29,F29.b4 _ _ _ _⟩;have R3:RA l.prog w K mg base C CK (λk=>findBy V0 es k) "pair" _:=⟨f30,_,Uz lR a30,Kj (n:=2) TB T F30 w50 ((bki.mono<|by decide)) (F50.b1 _) w44 ((kpo.mono<|by decide))<|F44.b3 _ _ _,k30,F30.b4 _ _ _ _⟩;have R4:RA l.prog w K mg base C CK (λk=>findBy V0 es k) "one" _:=⟨f31,_,Uz lR a31,PZ (n:=2) F31 ⟨f4,_,m4,k4,F4.b3 _ _ _,kpt⟩,k31,F31.b4 _ _ _ _⟩;have R5:RA l.prog w K mg base C CK (λk=>findBy V0 es k) "other" _:=⟨f32,_,Uz lR a32,E5 (n:=2) F32 ⟨f4,_,m4,k4,F4.b3 _ _ _,kpt⟩,k32,F32.b4 _ _ _ _⟩;have R6:RA l.prog w K mg base C CK (λk=>findBy V0 es k) "choose" _:=⟨f33,_,Uz lR a33,Bs (n:=0) B nany TB T F33 w50 ((bki.mono<|by decide)) (F50.b1 _) w42 ((ksh.mono<|by decide))<|F42.b2 _ _,k33,F33.b4 _ _ _ _⟩;have R7:RA l.prog w K mg base C CK (λk=>findBy V0 es k) "ask" _:=⟨f34,_,Uz lR a34,Pb (n:=0) TB F34 w51 ((bnm.mono<|by decide)) (F51.b1 _) w52 (cP) (F52.b2 _ _) w53 (cK)<|F53.b2 _ _,k34,F34.b4 _ _ _ _⟩;have R8:RA l.prog w K mg base C CK (λk=>findBy V0 es k) "let" _:=⟨f35,_,Uz lR a35,Pa (n:=2) F35,k35,F35.b4 _ _ _ _⟩;have kp:Ye l.prog w K mg base CX0 16 f3 _ _ (Tx C CK 13):=Qr B nenumerate TB T F3 (F3.b3 _ _ _) m3 w50 (bki.mono<|by decide) (F50.b1 _) w40 (knm.mono<|by decide) (F40.b1 _) ⟨f1,_,m1,k1,F1.b1 _,pA.mono<|by decide⟩ mU (Pn hIn lR kR) (λL=>Ij L R1 R2 R3 R4 R5 R6 R7 R8) 13;have ap:Ye l.prog w K mg base CX0 3 f8 _ _ (MA CK):=Kv (n:=2) B T F8 q9 r9 ⟨f5,_,m5,k5,F5.b1 _,na⟩ w40 ((knm.mono<|by decide))<|F40.b1 _;have rc:Ye l.prog w K mg base CX0 2 f9 _ _ (XX CK):=NJ (n:=1) B T F9 w41 (kwo)<|F41.b2 _ _;have ro:Ye l.prog w K mg base CX0 2 f10 _ _ (XW CK):=NI (n:=1) B T F10 w41 (kwo)<|F41.b2 _ _;have ih:Ye l.prog w K mg base CX0 4 f48 _ _ (R9 C CK):=Ku (n:=3) TB T F48 ⟨f5,_,m5,k5,F5.b1 _,na.mono<|by decide⟩ ⟨f8,_,m8,k8,F8.b2 _ _,ap⟩ w40 ((knm.mono<|by decide))<|F40.b1 _;have th:Ye l.prog w K mg base CX0 5 f47 _ _ (IN C CK):=Ks (n:=4) B nenumerate TB F47 q8 r8 q10 r10 q11 r11 w48 ih (F48.b4 _ _ _ _) ⟨f9,_,m9,k9,F9.b2 _ _,rc.mono<|by decide⟩ ⟨f10,_,m10,k10,F10.b2 _ _,ro.mono<|by decide⟩;have cb:Ye l.prog w K mg base CX0 17 f49 _ _ (Sk C CK):=AR (n:=16) B nenumerate TB F49 w51 (bnm.mono<|by decide) (F51.b1 _) ⟨f3,_,m3,k3,F3.b3 _ _ _,kp⟩;have bi:Ye l.prog w K mg base CX0 18 f46 _ _ (Sj C CK):=AQ (n:=17) (m:=5) (by decide) TB F46 ⟨caCK.ma,w36.1,w36.2,caCK.kc⟩ mC ini (F36.b2 _ _) w47 (th.mono<|by decide) (F47.b2 _ _) w49 cb<|F49.b1 _;have pat:Ye l.prog w K mg base CX0 2 f2 _ _ Jv:=Br (n:=1) F2 ⟨f1,_,m1,k1,F1.b1 _,pA⟩;have iw:Ye l.prog w K mg base CX0 4 f45 _ _ (NA CK 3):=LJ B T F45 (F45.b3 _ _ _) w45 3;have iro:Ye l.prog w K mg base CX0 5 f12 _ _ (Sa CK):=Cs (n:=4) B T F12 w45 iw<|F45.b3 _ _ _;have ia:Ye l.prog w K mg base CX0 6 f13 _ _ (N4 C CK<|.bl true):=C1 (n:=5) TB F13 w51 (bnm.mono<|by decide) (F51.b1 _) w50 (bki.mono<|by decide) (F50.b1 _) w52 (cP.mono<|by decide) (F52.b2 _ _) ⟨f12,_,m12,k12,F12.b3 _ _ _,iro⟩;have cka:Ye l.prog w K mg base CX0 7 f14 _ _ (N4 C CK .non):=C6 (n:=6) F14 ⟨f13,_,m13,k13,F13.b3 _ _ _,ia⟩;have ckm:Ye l.prog w K mg base CX0 1 f16 _ _ Oc:=C5 (n:=0) F16;have nam:Ye l.prog w K mg base CX0 3 f15 _ _ (IH C CK):=Cw (n:=2) B TB F15 w52 (cP)<|F52.b2 _ _;have po:Ye l.prog w K mg base CX0 1 f11 _ _ Sd:=Cu (n:=0) B F11;have pg:Ye l.prog w K mg base CX0 2 f58 _ _ (Se CG):=Cv (n:=1) B nany TG F58 ⟨f11,_,m11,k11,F11.b2 _ _,po⟩;have hg:Ye l.prog w K mg base CX0 3 f59 _ _ (Sg CG):=C2 (n:=2) B TG F59 w58 pg<|F58.b3 _ _ _;have na:Ye l.prog w K mg base CX0 1 f57 _ _ (II l.prog w CG):=Cy (n:=0) B TG F57;have gi:Ye l.prog w K mg base CX0 4 f56 _ _ (Dw l.prog w C CK CG):=AJ (n:=3) B TG F56 ⟨f15,_,m15,k15,F15.b3 _ _ _,nam⟩;have oi':Ye l.prog w K mg base CX0 3 f60 _ _ (IA l.prog w C CK CG CO):=AF (L:=2) TB TG TO F60 w54 (cY)<|F54.b2 _ _;have tf:=QT (P:=l.prog) (w:=w) (C:=C) (CK:=CK) (base:=base) (L:=3) B TG TO F68 F69 ⟨f2,_,m2,k2,F2.b2 _ _,pat.mono<|by decide⟩ ⟨f15,_,m15,k15,F15.b3 _ _ _,nam⟩ w57 (na.mono<|by decide) (F57.b3 _ _ _) w68 (F68.b3 _ _ _) w69<|F69.b4 _ _ _ _;have wl:Ye l.prog w K mg base CX0 21 f67 _ _ (SX l.prog w C CK CG CO 8):=Co (L:=20) B TG TO F67 w57 (na.mono<|by decide) (F57.b3 _ _ _) w69 ((tf 8).2)<|F69.b4 _ _ _ _;have fb:Ye l.prog w K mg base CX0 22 f64 _ _ (IL l.prog w C CK CG CO 8):=AN (L:=21) TO F64 ⟨f2,_,m2,k2,F2.b2 _ _,pat.mono<|by decide⟩ w68 ((tf 9).1) (F68.b3 _ _ _) w67 (wl)<|F67.b4 _ _ _ _;have ft:Ye l.prog w K mg base CX0 4 f65 _ _ (IJ CG CO):=AL (n:=3) TG TO F65 w59 (hg)<|F59.b3 _ _ _;have fh:Ye l.prog w K mg base CX0 4 f66 _ _ (IK CO):=AM (n:=0) nenumerate TO F66;have go:Ye l.prog w K mg base CX0 23 f63 _ _ (Dv l.prog w C CK CG CO 8):=AI (L:=22) B TO F63 w64 (fb) (F64.b3 _ _ _) w65 (ft.mono<|by decide) (F65.b2 _ _) w66 (fh.mono<|by decide)<|F66.b2 _ _;have beg:Ye l.prog w K mg base CX0 24 f61 _ _ (N5 l.prog w C CK CG CO 8):=Pf (L:=23) TO F61 w63 (go)<|F63.b2 _ _;have thd:Ye l.prog w K mg base CX0 24 f62 _ _ (F0 l.prog w C CK CG CO 8):=AE (L:=23) TO F62 w63 (go)<|F63.b2 _ _;have who:Ye l.prog w K mg base CX0 1 f77 _ _ Dq:=KY (n:=0) F77;have bir:Ye l.prog w K mg base CX0 1 f71 _ _ (R0 l.prog w CG CW):=Pe (n:=0) TW TG F71;have rf:Ye l.prog w K mg base CX0 2 f75 _ _ (Sb l.prog w C CK CG CO CW):=Ct (n:=1) TW TO F75 w71 (bir)<|F71.b2 _ _;have wen:Ye l.prog w K mg base CX0 1 f74 _ _ (Xj true l.prog w C CK CG CO CW):=KZ (n:=0) TW F74;have dwho:Ye l.prog w K mg base CX0 1 f85 _ _ Dq:=KY (n:=0) F85;have dwen:Ye l.prog w K mg base CX0 1 f83 _ _ (Xj false l.prog w C CK CG CO CD):=Pd (n:=0) F83;have gof:Ye l.prog w K mg base CX0 5 f80 _ _ (Rx true l.prog w C CK CG CO CW):=EE (n:=3) TW.toDCl F80 mO ⟨caCO.ma,w60.1,w60.2,caCO.kc⟩ oi'<|F60.b3 _ _ _;have gin:Ye l.prog w K mg base CX0 25 f79 _ _ (Gi true l.prog w C CK CG CO CW 8):=EF (L:=24) TW.toDCl TO F79 w80 (gof.mono<|by decide) (F80.b2 _ _) w61 (beg)<|F61.b1 _;have wan:Ye l.prog w K mg base CX0 26 f73 _ _ (Xi true l.prog w C CK CG CO CW 8):=Ka (L:=25) B TW TO F73 w79 (gin) (F79.b2 _ _) w75 (rf.mono<|by decide)<|F75.b2 _ _;have hoc:Ye l.prog w K mg base CX0 27 f78 _ _ (Du true l.prog w C CK CG CO CW 8):=Ko (L:=26) B TW.toDCl TO F78 w73 (wan) (F73.b2 _ _) w74 (wen.mono<|by decide) (F74.b3 _ _ _) w62 (thd.mono<|by decide)<|F62.b2 _ _;have out:Ye l.prog w K mg base CX0 28 f76 _ _ (Gg true l.prog w C CK CG CO CW 8):=ED (L:=27) TW.toDCl F76 w78 (hoc) (F78.b2 _ _) w77 (who.mono<|by decide)<|F77.b2 _ _;have dgof:Ye l.prog w K mg base CX0 5 f88 _ _ (Rx false l.prog w C CK CG CO CD):=EE (n:=3) TD F88 mO ⟨caCO.ma,w60.1,w60.2,caCO.kc⟩ oi'<|F60.b3 _ _ _;have dgin:Ye l.prog w K mg base CX0 25 f87 _ _ (Gi false l.prog w C CK CG CO CD 8):=EF (L:=24) TD TO F87 w88 (dgof.mono<|by decide) (F88.b2 _ _) w61 (beg)<|F61.b1 _;have dwan:Ye l.prog w K mg base CX0 26 f82 _ _ (Xi false l.prog w C CK CG CO CD 8):=Kp (L:=25) TD F82 w87 (dgin)<|F87.b2 _ _;have dhoc:Ye l.prog w K mg base CX0 27 f86 _ _ (Du false l.prog w C CK CG CO CD 8):=Ko (L:=26) B TD TO F86 w82 (dwan) (F82.b2 _ _) w83 (dwen.mono<|by decide) (F83.b3 _ _ _) w62 (thd.mono<|by decide)<|F62.b2 _ _;have dout:Ye l.prog w K mg base CX0 28 f84 _ _ (Gg false l.prog w C CK CG CO CD 8):=ED (L:=27) TD F84 w86 (dhoc) (F86.b2 _ _) w85 (dwho.mono<|by decide)<|F85.b2 _ _;have don:Ye l.prog w K mg base CX0 2 f72 _ _ (Ry l.prog w C CK CG CO CW):=Kq (L:=1) TW F72 w71 (bir)<|F71.b2 _ _;have din:Ye l.prog w K mg base CX0 1 f81 _ _ (IM CW):=Qi (n:=0) TW.toDCl F81;have din2:Ye l.prog w K mg base CX0 1 f81 _ _ (IM CD):=Qi (n:=0) TD F81;have win:Ye l.prog w K mg base CX0 2 f70 _ _ (SY CW):=Cp (n:=1) TW F70 mD ⟨y1,y2,y3,w81.kp⟩ din<|F81.b3 _ _ _;have wao:Ye l.prog w K mg base CX0 9 f17 _ _ (Fz l.prog w C CK CG CO CW):=AD (n:=7) F17 ⟨f14,_,m14,k14,F14.b3 _ _ _,cka.mono<|by decide⟩ ⟨f16,_,m16,k16,F16.b2 _ _,ckm.mono<|by decide⟩ q12 r12 mW ⟨caCW.ma,w70.1,w70.2,caCW.kc⟩ (win.mono<|by decide) (F70.b3 _ _ _) mG ⟨caCG.ma,w56.1,w56.2,caCG.kc⟩ (gi.mono<|by decide)<|F56.b4 _ _ _ _;have ask:Ye l.prog w K mg base CX0 29 fA _ _ (N6 l.prog w C CK 8):=Pg (L:=28) TW FA ⟨f17,_,m17,k17,F17.b4 _ _ _ _,wao.mono<|by decide⟩ w76 (out) (F76.b2 _ _) w72 (don.mono<|by decide)<|F72.b1 _;have byn:Ye l.prog w K mg base CX0 29 fN _ _ (IO l.prog w C CK 8):=AO (L:=27) TD FN ⟨f14,_,m14,k14,F14.b3 _ _ _,cka.mono<|by decide⟩ ⟨f16,_,m16,k16,F16.b2 _ _,ckm.mono<|by decide⟩ q13 r13 mD ⟨caCD.ma,w81.1,w81.2,caCD.kc⟩ (din2.mono<|by decide) (F81.b3 _ _ _) mG ⟨caCG.ma,w56.1,w56.2,caCG.kc⟩ (gi.mono<|by decide) (F56.b4 _ _ _ _) w84 (dout)<|F84.b2 _ _;have fo:Ye l.prog w K mg base CX0 4 f23 _ _ (Si K):=C4 (n:=0) B nenumerate F23;have mn:Ye l.prog w K mg base CX0 1 f25 _ _ Sf:=Cz (n:=0) B F25;have gn:Ye l.prog w K mg base CX0 1 f24 _ _ Sh:=C3 (n:=0) B F24;have rt:Ye l.prog w K mg base CX0 31 f26 _ _ SZ:=Cr (n:=21) (C:=C) (CK:=CK) B F26 nreversed nmin ⟨f20,_,m20,k20,F20.b2 _ _,tk 28⟩ ⟨f21,_,m21,k21,F21.b4 _ _ _ _,wo 27⟩ ⟨f22,_,m22,k22,F22.b2 _ _,sm 26⟩ ⟨f25,_,m25,k25,F25.b2 _ _,mn.mono<|by decide⟩ ⟨f24,_,m24,k24,F24.b4 _ _ _ _,gn.mono<|by decide⟩ ⟨fA,_,mA,kA,FA.b5 _ _ _ _ _,ask.mono<|by decide⟩ mN kN (byn.mono<|by decide) (FN.b4 _ _ _ _ _) mB ⟨caC.ma,w46.1,w46.2,caC.kc⟩ (bi.mono<|by decide)<|F46.b3 _ _ _;exact AG (n:=38) B nenumerate F27 ⟨f19,_,m19,k19,F19.b1 _,E4 (n:=38) F19⟩ ⟨f23,_,m23,k23,F23.b2 _ _,fo.mono<|by decide⟩ ⟨f26,_,m26,k26,F26.b2 _ _,rt.mono<|by decide⟩
def goes{l:W.OpenLaw}{q:Program}{loose:kC}{XP:(Str->Option Value)->Heap->Prop}{YP:World->Heap->Prop}{d:DefRec}{K:Params->W.Frag}(hn:l.most=some 63)(hdf:d.params.defaults=[])(hY:∀(w:World)(h:Heap),YP w h->(K w.params).In h)(F:∀(w:World)(mg:Str->Option Value)(fa:Addr)(h:Heap),(K w.params).In h->h.Ns mainGlobals mg->mg d.name=some (.ref fa)->
   ∃fd:FuncData,(∀(s:Shared)(u:Value),BindsTo s fd ⟨[u],[]⟩ [("script",u)])/\∀base:Heap,(K w.params).In base->base.Ns mainGlobals mg->Ye l.prog w (K w.params) mg base CX0 40 fa fd ["script"] (Dt<|K w.params)):
  W.WalkO q loose XP YP l.row.toRowW d [] (λf vs=>PySem.call f vs):=
 L2.walk_of (n:=63) (k:=40) (x:="script") (CX:=λ_=>CX0) (sp:=λw=>Dt<|K w.params) hn (by decide) hdf ⟨rfl,by decide,by decide⟩ hY F (λ_ _ a ns hl _ hS=>⟨a,ns,hS,hl,λ_=>rfl⟩) λ_ _ _ _ _ z=>z
end K4
end
namespace PySem.W.Fast
def tw10019901605576661827:=()
def tw100301280907461484:=()
def tw10035129133827365633:=()
def tw10056663042082424714:=()
def tw10081745699685010172:=()
def tw10086644726284070242:=()
def tw10104810415145185898:=()
def tw10108457056933709776:=()
def tw10113798442036561994:=()
def tw10126153979317243363:=()
def tw10149140608970672143:=()
def tw10151337002846959173:=()
def tw10161946607096569676:=()
def tw10201792425458381005:=()
def tw10214295218296524288:=()
def tw10275353595021752938:=()
def tw10281793697047137077:=()
def tw10303588976678878762:=()
def tw10321131851516453570:=()
def tw10355657569882469808:=()
def tw10409684967295369081:=()
def tw10411864547601607827:=()
def tw10422042257256994429:=()
def tw10497245916627172294:=()
def tw10535843988619721412:=()
def tw10566107976423758377:=()
def tw1058026503465710400:=()
def tw10582521828827953140:=()
def tw10584859199099069852:=()
def tw10589169578588126119:=()
def tw10607941731983739872:=()
def tw10667444567958320677:=()
def tw10683343312221237741:=()
def tw10687755761980630656:=()
def tw10703390519566281065:=()
def tw10706548479044268502:=()
def tw10721118095148231086:=()
def tw10756250478194205991:=()
def tw10785096650215306558:=()
def tw10805857817867094861:=()
def tw10821035561997920692:=()
def tw10822509256107310233:=()
def tw10831385100448920912:=()
def tw10855528870482438779:=()
def tw10895110823207371929:=()
def tw1089543409612234900:=()
def tw10906983146205715601:=()
def tw10908376804194698580:=()
def tw10923206216814413715:=()
def tw10940440808566767719:=()
def tw10941579760754495175:=()
def tw10950641775187572633:=()
def tw10996133506773879126:=()
def tw11003992113250420958:=()
def tw1105337695843411571:=()
def tw11062483495597356345:=()
def tw11099571490642688746:=()
def tw11133341051552060777:=()
def tw1118078937660835183:=()
def tw11215481348566833689:=()
def tw11232242502092426193:=()
def tw11240009893490466967:=()
def tw11252764350982296332:=()
def tw11307525326747923240:=()
def tw1131932789922827677:=()
def tw11356157048081360009:=()
def tw11358490795502529314:=()
def tw11364337298179677225:=()
def tw11385013589989508506:=()
def tw11390291281869865336:=()
def tw11442273158953348093:=()
def tw1145406159332903455:=()
def tw11456742289411280298:=()
def tw11474465447207244118:=()
def tw11481336436498569584:=()
def tw11494087262148536883:=()
def tw11586303518568337216:=()
def tw1159297428201449273:=()
def tw11615033539787689338:=()
def tw11644431273934789401:=()
def tw11659555636325885460:=()
def tw11667974753184598348:=()
def tw11676676262177642123:=()
def tw11676836954440407223:=()
def tw1172479262412632446:=()
def tw11773481087148978476:=()
def tw11800345678055122365:=()
def tw11810822726718772107:=()
def tw11852807162151910155:=()
def tw11872578056499086790:=()
def tw11874052610637666252:=()
def tw11955438587541940712:=()
def tw11958137760797773887:=()
def tw12010502848492775468:=()
def tw12035738473657735288:=()
def tw12108306681445205970:=()
def tw12135740739423461901:=()
def tw12186792306654210127:=()
def tw12190066907586009208:=()
def tw12236806176704968915:=()
def tw12256743478423997468:=()
def tw12275065896432039784:=()
def tw12278785253992683916:=()
def tw12325963956626550218:=()
def tw12369653329707370494:=()
def tw12371849175506991009:=()
def tw12394269728250696983:=()
def tw1241354373001409522:=()
def tw12417023213674225030:=()
def tw12417088947648496183:=()
def tw12424885709001335537:=()
def tw1242564545173275901:=()
def tw12486015458222168203:=()
def tw12499026519756451687:=()
def tw12546814394105871598:=()
def tw12571022745492944726:=()
def tw12583021566176945578:=()
def tw12629778011904729738:=()
def tw12636075435444920285:=()
def tw12638827646792074541:=()
def tw12640669281750581405:=()
def tw12655775777849052980:=()
def tw12674873890669681899:=()
def tw12675269466961723130:=()
def tw12680547882598126577:=()
def tw12702278544536256587:=()
def tw12705187442910234216:=()
def tw12711091024103307749:=()
def tw12765955423074145213:=()
def tw12769034920145340709:=()
def tw12798068685784938151:=()
def tw12840421348106399676:=()
def tw12855110499411210179:=()
def tw1287036201181485627:=()
def tw12919466016992482377:=()
def tw12948557050650644448:=()
def tw13046607287075535806:=()
def tw13054007657024380027:=()
def tw13069224826872184448:=()
def tw13108815086659231977:=()
def tw1318258521668157288:=()
def tw13200684604493867404:=()
def tw13202272373503169817:=()
def tw13203686743888021521:=()
def tw1325936947985668429:=()
def tw13280527172394261294:=()
def tw13288913245067319272:=()
def tw13312259748707541479:=()
def tw13404161743284088656:=()
def tw13419696558305572288:=()
def tw13430469380070407830:=()
def tw13433227452578926504:=()
def tw13458535231135260167:=()
def tw13469272516827227406:=()
def tw13492210415863881382:=()
def tw13511042776179662303:=()
def tw13563368279043214249:=()
def tw13601111711708805613:=()
def tw13603888817651632758:=()
def tw13620022400205935060:=()
def tw13625782586788228066:=()
def tw13801424267751532001:=()
def tw13817088939223439463:=()
def tw13832029871846349191:=()
def tw13881021705542400397:=()
def tw13913957640651649324:=()
def tw13914488661443038020:=()
def tw13935279046613895815:=()
def tw1395831691234424379:=()
def tw13967790322630148090:=()
def tw13987500533476824930:=()
def tw13993578487846039787:=()
def tw14038617655405646131:=()
def tw14091134076288047694:=()
def tw14093013339477438417:=()
def tw14126780076708416107:=()
def tw14127179136212324106:=()
def tw14143064805707451248:=()
def tw14150764890529626343:=()
def tw1418699027996522237:=()
def tw14235250623189780149:=()
def tw14248812159371044891:=()
def tw14260353589845112258:=()
def tw14277356334729944500:=()
def tw14301129316277767032:=()
def tw14315306613128115377:=()
def tw14340515637029802388:=()
def tw14387248407578264146:=()
def tw14397420369440981153:=()
def tw14415112100569324223:=()
def tw14447854232160161433:=()
def tw14449317134971483001:=()
def tw14521781848393003231:=()
def tw14525493456559400290:=()
def tw14528504026032770732:=()
def tw14551006523281232936:=()
def tw14551665952261124954:=()
def tw1458305432693947773:=()
def tw14587452794312680206:=()
def tw14663166057112851758:=()
def tw14678561051388395426:=()
def tw14701373654605294474:=()
def tw14720942988401412681:=()
def tw14732968247860065911:=()
def tw14795300214604938196:=()
def tw14811862972634550995:=()
def tw14837520193177847488:=()
def tw14839040577098619339:=()
def tw14862360487181566041:=()
def tw14876337180271832512:=()
def tw14902099992885233207:=()
def tw14917720018567990682:=()
def tw14919064100542807417:=()
def tw14951740376259980543:=()
def tw14966345011308993176:=()
def tw15019807207993609660:=()
def tw15022602429624019349:=()
def tw15051885346029477995:=()
def tw15075078342185791137:=()
def tw15077932137314107650:=()
def tw15081448306496027328:=()
def tw1509238632936505209:=()
def tw15156477322902569902:=()
def tw1516198310125519275:=()
def tw15207243917778328913:=()
def tw15209936705612399639:=()
def tw15210222338461726610:=()
def tw15239611112961600597:=()
def tw15244429539725990107:=()
def tw15247880605017511936:=()
def tw15262151783975574251:=()
def tw15265898663056498473:=()
def tw15338908340858598453:=()
def tw15362651515743661220:=()
def tw15374213584423503736:=()
def tw15374891770766816361:=()
def tw15422771456284924542:=()
def tw15442405130063646444:=()
def tw15463475052351339414:=()
def tw15468304622499473923:=()
def tw15486253771253437942:=()
def tw15572210996666555867:=()
def tw15578642906355868523:=()
def tw1567396326909919740:=()
def tw15681431289609630977:=()
def tw15683178884242533789:=()
def tw15684667686086116671:=()
def tw15720271155050070548:=()
def tw15721564066812248605:=()
def tw15756525214456070275:=()
def tw15765251635225680248:=()
def tw15798082568965063456:=()
def tw15838394527909821208:=()
def tw15844911508760714273:=()
def tw15862355685056261826:=()
def tw15875963143471722971:=()
def tw15909322305172415181:=()
def tw1593692463145488188:=()
def tw15969623662541602307:=()
def tw15980312848645647636:=()
def tw16020105407572148356:=()
def tw16026849097574580822:=()
def tw16056009475729943460:=()
def tw1609690772474023958:=()
def tw1611827735893088433:=()
def tw16151527463669291930:=()
def tw16152050134875398649:=()
def tw16174566119184095439:=()
def tw16224757274197595430:=()
def tw16224945703790079856:=()
def tw16228386110817597751:=()
def tw1622928717857286694:=()
def tw16231679393551295842:=()
def tw16232846693520441978:=()
def tw16271797289628055211:=()
def tw16287517074897583:=()
def tw16288355575059078651:=()
def tw16289541295484413697:=()
def tw16316079574191114305:=()
def tw16320576373265072872:=()
def tw16337226680543975703:=()
def tw16341287114261945233:=()
def tw16399005090713119184:=()
def tw16438828859118802602:=()
def tw16440349559072623835:=()
def tw16444136614510201579:=()
def tw16467113245187496483:=()
def tw16477036609243139275:=()
def tw16555424063484127162:=()
def tw16568156836967933205:=()
def tw16587231874714470430:=()
def tw16622041139574346886:=()
def tw16639369443155463856:=()
def tw16644846718350987107:=()
def tw16678132511278084597:=()
def tw16682588686178194449:=()
def tw16762293949438867093:=()
def tw16821140936146332793:=()
def tw16888778918691597919:=()
def tw16897691394062778632:=()
def tw16972312680906965686:=()
def tw16992154674835174786:=()
def tw16994702658107007241:=()
def tw1700699097887640694:=()
def tw17012074906944774397:=()
def tw17033898386131996370:=()
def tw17040182700327417073:=()
def tw1705000899520292455:=()
def tw17085465726446670536:=()
def tw17093574771005916767:=()
def tw17096936388154277131:=()
def tw17168249284706550153:=()
def tw17205341730122772606:=()
def tw17216398919007185022:=()
def tw17319066437510715586:=()
def tw17369242136087772164:=()
def tw17382151410857247107:=()
def tw17412382953988673278:=()
def tw1742127384264669637:=()
def tw17430639982133590678:=()
def tw17445819191872581080:=()
def tw17447254099098616013:=()
def tw17472346527861438537:=()
def tw17498388210504010957:=()
def tw17501090355753252940:=()
def tw17507980515961792303:=()
def tw17537941524069644567:=()
def tw17597104595524358878:=()
def tw17624099852372004069:=()
def tw17653120181596468440:=()
def tw17665275781415193557:=()
def tw17676698904345767727:=()
def tw1768076808363954180:=()
def tw17705621150132376548:=()
def tw17711442408211479627:=()
def tw17715964358444985633:=()
def tw17772986596651753049:=()
def tw17773457459858779413:=()
def tw17799858603988653827:=()
def tw17808216558680498925:=()
def tw17813125488729474405:=()
def tw17836291992514025319:=()
def tw17858603468373326572:=()
def tw17865305531936390915:=()
def tw17883396990087651984:=()
def tw17884419935401217594:=()
def tw17895065164144587355:=()
def tw17929801827917026806:=()
def tw17955529541182908061:=()
def tw17971369412230400054:=()
def tw17971542032817376534:=()
def tw1800300135088125804:=()
def tw18030716224014298244:=()
def tw18039219007017536234:=()
def tw18050155626507612639:=()
def tw18176291478970346608:=()
def tw18262297423416970043:=()
def tw18275155252468387578:=()
def tw18314304421800885083:=()
def tw18383718446319196029:=()
def tw18404301292355699666:=()
def tw18438335890490797602:=()
def tw1889702292115779266:=()
def tw1914489179020511985:=()
def tw1925861178098887804:=()
def tw1933167650621524893:=()
def tw1963787789292386222:=()
def tw1968429499067840025:=()
def tw1970461935596124315:=()
def tw1999674619419178744:=()
def tw2069132344926738254:=()
def tw2131168681398037033:=()
def tw2133312445555183537:=()
def tw2134684656573999863:=()
def tw2149672819563246467:=()
def tw2181714279626846376:=()
def tw2208618201479586463:=()
def tw2235553889364972361:=()
def tw2248355263103811524:=()
def tw2255905482651215385:=()
def tw2256045811615098176:=()
def tw225809379506747997:=()
def tw2265147638122317344:=()
def tw2293427163841124437:=()
def tw2297446943350807042:=()
def tw2300521157471745076:=()
def tw2300891221456930385:=()
def tw2315521149721652105:=()
def tw2350121241813755986:=()
def tw2397596452794098874:=()
def tw2409181062937003999:=()
def tw2417745267716798745:=()
def tw2421275172532031369:=()
def tw2433965479472636944:=()
def tw2478720367124406933:=()
def tw2478948365982320548:=()
def tw2563263114028922740:=()
def tw2565878513892784879:=()
def tw2586481831305845090:=()
def tw2596582613637311668:=()
def tw2598052153507177133:=()
def tw2616475907772118381:=()
def tw2624034224119196205:=()
def tw2649112016146734539:=()
def tw2666437328593878275:=()
def tw2700869446204700822:=()
def tw2714035537125937316:=()
def tw2717445996498717006:=()
def tw2744836173985688232:=()
def tw2785490620707850760:=()
def tw2802083543499448310:=()
def tw2847701253171120649:=()
def tw2848166061664843238:=()
def tw2856866323432171574:=()
def tw2910968420205728499:=()
def tw2917774131387058320:=()
def tw2980450959321119186:=()
def tw2983435568502002645:=()
def tw2986125681808958385:=()
def tw3019891688241208587:=()
def tw3104324765269993472:=()
def tw313399340963085212:=()
def tw3140847754375287983:=()
def tw3159433121705205160:=()
def tw3162294684181323382:=()
def tw3177791109775285034:=()
def tw3179194232629231349:=()
def tw3187403588120852113:=()
def tw3191856200035808402:=()
def tw3193640993537451816:=()
def tw3251675284507708088:=()
def tw326577868149490802:=()
def tw3293326750901303580:=()
def tw3324411769316293533:=()
def tw3330523771511288635:=()
def tw3353643723339936856:=()
def tw3354377641433678430:=()
def tw3355555127580240821:=()
def tw3383046308967288371:=()
def tw3401369588600176171:=()
def tw3411906703184419984:=()
def tw3424355777208553996:=()
def tw3428871423665732041:=()
def tw3441281870154212662:=()
def tw3479163916677004055:=()
def tw3503372168750413581:=()
def tw3558025622548765955:=()
def tw3559495569537387206:=()
def tw3569688262335903890:=()
def tw3575207651739528360:=()
def tw3595582276922048369:=()
def tw3600493209941848923:=()
def tw3610910104815128535:=()
def tw3627460718815512146:=()
def tw3637042464324886819:=()
def tw3641114836999164982:=()
def tw3660219330597682118:=()
def tw3685609660602948317:=()
def tw3686690711862674261:=()
def tw3691750585409690913:=()
def tw3698792022065029022:=()
def tw3719891455275992806:=()
def tw3727236040784197273:=()
def tw3753280905623556470:=()
def tw378789015230247701:=()
def tw3887023998662578851:=()
def tw3905648225979960275:=()
def tw3924551587892926639:=()
def tw3935586505046656055:=()
def tw3939391386197332382:=()
def tw3981037407115225269:=()
def tw3986791754009785114:=()
def tw4053490506080055044:=()
def tw4077537953577922865:=()
def tw4081600343787578462:=()
def tw4092294573903519717:=()
def tw4098629931733644353:=()
def tw4116380910724006522:=()
def tw4123172443793671542:=()
def tw413125936911290923:=()
def tw4161950820798241767:=()
def tw4171584425262827418:=()
def tw4274861927201271738:=()
def tw4291074216635998651:=()
def tw4301431649996179426:=()
def tw4309296246439838966:=()
def tw4322528623988367737:=()
def tw432776446358763576:=()
def tw4379300108184401691:=()
def tw4386342778493997164:=()
def tw440628824333045072:=()
def tw4427364245516883896:=()
def tw4457383563611903928:=()
def tw4500636521080954198:=()
def tw4507339960918335821:=()
def tw4555663559812405770:=()
def tw4560025438100779117:=()
def tw4595334202390484341:=()
def tw4608769206350598890:=()
def tw4630622184849307395:=()
def tw4641532244874459418:=()
def tw4659804169757750568:=()
def tw4680343654752570796:=()
def tw471039740023315261:=()
def tw474523365293752123:=()
def tw4746807186426069683:=()
def tw4769587339992407183:=()
def tw4771606811630373271:=()
def tw4790194392118533655:=()
def tw4830520630033229208:=()
def tw4836971600517275884:=()
def tw4837634849431005766:=()
def tw4853942470719251729:=()
def tw4856541587782716155:=()
def tw4911209055275275895:=()
def tw5052679510660424709:=()
def tw5053334186571884470:=()
def tw5061356302468026930:=()
def tw5064131477347753916:=()
def tw5092233737240440343:=()
def tw5098105935759598070:=()
def tw5099571040340636883:=()
def tw5102590726158486388:=()
def tw511294914903595571:=()
def tw5124600377335724041:=()
def tw5149071860079673227:=()
def tw5152896658436310964:=()
def tw5161529402190310700:=()
def tw5166299325216924270:=()
def tw5166575579447650021:=()
def tw5172800292653910193:=()
def tw5187984299975365913:=()
def tw5205962981329837367:=()
def tw5240702551626531318:=()
def tw5259995093651162577:=()
def tw5284393195132548238:=()
def tw5297114107754073854:=()
def tw5301654355650498892:=()
def tw5322913474185502929:=()
def tw5324975207310874854:=()
def tw5349105436566488723:=()
def tw5367339862295262151:=()
def tw5393724109795247614:=()
def tw542265717114587134:=()
def tw5423904683408690026:=()
def tw5424783329302043961:=()
def tw5433921685785057146:=()
def tw5438873889642167187:=()
def tw5451082503958432683:=()
def tw5457103348175342433:=()
def tw5472036146190672094:=()
def tw5505136698706182935:=()
def tw5505901481826342293:=()
def tw552164723753730603:=()
def tw5524694398699680864:=()
def tw5535719069101814:=()
def tw5554658955950383579:=()
def tw5558315921674919076:=()
def tw5597323503404032332:=()
def tw565509789340789391:=()
def tw5656843057417300828:=()
def tw5740654176745148171:=()
def tw5747220664266242091:=()
def tw5784126229423128921:=()
def tw5794140758982925424:=()
def tw5827587503783164662:=()
def tw5845111725663986875:=()
def tw5897357114265950455:=()
def tw5906249025480067179:=()
def tw5936373221428110918:=()
def tw5939455781860863856:=()
def tw5944581239573884647:=()
def tw5946541450137901270:=()
def tw596306399894029306:=()
def tw5967183176351765649:=()
def tw5974278582375226609:=()
def tw5974677764742768158:=()
def tw5979506337579856238:=()
def tw6069137222203234806:=()
def tw6069484694739122136:=()
def tw6117645725811456526:=()
def tw6124520901077666971:=()
def tw6141898287304479175:=()
def tw6176133755840747086:=()
def tw6178291705882413061:=()
def tw6184026237530155665:=()
def tw6193859065350826256:=()
def tw6234432288486806806:=()
def tw625627399137934685:=()
def tw6263925173803268875:=()
def tw6263968895827793286:=()
def tw6342696405152521188:=()
def tw6377791777888672514:=()
def tw6386566987025710809:=()
def tw6389834095856693505:=()
def tw6402452253297991137:=()
def tw6441612641670432732:=()
def tw6469843075418031032:=()
def tw6492860967212060992:=()
def tw6515206730001600912:=()
def tw6546327024917056035:=()
def tw6562420402689704580:=()
def tw6581708902190654920:=()
def tw6598896232567044213:=()
def tw6624330292384228679:=()
def tw6634339040478311095:=()
def tw664418652946747943:=()
def tw6651668293621532386:=()
def tw6669095475791596737:=()
def tw6727204809201932098:=()
def tw6735231726245797083:=()
def tw6842823555360722110:=()
def tw6843552494556073100:=()
def tw6849439093038097451:=()
def tw6918440239210093672:=()
def tw6926713780770064120:=()
def tw6927131126774339642:=()
def tw6936365119073434719:=()
def tw6945773822087362179:=()
def tw6948828236022758359:=()
def tw7024020014135287825:=()
def tw7118356761721145987:=()
def tw7139685338829334859:=()
def tw7147194152355889396:=()
def tw7174807217939793668:=()
def tw7176289453102991718:=()
def tw719364450680908586:=()
def tw7220217945958519126:=()
def tw7223331750163580887:=()
def tw722950392377122083:=()
def tw7241985507223730900:=()
def tw7251167153624021085:=()
def tw7272313273274735428:=()
def tw7280665660715878671:=()
def tw7311664402826170754:=()
def tw7322903196975212433:=()
def tw7353413918894868572:=()
def tw7373764673787534606:=()
def tw7402365229944856111:=()
def tw7403337969187808742:=()
def tw743171364286175303:=()
def tw7467299243548615510:=()
def tw749626070478375816:=()
def tw7496882552321651238:=()
def tw7499013144044070586:=()
def tw7509728273599642310:=()
def tw7557269598676089884:=()
def tw7586204385301919327:=()
def tw7587365985115041195:=()
def tw7613072904911511435:=()
def tw7632876479819179127:=()
def tw7654816242937298840:=()
def tw7661537348985383235:=()
def tw7777432837802567357:=()
def tw7792079958096944633:=()
def tw7797000395852690806:=()
def tw7853591640783529588:=()
def tw7863825424024011777:=()
def tw7874576552601062290:=()
def tw7903400459356737072:=()
def tw7911657505682669258:=()
def tw7915812512730976988:=()
def tw7916981286111422384:=()
def tw7935684203120732390:=()
def tw7939557410073819140:=()
def tw7941470744217346356:=()
def tw7949739689382210178:=()
def tw7958890146036397602:=()
def tw8003219444606601973:=()
def tw8060823935199525376:=()
def tw807097441093663138:=()
def tw8198017422720884135:=()
def tw8252462168192406952:=()
def tw8267447210563590739:=()
def tw8316469781670563143:=()
def tw8343839231303256538:=()
def tw8373345162912398900:=()
def tw837641484777321901:=()
def tw8383635878441369819:=()
def tw8392258161906191912:=()
def tw8393247110264208969:=()
def tw8400678539866533073:=()
def tw8460782644204097912:=()
def tw8472522043752875884:=()
def tw8475311457945892706:=()
def tw8485188948048299556:=()
def tw8507181322180496015:=()
def tw8532494502749636628:=()
def tw8538430488600066831:=()
def tw8547413313543437600:=()
def tw8553347948550106063:=()
def tw8606168627737242024:=()
def tw8612949996538393140:=()
def tw8614239256289608024:=()
def tw8620815483153551330:=()
def tw8693071054824959886:=()
def tw8740620797075853922:=()
def tw874565577804154833:=()
def tw8861442081963402877:=()
def tw8872669982474455087:=()
def tw8876401762004303224:=()
def tw8878997331812795130:=()
def tw889577223562188742:=()
def tw8897736590883173212:=()
def tw8906200961636097872:=()
def tw891737203778914540:=()
def tw8918181032126730123:=()
def tw8948186400346815458:=()
def tw8968369389596346590:=()
def tw8972316832097980286:=()
def tw9069001004016458293:=()
def tw9127900181723959709:=()
def tw9128009169082034309:=()
def tw9128998741053937396:=()
def tw9131656225082729943:=()
def tw9140863922851663839:=()
def tw917757920433247853:=()
def tw9193850806008883524:=()
def tw9247871257057466088:=()
def tw9257435674057286537:=()
def tw932391355060272494:=()
def tw9360968980350381369:=()
def tw9380340205280729216:=()
def tw9406314230095974324:=()
def tw9432018913012828136:=()
def tw9435483517703309686:=()
def tw9455547363379758054:=()
def tw9472308197731732031:=()
def tw9540845339493016264:=()
def tw9616889801977432519:=()
def tw9632314003837066580:=()
def tw9649162551827099892:=()
def tw9659679981392603:=()
def tw9678122319968006463:=()
def tw9718572146851249481:=()
def tw9812566604015487032:=()
def tw9823578660020740651:=()
def tw9842530409317568660:=()
def tw9852999591384353336:=()
def tw9864206523948629847:=()
def tw9890519099318528600:=()
def tw9910358109483773728:=()
def tw9915312505917979496:=()
def tw9926719339257972138:=()
def tw9946980117763068159:=()
def tw9954891308281961376:=()
def tw9969392754226517375:=()
def tw9978963785195807907:=()
def tw9985660567380919192:=()
end PySem.W.Fast
set_option tactic.hygienic true
open PySem PySem.W PyProof.Rows
set_option maxRecDepth 100000 in
set_option maxHeartbeats 0 in
theorem PySem.Challenge.cw_wantway_k62_shared_once_holds : PySem.Challenge.rw_wantway_k62_shared_once.Holds := by
  w_on; o_law; k_head; (case hw => w_witness2)
  k_fill
  refine K4.goes (l := PySem.Challenge.rw_wantway_k62_shared_once) rfl rfl (fun w h Y => PySem.W.kIn_of Y) ?F
  case F =>
    intro w mg fa h KX G hmg
    refine' K4.all_at KX G hmg ?_ ?_ ?_ ?_ ?_ ?_ ?_ ?_ ?_ ?_ ?_ ?_ ?_ ?_ ?_ ?_ ?_ ?_ ?_ ?_ ?_ ?_ ?_ ?_ ?_ ?_ ?_ ?_ ?_ ?_ ?_ ?_ ?_ ?_ ?_ ?_ ?_ ?_ ?_ ?_ ?_ ?_ ?_ ?_ ?_ ?_ ?_ ?_ ?_ ?_ ?_ ?_ ?_ ?_ ?_ ?_ ?_ ?_ ?_ ?_ ?_ ?_ ?_ ?_ ?_ ?_ ?_ ?_ ?_ ?_ ?_ ?_ ?_ ?_ ?_ ?_ ?_ ?_ ?_ ?_ ?_ ?_ ?_ ?_ ?_ ?_ ?_ ?_ ?_ ?_ ?_ ?_ ?_ ?_ ?_ ?_ ?_ ?_ ?_ ?_ ?_ ?_ ?_ ?_ ?_ ?_ ?_ ?_ ?_ ?_ ?_ ?_ ?_ ?_ ?_ ?_ ?_ ?_ ?_ ?_ ?_ ?_ ?_ ?_ ?_ ?_ ?_ ?_ ?_ ?_ ?_ ?_ ?_ ?_ ?_ ?_ ?_ ?_ ?_ ?_ ?_ ?_ ?_ ?_ ?_ ?_ ?_ ?_ ?_ ?_ ?_ ?_ ?_ ?_ ?_ ?_ ?_ ?_ ?_ ?_ ?_ ?_ ?_ ?_ ?_ ?_ ?_ ?_ ?_ ?_ ?_ ?_ ?_
    any_goals first | k_is | (refine' And.intro ?zz0 (K4.At.of ?zz1 ?zz2 ?zz3); (case zz0 => first | k_is | (constructor <;> k_is)); (case zz1 => k_is); (case zz2 => k_is); (case zz3 => k_is)) | (refine' And.intro ?zz0 (K4.AtD.of ?zz1 ?zz2 ?zz3 ?zz4); (case zz0 => k_is); (case zz1 => k_is); (case zz2 => k_is); (case zz3 => k_is); (case zz4 => k_is)) | (unfold K4.GN; k_is) | (unfold K4.GC; k_is) | (unfold K4.GF; k_is) | (refine' And.intro ?zz0 ?zz1; (case zz0 => k_is); (case zz1 => exact ⟨_, rfl⟩)) | kit_is | k_exc | (refine K4.CA.mk ?_ ?_ ?_ ?_ ?_ ?_ <;> k_is) | (refine And.intro ⟨_, _, rfl, rfl⟩ ?_; k_keys) | kernel_rfl
