import PyProof.Rows.All
import Wide.All
import OpenK.AllK
import Wide.FinOn
import KE.KDictList
import KE.KDictOf
import KE.KItemsList
import KE.KRevIter
import KE.KRevSl
import KE.KSortTup
import KE.LcSums
import Lean
import PyProof.AttrMissSeq
import PyProof.AutoSeq1
import PyProof.DictCompW
import PyProof.DictRoadsH
import PyProof.DictWalks
import PyProof.EnumStmt
import PyProof.EqAt
import PyProof.EqKinds
import PyProof.ExcInit
import PyProof.FactsAll.range
import PyProof.FactsAll.tuple
import PyProof.FactsAll.zip_1
import PyProof.ListMulRoad
import PyProof.ListOps
import PyProof.ListRange
import PyProof.NeKinds
import PyProof.Rows.RuleIs
import PyProof.Rows.SortShell
import PyProof.Rows.SortWalk
import PyProof.Rows.SumGenD
import PyProof.SeqRoads2
import PyProof.StrWalks
import PyProof.SumWalk
import PyProof.TupleCall
import PyProof.TupleOfGen
import PyProof.WalksMore
import PyProof.ZipIter
import PySem.Challenge.RW_wantway_k90_rounds_are_no_ways
set_option Elab.async false
set_option linter.all false
set_option maxRecDepth 100000
set_option maxHeartbeats 8000000
set_option tactic.hygienic false
section
local macro_rules|`(tactic|exists $es,*)=>`(tactic|refine ⟨$es,*, ?_⟩)
theorem Y{α:Sort u}{a:α}:a=a:=rfl
abbrev vb:=@List.getElem?_append_right
abbrev vc:=@List.length_singleton
abbrev vd:=@List.getElem?_append_left
abbrev ve:=@List.length_range
abbrev vf:=@PySem.wpAny_setField_rec
abbrev vg:=@List.getD_eq_getElem?_getD
abbrev vi:=@Nat.lt_succ_self
abbrev vj:=@List.mem_iff_getElem?
abbrev vm:=@List.map_map
abbrev vo:=@PySem.wpAny_call_entry
abbrev vp:=@List.mem_of_find?_eq_some
abbrev vq:=@PyProof.Rows.callWith_type1
abbrev vt:=@List.mem_range
abbrev vy:=@Nat.lt_irrefl
abbrev vz:=@PySem.W.mg_none_of
abbrev vJ:=@PySem.wpAny_truthy_bool
abbrev vK:=@PySem.Heap.size_push
abbrev vL:=@List.find?_cons
abbrev vM:=@Nat.ne_of_gt
abbrev vN:=@PySem.wpAny_seqItems
abbrev vO:=@Nat.sub_self
abbrev vP:=@PySem.wpAny_newObj_type
abbrev vQ:=@PySem.F.slot_enumerate_next
abbrev vR:=@Nat.le_add_right
abbrev vS:=@List.getElem?_range
abbrev vT:=@List.range_succ
abbrev vU:=@PySem.wpAny_standAt
abbrev vV:=@List.pairwise_iff_getElem
abbrev vW:=@List.getElem?_eq_none_iff
abbrev vX:=@List.lookup_cons
abbrev vY:=@Bool.false_eq_true
abbrev vZ:=@List.mem_iff_getElem
abbrev ja:=@List.eq_nil_of_length_eq_zero
abbrev jb:=@List.getElem?_replicate
abbrev jc:=@List.dropLast_concat_getLast
abbrev jd:=@PySem.mem_of_lookup
abbrev je:=@List.foldl_cons
abbrev jf:=@Nat.min_eq_left
abbrev jg:=@List.take_sublist
abbrev jh:=@List.map_nil
abbrev ji:=@List.replicate_succ
abbrev jj:=@PySem.F.slot_zip_next
abbrev jm:=@Nat.le_max_right
abbrev jn:=@Nat.lt_or_ge
abbrev jo:=@Int.emod_lt_of_pos
abbrev jp:=@List.getElem?_take
abbrev jq:=@Bool.eq_iff_iff
abbrev jr:=@Nat.le_max_left
abbrev js:=@Int.toNat_natCast
abbrev jt:=@List.nodup_append
abbrev ju:=@PySem.wpAny_typeNameOfWhole_keyiter
abbrev jw:=@PySem.wpAny_passesOwn
abbrev jx:=@PySem.F.slot_dict_keyiterator_next
abbrev jy:=@PySem.wpAny_attempt
abbrev jz:=@List.length_drop
abbrev jA:=@Nat.le_of_not_lt
abbrev jB:=@List.not_mem_nil
abbrev jC:=@List.getElem_map
abbrev jD:=@PySem.wpAny_rule
abbrev jE:=@List.nodup_cons
abbrev jF:=@List.forIn_cons
abbrev jG:=@Int.emod_nonneg
abbrev jH:=@PySem.W.kia_one
abbrev jI:=@PySem.wpAny_isInstance
abbrev jJ:=@List.zip_cons_cons
abbrev jK:=@Nat.le_succ
abbrev jL:=@Option.isSome_map
abbrev jM:=@List.nodup_nil
abbrev jN:=@Nat.lt_succ_of_lt
abbrev jO:=@PySem.wpAny_typeNameOf_keyiter
abbrev jP:=@PySem.wpAny_specialOf
abbrev jQ:=@PySem.codeAny_builtin
abbrev jR:=@PySem.wpAny_Call_Name_kw
abbrev jS:=@PySem.tupleKind_room_in1
abbrev jT:=@Array.getElem?_toList
abbrev jU:=@PySem.F.args_enumerate_next_1
abbrev jV:=@List.any_eq_true
abbrev jW:=@List.mem_append_left
abbrev jX:=@List.mem_of_mem_drop
abbrev jY:=@Bool.and_eq_true_iff
abbrev jZ:=@PySem.F.entry_enumerate_next
abbrev j0:=@List.append_nil
abbrev j3:=@Array.length_toList
abbrev j5:=@List.mem_map_of_mem
abbrev j6:=@List.map_congr_left
abbrev j7:=@PySem.call_meets
abbrev j8:=@Nat.lt_of_le_of_lt
abbrev j9:=@List.find?_eq_none
abbrev qa:=@Array.forIn_toList
abbrev qb:=@List.flatten_cons
abbrev qc:=@List.append_assoc
abbrev qd:=@Nat.le_succ_of_le
abbrev qe:=@List.pairwise_map
abbrev qf:=@List.foldl_append
abbrev qg:=@List.find?_append
abbrev qh:=@List.ext_getElem?
abbrev qi:=@Bool.not_eq_true'
abbrev qj:=@Option.isSome_iff_exists
abbrev qk:=@PySem.F.args_tuple_add_2
abbrev ql:=@List.any_cons
abbrev qm:=@PySem.F.entry_tuple_add
abbrev qp:=@Nat.succ_le_succ
abbrev qr:=@List.all_eq_true
abbrev qt:=@List.take_length
abbrev qu:=@Int.eq_ofNat_of_zero_le
abbrev qv:=@Nat.le_of_eq
abbrev qw:=@PySem.F.slot_tuple_add
abbrev qx:=@Nat.succ_mul
abbrev qy:=@Nat.mod_lt
abbrev qz:=@List.range_succ_eq_map
abbrev qA:=@PySem.wpAny_pyIter_list
abbrev qB:=@Option.map_some
abbrev qC:=@List.length_nil
abbrev qD:=@PySem.F.args_zip_next_1
abbrev qF:=@PySem.wpAny_pyIter_enum
abbrev qG:=@PySem.F.slot_dict_get
abbrev qH:=@List.getElem?_eq_none
abbrev qI:=@List.getElem?_set_ne
abbrev qJ:=@List.length_dropLast
abbrev qK:=@PySem.F.entry_zip_next
abbrev qL:=@List.forIn_nil
abbrev qM:=@List.take_zero
abbrev qN:=@List.filterMap_cons
abbrev qO:=@PySem.codeAny_mono
abbrev qP:=@PySem.W.callWith_K
abbrev qQ:=@PySem.wpAny_typeOf
abbrev qR:=@Nat.add_sub_cancel'
abbrev qS:=@List.toList_toArray
abbrev qT:=@PySem.wpAny_execs_nil
abbrev qU:=@List.all_cons
abbrev qV:=@List.map_take
abbrev qW:=@Nat.add_assoc
abbrev qX:=@Bool.not_true
abbrev qY:=@PySem.Heap.get?_update_self
abbrev qZ:=@List.getElem?_drop
abbrev q0:=@PySem.sizeLine_eq
abbrev ka:=@List.any_eq_false
abbrev kh:=@Nat.lt_trans
abbrev kq:=@PySem.wpAny_setField
abbrev ky:=@PySem.wpAny_updateSeq_pair
abbrev kz:=@PySem.wpAny_letGo
abbrev kB:=@PySem.wpAny_newTuple
abbrev kC:=@PySem.isSubtype_stop
abbrev kD:=@List.flatMap_cons
abbrev kE:=@Bool.eq_false_iff
abbrev kF:=@List.reverse_cons
abbrev kH:=@Nat.lt_trichotomy
abbrev kJ:=@Nat.lt_succ_of_le
abbrev kL:=@Nat.le_of_lt_succ
abbrev kM:=@PyProof.Rows.slot_tuple_getitem
abbrev kO:=@List.eraseIdxIfInBounds_toArray
abbrev kP:=@List.cons_append
abbrev kQ:=@Nat.mod_eq_of_lt
abbrev kS:=@PySem.wpAny_dictSet_pairs
abbrev kT:=@List.mem_nil_iff
abbrev ZA:=@List.length_map
abbrev ZD:=@List.getElem?_eq_getElem
abbrev ZE:=@PySem.Heap.get?_push_of_some
abbrev ZF:=@List.getElem?_eq_some_iff
abbrev ZG:=@Nat.le_refl
abbrev ZH:=@List.getElem?_map
abbrev ZJ:=@List.mem_of_getElem?
abbrev ZK:=@List.map_append
abbrev ZL:=@List.length_append
abbrev ZM:=@List.mem_cons_of_mem
abbrev ZN:=@List.length_take
abbrev ZO:=@List.size_toArray
abbrev ZP:=@PySem.Heap.lt_size
abbrev ZQ:=@List.mem_singleton
abbrev ZT:=@Option.some.inj
abbrev ZU:=@List.mem_append_right
abbrev ZV:=@List.map_cons
abbrev ZW:=@List.mem_map
abbrev ZX:=@List.mem_append
abbrev ZY:=@PySem.Heap.get?_push_size
abbrev ZZ:=@Bool.and_eq_true
abbrev Za:=@List.mem_cons_self
abbrev Zb:=@Nat.le_trans
abbrev Zc:=@Nat.zero_le
abbrev Zd:=@List.mem_cons
abbrev Ze:=@Nat.ne_of_lt
abbrev Zf:=@List.length_cons
abbrev Zg:=@List.take_of_length_le
abbrev Zh:=@Nat.le_of_lt
abbrev Zi:=@Bool.false_ne_true
abbrev Zj:=@Option.map_eq_some_iff
abbrev Zk:=@List.mem_of_mem_take
abbrev Zl:=@PySem.wpAny_bind
abbrev Zm:=@PySem.wpAny_pure
abbrev Zn:=@PySem.wpAny_mono
abbrev Zo:=@PySem.wpAny_field
abbrev Zp:=@if_pos
abbrev Zq:=@if_neg
abbrev Zr:=@absurd
abbrev Zs:=@Ne.symm
abbrev Zt:=@of_decide_eq_true
abbrev Zu:=@PySem.boot_len
abbrev Zv:=@PySem.PassesOwn.never
abbrev Zw:=@Nat.not_lt_zero
abbrev Zx:=@Nat.lt_of_lt_of_le
abbrev Zy:=@decide_eq_false
abbrev Zz:=@PySem.F.plainAttrs_list
abbrev Z0:=@PySem.F.slot_list_append
abbrev Z1:=@PySem.F.type_list_append
local macro_rules|`(tactic|omega)=>`(tactic|lia)
namespace L2
open PySem PySem.Spec PyProof.Rows
def sl(n:Nat)(h:n<=sizeLine:=by decide):n<=sizeLine:=h
abbrev Key:=Sum Int Str
abbrev pI:=List Expr
abbrev pH:=List (List Int)
abbrev pG:=Str->Nat
abbrev pi:=Array Value
abbrev ph:=Option Addr
abbrev pf:=List Addr
abbrev pe:=List Int
abbrev pc:=Option Int
abbrev kZ:=List Str
abbrev kX:=List Value
abbrev kW:=Value->Shared->Prop
abbrev kU:=List (Addr×Obj)
def JH:Key->Value->Bool
 |.inl k,v=>Value.isInt k v
 |.inr x,v=>Value.isStrOf x v
def zB(w:World):Key->Int
 |.inl k=>hashInt k
 |.inr x=>hashStr w x
theorem VO:∀{k:Key}{v:Value},JH k v=true->(∃i t,k=Sum.inl i/\v=Value.int i t)\/(∃x t,k=Sum.inr x/\v=Value.str x t)
 |.inl i,v,h=>by
  obtain⟨t,e⟩:=Value.isInt_shape (k:=i) (v:=v) h;exact .inl ⟨i,t,Y,e⟩
 |.inr x,v,h=>by
  obtain⟨t,e⟩:=Value.isStrOf_shape (x:=x) (v:=v) h;exact .inr ⟨x,t,Y,e⟩
def Tz(i:Int)(t:Tok):JH (.inl i) (.int i t)=true:=by simp[JH,Value.isInt]
def Wc(x:Str)(t:Tok):JH (.inr x) (.str x t)=true:=by simp[JH,Value.isStrOf]
def AN(a b:Int):decide ((Sum.inl a:Key)=Sum.inl b)=(a==b):=by
 by_cases e:a=b
 .subst e;simp
 .have h:¬(Sum.inl a:Key)=Sum.inl b:=λq=>e<|Sum.inl.inj q
  rw[Zy h];exact(beq_eq_false_iff_ne.mpr e).symm
def AJ(a b:Str):decide ((Sum.inr a:Key)=Sum.inr b)=decide (a=b):=by
 by_cases e:a=b
 .subst e;simp
 .have h:¬(Sum.inr a:Key)=Sum.inr b:=λq=>e<|Sum.inr.inj q
  rw[Zy h,Zy e]
def AM(a:Int)(b:Str):decide ((Sum.inl a:Key)=Sum.inr b)=false:=Zy λq=>nomatch q
def AL(a:Str)(b:Int):decide ((Sum.inr a:Key)=Sum.inl b)=false:=Zy λq=>nomatch q
def Y7(prog:Program)(w:World):PySem.KeyKind prog w Key where
 is:=JH
 hash:=zB w
 inj:=λv a b M G=>by
  rcases VO M with⟨i,t,rfl,rfl⟩|⟨x,t,rfl,rfl⟩
  .rcases VO G with⟨j,u,rfl,e⟩|⟨y,u,rfl,e⟩
   .injection e with Z _;rw[Z]
   .exact nomatch e
  .rcases VO G with⟨j,u,rfl,e⟩|⟨y,u,rfl,e⟩
   .exact nomatch e
   .injection e with Z _;rw[Z]
 byValue:=λk v h=>by
  rcases VO h with⟨i,t,rfl,rfl⟩|⟨x,t,rfl,rfl⟩ <;> rfl
 pyHash:=λJ h=>by
  rcases VO J with⟨i,t,rfl,rfl⟩|⟨x,t,rfl,rfl⟩
  .exact wpAny_pyHash_int h
  .exact wpAny_pyHash_str h
 eqBool:=λL J h=>by
  rcases VO L with⟨i,t,rfl,rfl⟩|⟨x,t,rfl,rfl⟩
  .rcases VO J with⟨j,u,rfl,rfl⟩|⟨y,u,rfl,rfl⟩
   .rw [AN]at h;exact wpAny_eqBool_int h
   .rw [AM]at h;exact SeqAt.EqAt.int_str i t y u _ _ _ _ h
  .rcases VO J with⟨j,u,rfl,rfl⟩|⟨y,u,rfl,rfl⟩
   .rw [AL]at h;exact SeqAt.EqAt.str_int x t j u _ _ _ _ h
   .rw [AJ]at h;exact wpAny_eqBool_str h
 «strs»:=λk x t v h=>by
  rcases VO h with⟨i,u,rfl,e⟩|⟨y,u,rfl,e⟩
  .exact nomatch e
  .injection e with Z _
   subst Z;cases v <;> rfl
def NN(Z:Program)(w:World)(i:Int)(t:Tok):(Y7 Z w).is (.inl i) (.int i t)=true:=Tz i t
def NM(Z:Program)(w:World)(x:Str)(t:Tok):(Y7 Z w).is (.inr x) (.str x t)=true:=Wc x t
inductive V where
 |non|bl (b:Bool)|int (i:Int)|str (x:Str)|byt (b:Array UInt8)|flt (b:UInt64)|ref (a:Addr)|ty (n:String)
 deriving DecidableEq
abbrev pD:=Option V
abbrev px:=List V
abbrev pj:=List (Key×V)
def RelV:V->Value->Prop
 |.non,u=>u=Value.none
 |.bl b,u=>u=Value.bool b
 |.int i,u=>∃t,u=Value.int i t
 |.str x,u=>∃t,u=Value.str x t
 |.byt b,u=>∃t,u=Value.bytes b t
 |.flt b,u=>∃t,u=Value.float b t
 |.ref a,u=>u=Value.ref a
 |.ty n,u=>u=Value.type n
abbrev Vals:List V->List Value->Prop:=Paired RelV
def Vals.length(r:Vals Z J):Z.length=J.length:=Paired.length r
theorem Vals.get:∀{Z:px}{J:kX}{i:Nat}{x:V},Vals Z J->Z[i]?=some x->∃u,J[i]?=some u/\RelV x u
 |_,_,_,_,.nil,e=>by simp at e
 |_,_,0,_,.cons r _,e=>by simp at e;subst e;exact⟨_,Y,r⟩
 |_,_,i+1,x,.cons _ t,e=>by
  obtain⟨u,L,G⟩:=Vals.get (i:=i) (x:=x) t (by simpa using e);exact⟨u,by simpa using L,G⟩
theorem Vals.set(r:RelV x u):∀{Z:px}{J:kX}(i:Nat),Vals Z J->Vals (Z.set i x) (J.set i u)
 |_,_,_,.nil=>.nil
 |_,_,0,.cons _ t=>.cons r t
 |_,_,i+1,.cons q t=>.cons q<|Vals.set r i t
theorem Vals.append:∀{J Z:px}{L G:kX},Vals J L->Vals Z G->Vals (J++ Z) (L++ G)
 |_,_,_,_,.nil,s=>s
 |_,_,_,_,.cons r t,s=>.cons r<|Vals.append t s
theorem Vals.take:∀{Z:px}{J:kX}(n:Nat),Vals Z J->Vals (Z.take n) (J.take n)
 |_,_,0,_=>.nil
 |_,_,_+1,.nil=>.nil
 |_,_,n+1,.cons r t=>.cons r<|Vals.take n t
theorem Vals.drop:∀{Z:px}{J:kX}(n:Nat),Vals Z J->Vals (Z.drop n) (J.drop n)
 |_,_,0,r=>r
 |_,_,_+1,.nil=>.nil
 |_,_,n+1,.cons _ t=>Vals.drop n t
def UT:Option V->Option Value->Prop
 |some v,some u=>RelV v u
 |none,none=>True
 |_,_=>False
def KV{κ:Type}:List (κ×V)->List (κ×Value)->Prop:=Paired λ(p:κ×V)(q:κ×Value)=>p.1=q.1/\RelV p.2 q.2
def kV:Key->V
 |.inl i=>.int i
 |.inr x=>.str x
inductive HO where
 /-- a list -/
 |lst (xs:List V)
 /-- a tuple (never changes) -/
 |tup (xs:List V)
 /-- a dict whose keys are ints and texts;one whose keys are tuples of ints and texts (the empty one is both) -/
 |dK (kvs:List (Key×V))|dT (kvs:List (List Key×V))
 /-- a set of ints:its members,its size -/
 |set (S:Int->Bool) (n:Nat)
 /-- an instance of the class at C,its dict at dx,its attributes -/
 |ins (C dx:Addr) (fs:List (Str×V))
 /-- the dict of the instance at x -/
 |own (x:Addr)
 /-- the dict of an exception -/
 |xd (fs:List (Str×V))
 /-- a bound method,f of x -/
 |met (f x:Addr)
 /-- a range object lo,lo+1,.. below hi -/
 |rng (lo hi:Int)
 /-- a thing that is known to the object (the script;a dict while a loop walks it):read,never written while it is so -/
 |frz (o:Obj) (u:HO)
 /-- a code object's table -/
 |tbl (ps:Array Value)
 /-- any other thing,by what is true of its one object (a def of one's own:SetO a S n:=HO.ext λh=>..) -/
 |ext (φ:Heap->Prop)
abbrev Hp:=Addr->Option HO
def upd(H:Hp)(a:Addr)(o:HO):Hp:=λb=>if b=a then some o else H b
def Yh:upd H a o a=some o:=by unfold upd;rw[Zp rfl]
def Yg(h:b≠a):upd H a o b=H b:=by unfold upd;rw[Zq h]
def Jc{H:Hp}(h:H a=some o)(Z:H b=some u)(d:o≠u):a≠b:=by
 intro e;subst e;rw[h]at Z;exact d<|ZT Z
def Ya{H:Hp}(h:H a=some o)(Z:H b=none):a≠b:=by
 intro e;subst e;rw[h]at Z;cases Z
def Wt(h:Heap)(a:Addr)(items:pi):Prop:=∃o,h.get? a=some o/\o.dict=none/\o.cls=.type "tuple" /\∃n,o.data=.seq items n
def Wt.is(x:Wt h a items):IsTup h a items:=let⟨o,G,_,J,Z⟩:=x;⟨o,G,J,Z⟩
def Wt.keeps(x:Wt h a items)(J:∀b o,h.get? b=some o->G.get? b=some o):Wt G a items:=let⟨o,Z,r⟩:=x;⟨o,J a o Z,r⟩
def Wt.new(h:Heap)(items:pi):Wt (h.push {cls:=.type "tuple",data:=.seq items}) h.objs.size items:=⟨_,ZY _ rfl,rfl,rfl,_,rfl⟩
section
variable(P:Program)(w:World)
def VQ(H:Hp)(h:Heap)(a:Addr):HO->Prop
 |.lst xs=>xs.length<=sizeLine/\∃(its:kX)(n:Nat),Vals xs its/\h.get? a=some {cls:=.type "list",data:=.seq its.toArray n}
 |.tup xs=>xs.length<=sizeLine/\∃its:kX,Vals xs its/\Wt h a its.toArray
 |.dK kvs=>kvs.length<=sizeLine/\(a==sysModules)=false/\∃vs,KV kvs vs/\h.DictOf (Y7 P w) a vs
 |.dT kvs=>kvs.length<=sizeLine/\(a==sysModules)=false/\∃xs:List (List Key×Addr×Value),
   Paired (λ(p:List Key×V)(q:List Key×Addr×Value)=>p.1=q.1/\H q.2.1=some (.tup<|p.1.map kV)/\RelV p.2 q.2.2) kvs xs/\
   ∃o es ep,h.get? a=some o/\o.ExactDict/\o.data=.dict es ep/\es.toList=xs.map (entryOfKey<|tupleKind<|Y7 P w)/\(xs.map (·.1)).Nodup
 |.set S n=>h.SetOf (intKind P w) a S n
 |.ins C dx fs=>H dx=some (.own a)/\fs.length<=1000/\dx≠a/\h.get? a=some (W.instObj C dx)/\
   ∃mA,h.Ns1 dx mA/\(∀f,UT (fs.lookup f)<|mA f)/\PySem.Within mA (fs.map (·.1))
 |.own _=>∃o,h.get? a=some o
 |.xd fs=>∃mA,h.Ns1 a mA/\∀f,UT (fs.lookup f)<|mA f
 |.rng lo hi=>∃t u v,h.get? a=some {cls:=.type "range",data:=.fields #[.int lo t,.int hi u,.int 1 v]}
 |.frz o u=>h.get? a=some o/\VQ H h a u
 |.tbl ps=>h.get? a=some {cls:=.none,data:=.fields ps}
 |.met f x=>h.get? a=some (W.methodObj (.ref f)<|.ref x)
 |.ext φ=>φ h/\(∃o,h.get? a=some o)/\∀h1 h2:Heap,φ h1->(∀o,h1.get? a=some o->h2.get? a=some o)->φ h2
def HOk(H:Hp)(h:Heap):Prop:=∀a o,H a=some o->VQ P w H h a o
end
section
def VQ.lt(x:VQ P w H h a o):a<h.objs.size:=by
 cases o with
 |lst J=>obtain⟨_,_,_,_,e⟩:=x;exact ZP e
 |tup J=>obtain⟨_,_,_,p⟩:=x;exact p.is.lt
 |dK Z=>obtain⟨_,_,_,_,o,_,_,e,_⟩:=x;exact ZP e
 |dT Z=>obtain⟨_,_,_,_,o,_,_,e,_⟩:=x;exact ZP e
 |set S n=>obtain⟨o,_,_,_,e,_⟩:=x;exact ZP e
 |ins C R G=>obtain⟨_,_,_,e,_⟩:=x;exact ZP e
 |own y=>obtain⟨_,e⟩:=x;exact ZP e
 |xd G=>obtain⟨_,⟨_,_,_,e,_⟩,_⟩:=x;exact ZP e
 |rng N O=>obtain⟨_,_,_,e⟩:=x;exact ZP e
 |frz M u=>obtain⟨e,_⟩:=x;exact ZP e
 |tbl L=>exact ZP (show h.get? a=some _ from x)
 |met f y=>exact ZP (show h.get? a=some _ from x)
 |ext φ=>obtain⟨_,⟨_,e⟩,_⟩:=x;exact ZP e
theorem Paired.mapP:∀{J:List α}{Z:List β},Paired F J Z->(∀a b,F a b->G a b)->Paired G J Z
 |_,_,.nil,_=>.nil
 |_,_,.cons r t,f=>.cons (f _ _ r)<|Paired.mapP t f
def VQ.stay(x:VQ P w H h a o)(k:∀b u,(b=a\/H b=some (.own a))->h.get? b=some u->T.get? b=some u)(U:∀b,H b=some (.own a)->E b=some (.own a))(I:∀b M,H b=some (.tup M)->E b=some (.tup M)):VQ P w E T a o:=by
 induction o with
 |lst M=>obtain⟨z,L,n,r,e⟩:=x;exact⟨z,L,n,r,k _ _ (.inl Y) e⟩
 |tup M=>obtain⟨z,L,r,Z,e,c⟩:=x;exact⟨z,L,r,Z,k _ _ (.inl Y) e,c⟩
 |dK R=>obtain⟨z,y,F,r,Z,J,G,e,c⟩:=x;exact⟨z,y,F,r,Z,J,G,k _ _ (.inl Y) e,c⟩
 |dT R=>
  obtain⟨z,y,M,r,Z,J,G,e,c⟩:=x;exact⟨z,y,M,Paired.mapP r λp q z=>⟨z.1,I _ _ z.2.1,z.2.2⟩,Z,J,G,k _ _ (.inl Y) e,c⟩
 |set S n=>obtain⟨Z,J,G,t,e,c⟩:=x;exact⟨Z,J,G,t,k _ _ (.inl Y) e,c⟩
 |ins C g X=>
  obtain⟨d,z,A,e,O,⟨N,J,G,Q,c⟩,r⟩:=x;exact⟨U _ d,z,A,k _ _ (.inl Y) e,O,⟨N,J,G,k _ _ (.inr d) Q,c⟩,r⟩
 |own y=>obtain⟨Z,e⟩:=x;exact⟨Z,k _ _ (.inl Y) e⟩
 |xd X=>obtain⟨O,⟨N,J,G,e,c⟩,r⟩:=x;exact⟨O,⟨N,J,G,k _ _ (.inl Y) e,c⟩,r⟩
 |rng j m=>obtain⟨t,u,v,e⟩:=x;exact⟨t,u,v,k _ _ (.inl Y) e⟩
 |frz Z u ih=>obtain⟨e,q⟩:=x;exact⟨k _ _ (.inl Y) e,ih q⟩
 |tbl D=>
  have e:h.get? a=some {cls:=.none,data:=.fields D}:=x;show T.get? a=some {cls:=.none,data:=.fields D};exact k a _ (.inl Y) e
 |met f y=>
  have e:h.get? a=some (W.methodObj (.ref f)<|.ref y):=x;show T.get? a=some (W.methodObj (.ref f)<|.ref y);exact k a _ (.inl Y) e
 |ext φ=>obtain⟨p,⟨o,e⟩,B⟩:=x;exact⟨B _ _ p λo q=>k _ _ (.inl Y) q,⟨o,k _ _ (.inl Y) e⟩,B⟩
def HOk.lt(x:HOk P w H h)(e:H a=some o):a<h.objs.size:=(x a o e).lt
def HOk.fresh(x:HOk P w H h)(e:h.objs.size<=a):H a=none:=by
 cases q:H a with
 |none=>rfl
 |some u=>exact Zr (Zx (x.lt q) e)<|vy _
def HOk.kept(x:HOk P w H h)(k:∀b u,h.get? b=some u->Z.get? b=some u):HOk P w H Z:=λa o e=>
 (x a o e).stay (λb u _ q=>k b u q) (λ_ q=>q) λ_ _ q=>q
def HOk.laid(x:HOk P w H h)(k:∀b u,h.get? b=some u->h'.get? b=some u)(G:h.objs.size<=a)(Z:VQ P w (upd H a o) h' a o):HOk P w (upd H a o) h':=λb u e=>by
 have J:=x.fresh G
 by_cases hb:b=a
 .subst hb;rw[Yh]at e;cases e;exact Z
 .rw [Yg hb]at e
  exact(x b u e).stay (λc v _ q=>k c v q) (λc q=>by rw[Yg (Ya q J)];exact q) λc L q=>by rw[Yg (Ya q J)];exact q
end
def Rd(H:Hp)(a:Addr)(u:HO):Prop:=H a=some u \/ ∃o,H a=some (.frz o u)
def Rd.ok(r:Rd H a u)(x:HOk P w H h):VQ P w H h a u:=by
 rcases r with r|⟨o,r⟩
 .exact x a u r
 .obtain ⟨_,q⟩:=x a _ r
  exact q
def Mut:Option HO->Prop
 |some (.lst _)=>True
 |some (.dK _)=>True
 |some (.dT _)=>True
 |some (.set _ _)=>True
 |some (.ins _ _ _)=>True
 |some (.ext _)=>True
 |_=>False
section
def HOk.write(B:HOk P w H h)(L:Mut (H x))(T:e=x\/H e=some (.own x))(k:∀b u,b≠e->h.get? b=some u->R.get? b=some u)(O:∃u,R.get? e=some u)(N:VQ P w (upd H x o') R x o'):HOk P w (upd H x o') R:=λb u q=>by
 have Z:∀c y,H c=some (.own y)->c≠x:=λc y r z=>by subst z;rw[r]at L;exact L
 have J:∀c G,H c=some (.tup G)->c≠x:=λc G r z=>by subst z;rw[r]at L;exact L
 by_cases hb:b=x
 .subst hb;rw[Yh]at q;cases q;exact N
 .rw [Yg hb]at q
  by_cases hbe:b=e
  .have q':H b=some (.own x):=by
    rcases T with z|z
    .exact Zr (hbe.trans z) hb
    .rw [hbe];exact z
   rw[q]at q';cases q';obtain⟨v,D⟩:=O;exact⟨v,by rw[hbe];exact D⟩
  .refine (B b u q).stay (λc v M r=>k c v ?_ r) (λc r=>by rw[Yg (Z c b r)];exact r) λc G r=>by rw[Yg (J c G r)];exact r
   rcases M with rfl|M
   .exact hbe
   .rintro rfl
    rcases T with z|z
    .exact Z c b M z
    .rw [M]at z;cases z;exact hb Y
end
structure Un(fs ex:List Addr)(H H':Hp)(h h':Heap):Prop where
 keep:∀b o,h.get? b=some o->H b=none->b∉fs->b∉ex->h'.get? b=some o
 slot:∀b o,h.get? b=some o->H b=none->b∈fs->b∉ex->∃sl,h'.get? b=some {o with slots:=sl}
 free:∀b o,h.get? b=some o->H b=none->b∉ex->H' b=none
 there:∀b o,h.get? b=some o->b∉ex->∃o',h'.get? b=some o'
 tups:∀b xs,H b=some (.tup xs)->H' b=some (.tup xs)
 frzs:∀b o u,H b=some (.frz o u)->H' b=some (.frz o u)
 tbls:∀b ps,H b=some (.tbl ps)->∃more,H' b=some (.tbl (ps++ more))
section
variable{fs fs' ex ex':pf}{H H1 H2:Hp}{h h1 h2 h':Heap}{a x e:Addr}{o:HO}
def Un.any(u:Un fs ex H H1 h h1)(q:h.get? b=some ob)(n:H b=none)(J:b∉ex):∃sl,h1.get? b=some {ob with slots:=sl}:=by
 by_cases hb:b∈fs
 .exact u.slot b ob q n hb J
 .exact ⟨ob.slots,u.keep b ob q n hb J⟩
def Un.kept(k:∀b u,h.get? b=some u->h'.get? b=some u):Un fs ex H H h h':=
 ⟨λb Z q _ _ _=>k b Z q,λb Z q _ _ _=>⟨Z.slots,k b Z q⟩,λ_ _ _ n _=>n,λb Z q _=>⟨Z,k b Z q⟩,λ_ _ q=>q,λ_ _ _ q=>q,λ_ J q=>⟨#[],by rw[q];simp⟩⟩
def Un.refl:Un fs ex H H h h:=Un.kept λ_ _ q=>q
def Un.laid(k:∀b u,h.get? b=some u->h'.get? b=some u)(G:h.objs.size<=a)(Z:H a=none):Un fs ex H (upd H a o) h h' where
 keep:=λb u q _ _ _=>k b u q
 slot:=λb u q _ _ _=>⟨u.slots,k b u q⟩
 free:=λb u q n _=>by rw[Yg (Ze<|Zx (ZP q) G)];exact n
 there:=λb u q _=>⟨u,k b u q⟩
 tups:=λb J q=>by rw[Yg (Ya q Z)];exact q
 frzs:=λb u J q=>by rw[Yg (Ya q Z)];exact q
 tbls:=λb L q=>⟨#[],by rw[Yg (Ya q Z),q];simp⟩
def Un.write(Z:Mut (H x))(R:e=x\/H e=some (.own x))(k:∀b u,b≠e->h.get? b=some u->h'.get? b=some u)(G:∃u,h'.get? e=some u):Un fs ex H (upd H x o) h h':=by
 have L:∀b,H b=none->b≠x:=λb n z=>by subst z;rw[n]at Z;exact Z
 have M:∀b,H b=none->b≠e:=λb n z=>by
  subst z;rcases R with r|r
  .exact L b n r
  .rw [n]at r;cases r
 have J:∀b u,H b=some u->¬Mut (some u)->b≠x:=λb u q O z=>by subst z;rw[q]at Z;exact O Z
 refine⟨λb u q n _ _=>k b u (M b n) q,λb u q n _ _=>⟨u.slots,k b u (M b n) q⟩,λb u q n _=>by rw[Yg (L b n)];exact n,λb u q _=>?_,
  λb N q=>by rw[Yg (J b _ q λz=>z)];exact q,λb u N q=>by rw[Yg (J b _ q λz=>z)];exact q,λb T q=>⟨#[],by rw[Yg (J b _ q λz=>z),q];simp⟩⟩
 by_cases hbe:b=e
 .subst hbe;exact G
 .exact ⟨u,k b u hbe q⟩
end
def trk(h:Heap)(H:Hp):pf:=(List.range h.objs.size).filter λa=>(H a).isSome
def MN(h:Heap)(H:Hp):Heap:=W.hideAll h<|trk h H
def FU(h:Heap)(H:Hp):(MN h H).objs.size=h.objs.size:=W.hideAll_size _ _
def LA(e:h.get? b=some o)(n:H b=none):(MN h H).get? b=some o:=
 W.hideAll_get _ e λZ=>by
  have q:(H b).isSome=true:=(List.mem_filter.mp Z).2;rw[n]at q;simp at q
def PH(e:(MN h H).get? b=some o):h.get? b=some o/\H b=none:=by
 have Z:h.get? b=some o:=W.of_hideAll (trk h H) e;exists Z
 cases q:H b with
 |none=>rfl
 |some x=>
  have J:b∈trk h H:=List.mem_filter.mpr ⟨vt.mpr<|ZP Z,by simp[q]⟩;have z:(MN h H).get? b=none:=W.hideAll_none (trk h H) J;rw[z]at e;cases e
structure Mod(K:W.Frag)(mg:Str->Option Value)(base:Heap):Prop where
 kin:K.In base
 glob:base.Ns mainGlobals mg
 blt:∃mb,base.Ns builtinsNs mb/\∀x:Str,x≠"__name__" ->mb x=bootBuiltins x
 nolimit:base.NoLimit
structure Cx where
 prog:Program
 w:World
 K:W.Frag
 mg:Str->Option Value
 base:Heap
 A:Around
 N:List Str
 s₀:Shared
 H₀:Hp
 env:Env
 outer:List Env
 stack:List Env
 ex:List Addr
 fn:Str->Bool
 calm:Bool
 pn:List (Addr×Obj)
 xe:Value->Shared->Prop
def frs(l:List Env):pf:=l.filterMap (·.frame)
abbrev Cx.fs(X:Cx):pf:=frs X.outer
def Vis(sc:Scope)(x:Str):Prop:=sc.names.lookup x=some .local\/sc.names.lookup x=some .cell\/sc.names.lookup x=some .free
def Loc(sc:Scope)(x:Str):Prop:=sc.names.lookup x=some .local\/sc.names.lookup x=some .cell
def Look(env:Env)(h:Heap)(m:Str->Option Value)(x:Str)(u:Value):Prop:=
 (env.kindOf x=some .local/\m x=some u)\/((env.kindOf x=some .cell\/env.kindOf x=some .free)/\∃c,env.cells.lookup x=some c/\h.IsCell c (some u))
structure Cx.Ok(X:Cx):Prop where
 mod:Mod X.K X.mg X.base
 kind:X.env.scope.kind=.function
 glob:X.env.globals=mainGlobals
 blt:X.env.builtins=builtinsNs
 above:X.s₀.heap.objs.size<=X.env.locals
 inj:∀x y c,X.env.cells.lookup x=some c->X.env.cells.lookup y=some c->x=y
 has:∀x,(X.env.kindOf x=some .cell\/X.env.kindOf x=some .free)->∃c,X.env.cells.lookup x=some c
 cab:∀x c,X.fn x=true->X.env.cells.lookup x=some c->X.s₀.heap.objs.size<=c
 hd:X.calm=true->X.A.handled=none
 frames:X.A.frames=some X.stack
 stk:X.stack=X.outer\/(X.stack=X.env::X.outer/\X.env.frame=some X.env.locals)
 exf:∀b∈X.ex,b≠X.env.locals/\∀x c,X.env.cells.lookup x=some c->c≠b
 bs:∀b o,X.base.get? b=some o->X.s₀.heap.get? b=some o/\X.H₀ b=none
 bsz:X.base.objs.size<=X.s₀.heap.objs.size
 noex:∀b o,X.base.get? b=some o->b∉X.ex
 exfs:∀b∈X.ex,b∉X.fs
 funs:X.s₀.heap.FunFrames X.base X.outer
 frf:∀b∈X.fs,X.H₀ b=none
structure Inv(X:Cx)(pins:List (Addr×Obj))(U:List (Option V))(H:Hp)(s:Shared):Prop where
 ok:X.Ok
 os:s.os=X.s₀.os
 bare:AllBare s.gens
 base:Un X.fs X.ex X.H₀ H X.s₀.heap s.heap
 loc:∃m,s.heap.Ns X.env.locals m/\∀(i:Nat)(x:Str)(v:V),X.N[i]?=some x->U[i]?=some (some v)->Vis X.env.scope x->∃u,RelV v u/\Look X.env s.heap m x u
 cell:∀x c,X.env.cells.lookup x=some c->∃v,s.heap.IsCell c v
 free:H X.env.locals=none
 freeC:∀x c,X.env.cells.lookup x=some c->H c=none
 pin:∀p∈X.pn++ pins,s.heap.get? p.1=some p.2/\H p.1=none/\p.1≠X.env.locals/\p.1∉X.fs/\∀v,p.2.data≠.cell v
 hok:HOk X.prog X.w H s.heap
 len:U.length=X.N.length
section
variable{X:Cx}
def Cx.Ok.nofr(Z:X.Ok)(e:X.base.get? b=some o):b∉X.fs:=λJ=>by
 have:=(Z.funs.mem J).1;rw[e]at this;cases this
def Inv.bs(I:Inv X Z U H s):∀b o,X.base.get? b=some o->s.heap.get? b=some o/\H b=none:=λb o e=>
 ⟨I.base.keep b o (I.ok.bs b o e).1 (I.ok.bs b o e).2 (I.ok.nofr e)<|I.ok.noex b o e,I.base.free b o (I.ok.bs b o e).1 (I.ok.bs b o e).2<|I.ok.noex b o e⟩
def Inv.bk(I:Inv X Z U H s):∀b o,X.base.get? b=some o->s.heap.get? b=some o:=λb o e=>(I.bs b o e).1
def Inv.mod(I:Inv X Z U H s):Mod X.K X.mg X.base:=I.ok.mod
def Inv.kIn(I:Inv X Z U H s):X.K.In s.heap:=I.ok.mod.kin.keeps I.bk
def Inv.lt(I:Inv X Z U H s):X.env.locals<s.heap.objs.size:=let⟨_,J,_⟩:=I.loc;J.lt
def Inv.sz(I:Inv X Z U H s):X.s₀.heap.objs.size<=s.heap.objs.size:=Zb I.ok.above<|Zh I.lt
def Inv.nofs(I:Inv X Z U H s)(h:s.heap.objs.size<=a):a∉X.fs:=λG=>by
 obtain⟨_,o,J,_⟩:=I.ok.funs.mem G;exact Zr (Zx (ZP J)<|Zb I.sz h)<|vy _
def Inv.cne(I:Inv X G U H s):∀x c,X.env.cells.lookup x=some c->c≠X.env.locals:=λx c e z=>by
 obtain⟨v,o,L,M⟩:=I.cell x c e;obtain⟨m,⟨N,O,R,Z,J,_⟩,_⟩:=I.loc;rw[z,Z]at L;cases L;rw[J]at M;cases M
def Inv.funs(I:Inv X N U H s):s.heap.FunFrames X.base X.outer:=by
 have M:∀(l:List Env),(∀b∈frs l,b∈X.fs)->X.s₀.heap.FunFrames X.base l->s.heap.FunFrames X.base l:=by
  intro l
  induction l with
  |nil=>intro _ _;trivial
  |cons A r ih=>
   intro O D;obtain⟨E,⟨L,o,Z,B,T,F⟩,R⟩:=D;have G:L∈X.fs:=O L (by unfold frs;rw[qN,Z];exact Za);obtain⟨sl,e⟩:=I.base.slot L o T (I.ok.frf L G) G λz=>I.ok.exfs L z G;exact⟨E,⟨L,_,Z,B,e,F⟩,ih (λb J=>O b (by unfold frs;rw[qN,Z];exact ZM _ J)) R⟩
 exact M X.outer (λ_ J=>J) I.ok.funs
def Inv.stack(I:Inv X Z U H s):s.heap.FunFrames X.base X.stack:=by
 rcases I.ok.stk with e|⟨e,G⟩
 .rw [e];exact I.funs
 .rw [e]
  obtain⟨m,J,_⟩:=I.loc;refine .cons (by rw[I.ok.kind];decide) G J ?_ I.funs;exact Heap.get?_none_of_le<|Zb I.ok.bsz I.ok.above
def Inv.stkSub(I:Inv X J U H s):∀b∈frs X.stack,b∈X.env.locals::X.fs:=λb Z=>by
 rcases I.ok.stk with e|⟨e,G⟩
 .rw [e]at Z;exact ZM _ Z
 .rw [e]at Z
  unfold frs at Z;rw[qN,G]at Z;exact Z
def Inv.stkFree(I:Inv X J U H s):∀b∈frs X.stack,H b=none:=λb Z=>by
 rcases Zd.mp (I.stkSub b Z)with e|Z
 .rw [e];exact I.free
 .obtain ⟨_,o,ho,_⟩:=I.ok.funs.mem Z
  exact I.base.free b o ho (I.ok.frf b Z) λz=>I.ok.exfs b z Z
def Inv.step{ch:pf}(I:Inv X O U H s)(G:∀b∈ch,(b∈X.ex\/X.s₀.heap.objs.size<=b)/\b≠X.env.locals/\(∀x c,X.env.cells.lookup x=some c->c≠b)/\∀p∈X.pn++ O,p.1≠b)(keep:∀b o,b≠X.env.locals->b∉X.fs->b∉ch->s.heap.get? b=some o->H b=none->h'.get? b=some o)(slot:∀b o,b≠X.env.locals->b∈X.fs->b∉ch->s.heap.get? b=some o->H b=none->∃sl,h'.get? b=some {o with slots:=sl})(free:∀b o,b∉ch->s.heap.get? b=some o->H b=none->H' b=none)(there:∀b o,b∉ch->s.heap.get? b=some o->∃E,h'.get? b=some E)(B:∀b N,H b=some (.tup N)->H' b=some (.tup N))(A:∀b o u,H b=some (.frz o u)->H' b=some (.frz o u))(D:∀b C,H b=some (.tbl C)->∃more,H' b=some (.tbl<|C++ more))(g:∀m,s.heap.Ns X.env.locals m->h'.Ns X.env.locals m)(j:HOk X.prog X.w H' h')(w:AllBare g'):
  Inv X O U H' {s with heap:=h',gens:=g',drawn:=d',toks:=t'}:=by
 have F:∀b o,X.s₀.heap.get? b=some o->b≠X.env.locals:=λb o e=>Ze<|Zx (ZP e) I.ok.above
 have L:∀b o,X.s₀.heap.get? b=some o->b∉X.ex->b∉ch:=λb o e Z R=>by
  rcases(G b R).1 with z|z
  .exact Z z
  .exact Zr (Zx (ZP e) z) (vy _)
 have cellK:∀x c,X.env.cells.lookup x=some c->∀v,s.heap.IsCell c v->h'.IsCell c v:=λx c e v ⟨o,T,y⟩=>by
  have J:c∉ch:=λz=>(G c z).2.2.1 x c e rfl
  by_cases hc:c∈X.fs
  .obtain ⟨sl,q⟩:=slot c o (I.cne x c e) hc J T<|I.freeC x c e
   exact⟨_,q,y⟩
  .exact ⟨o,keep c o (I.cne x c e) hc J T<|I.freeC x c e,y⟩
 refine⟨I.ok,I.os,w,⟨λb o e n R Z=>?_,λb o e n R Z=>?_,λb o e n Z=>?_,λb o e Z=>?_,λb N e=>B b N<|I.base.tups b N e,λb o N e=>A b o N<|I.base.frzs b o N e,λb C e=>?_⟩,?_,λx c e=>?_,?_,λx c e=>?_,λp t=>?_,j,I.len⟩
 .exact keep b o (F b o e) R (L b o e Z) (I.base.keep b o e n R Z) (I.base.free b o e n Z)
 .obtain ⟨sl,M⟩:=I.base.slot b o e n R Z
  obtain⟨Q,S⟩:=slot b _ (F b o e) R (L b o e Z) M<|I.base.free b o e n Z;exact⟨Q,S⟩
 .obtain ⟨E,M⟩:=I.base.there b o e Z
  exact free b E (L b o e Z) M<|I.base.free b o e n Z
 .obtain ⟨E,M⟩:=I.base.there b o e Z
  exact there b E (L b o e Z) M
 .obtain ⟨m1,M⟩:=I.base.tbls b C e
  obtain⟨f,S⟩:=D b _ M;exact⟨m1++ f,by rw[S,Array.append_assoc]⟩
 .obtain ⟨m,hn,hl⟩:=I.loc
  refine⟨m,g m hn,λi x v M S h=>?_⟩;obtain⟨u,r,l⟩:=hl i x v M S h;exists u,r;rcases l with l|⟨k,c,e,z⟩
  .exact .inl l
  .exact .inr ⟨k,c,e,cellK x c e _ z⟩
 .obtain ⟨v,z⟩:=I.cell x c e
  exact⟨v,cellK x c e v z⟩
 .obtain ⟨m,⟨o,_,_,T,_⟩,_⟩:=I.loc
  exact free _ o (λz=>(G _ z).2.1 Y) T I.free
 .obtain ⟨v,o,T,y⟩:=I.cell x c e
  exact free c o (λz=>(G c z).2.2.1 x c e Y) T<|I.freeC x c e
 .obtain ⟨e,n,ne,nf,d⟩:=I.pin p t
  have J:p.1∉ch:=λz=>(G p.1 z).2.2.2 p t rfl;exact⟨keep p.1 p.2 ne nf J e n,free p.1 p.2 J e n,ne,nf,d⟩
def Inv.un(I:Inv X Z U H s)(u:Un X.fs [] H H' s.heap h')(G:HOk X.prog X.w H' h'):Inv X Z U H' {s with heap:=h',toks:=t'}:=by
 obtain⟨m,⟨o,F,A,O,r⟩,_⟩:=id I.loc;obtain⟨sl,B⟩:=u.any O I.free<|by simp
 exact I.step (g':=s.gens) (d':=s.drawn) (ch:=[]) (λ_ z=>nomatch z) (λb o _ L _ e n=>u.keep b o e n L<|by simp) (λb o _ L _ e n=>u.slot b o e n L<|by simp) (λb o _ e n=>u.free b o e n<|by simp) (λb o _ e=>u.there b o e<|by simp) u.tups u.frzs u.tbls (λE T=>by
  obtain⟨D,M,N,J,R⟩:=T;rw[O]at J;cases J;exact⟨_,M,N,B,R⟩) G I.bare
def Inv.call(I:Inv X Z U H s)(u:Un (frs X.stack) ch H B s.heap h')(M:HOk X.prog X.w B h')(F:AllBare g')(L:∀b∈ch,(b∈X.ex\/X.s₀.heap.objs.size<=b)/\b≠X.env.locals/\(∀x c,X.env.cells.lookup x=some c->c≠b)/\∀p∈X.pn++ Z,p.1≠b):
  Inv X Z U B {s with heap:=h',gens:=g',drawn:=d',toks:=t'}:=by
 obtain⟨m,⟨o,P,Q,T,r⟩,_⟩:=id I.loc;obtain⟨sl,N⟩:=u.any T I.free λz=>(L _ z).2.1 rfl
 exact I.step (ch:=ch) L (λb o N A J e n=>u.keep b o e n (λz=>(Zd.mp<|I.stkSub b z).elim N A) J) (λb o _ _ J e n=>u.any e n J) (λb o J e n=>u.free b o e n J) (λb o J e=>u.there b o e J) u.tups u.frzs u.tbls (λC E=>by
  obtain⟨S,O,R,G,D⟩:=E;rw[T]at G;cases G;exact⟨_,O,R,N,D⟩) M F
def Inv.turned(I:Inv X Z U H s)(k:∀b o,b≠it->s.heap.get? b=some o->D.get? b=some o)(M:H it=none)(L:it≠X.env.locals)(B:it∈X.ex\/X.s₀.heap.objs.size<=it)(T:∀x c,X.env.cells.lookup x=some c->c≠it)(R:∀p∈X.pn++ Z,p.1≠it):Inv X Z U H {s with heap:=D,toks:=t'}:=by
 have G:∀b u,H b=some u->b≠it:=λb u e z=>by rw[z,M]at e;cases e
 refine I.step (g':=s.gens) (d':=s.drawn) (ch:=[it]) (λb O=>?_) (λb o _ _ J e _=>k b o (λz=>J<|by simp[z]) e) (λb o _ _ J e _=>⟨o.slots,k b o (λz=>J<|by simp[z]) e⟩) (λ_ _ _ _ n=>n)
  (λb o J e=>⟨o,k b o (λz=>J<|by simp[z]) e⟩) (λ_ _ e=>e) (λ_ _ _ e=>e) (λb E e=>⟨#[],by rw[e];simp⟩) (λm N=>?_) (λb u e=>?_) I.bare
 .have e:b=it:=by simpa using O
  subst e;exact⟨B,L,T,R⟩
 .obtain ⟨o,es,ep,ho,r⟩:=N
  exact⟨o,es,ep,k _ o (Zs L) ho,r⟩
 .refine (I.hok b u e).stay (λc v J q=>k c v ?_ q) (λ_ q=>q) λ_ _ q=>q
  rcases J with z|z
  .rw [z];exact G b u e
  .exact G c _ z
def Inv.tok(I:Inv X Z U H s)(t:Nat):Inv X Z U H {s with toks:=t}:=I.un (h':=s.heap) (t':=t) Un.refl I.hok
def Inv.kept(I:Inv X Z U H s)(k:∀b u,s.heap.get? b=some u->J.get? b=some u):Inv X Z U H {s with heap:=J,toks:=t'}:=I.un (Un.kept k)<|I.hok.kept k
def Inv.laid(I:Inv X Z U H s)(k:∀b u,s.heap.get? b=some u->h'.get? b=some u)(G:s.heap.objs.size<=a)(J:VQ X.prog X.w (upd H a o) h' a o):
  Inv X Z U (upd H a o) {s with heap:=h',toks:=t'}:=I.un (Un.laid k G<|I.hok.fresh G)<|I.hok.laid k G J
def Inv.write(I:Inv X Z U H s)(M:Mut (H x))(N:e=x\/H e=some (.own x))(k:∀b u,b≠e->s.heap.get? b=some u->L.get? b=some u)(J:∃u,L.get? e=some u)(G:VQ X.prog X.w (upd H x o) L x o):Inv X Z U (upd H x o) {s with heap:=L,toks:=O}:=I.un (Un.write M N k J)<|I.hok.write M N k J G
def Inv.weak(I:Inv X Z U H s)(L:U'.length=U.length)(w:∀(i:Nat) v,U'[i]?=some (some v)->U[i]?=some (some v)):Inv X Z U' H s:=
 ⟨I.ok,I.os,I.bare,I.base,let⟨m,G,J⟩:=I.loc;⟨m,G,λi x v O N M=>J i x v O (w i v N) M⟩,I.cell,I.free,I.freeC,I.pin,I.hok,L.trans I.len⟩
def Inv.pins_of(I:Inv X Z U H s)(h:∀p∈pins',s.heap.get? p.1=some p.2/\H p.1=none/\p.1≠X.env.locals/\p.1∉X.fs/\∀v,p.2.data≠.cell v):Inv X pins' U H s:=
 ⟨I.ok,I.os,I.bare,I.base,I.loc,I.cell,I.free,I.freeC,λp J=>(ZX.mp J).elim (λz=>I.pin p<|jW _ z)<|h p,I.hok,I.len⟩
def NJ{N:kZ}(Z:N.Nodup){i j:Nat}(a:N[i]?=some x)(b:N[j]?=some x):i=j:=by
 obtain⟨M,G⟩:=ZF.mp a;obtain⟨L,J⟩:=ZF.mp b;exact(List.getElem_inj Z).mp<|G.trans J.symm
def Tq(I:Inv X S U H s)(hN:X.N.Nodup)(t:X.N[i]?=some x)(L:Loc X.env.scope x)(r:RelV v u)(h:∀s',Inv X S (U.set i<|some v) H s'->(∃a,Heap.SameBut a s.heap s'.heap/\(a=X.env.locals\/X.env.cells.lookup x=some a))->Q () s')(hf:X.fn x=true\/X.env.scope.names.lookup x=some .local:=by first|exact .inl Y|exact .inr Y|assumption):wpAny M A (storeName X.env x u) Q E s:=by
 obtain⟨m,hn,hl⟩:=id I.loc;have g:(X.env.scope.kind==.class || (X.env.scope.kind==.module && X.env.locals !=X.env.globals))=false:=by rw[I.ok.kind];rfl
 have T:i<U.length:=by rw[I.len];exact(ZF.mp t).1
 have D:=I.cne
 have tracked:∀{a:Addr}{F:Heap},(∃o,s.heap.get? a=some o/\H a=none)->Heap.SameBut a s.heap F->HOk X.prog X.w H F:=λ{a F} ha Z b ob e=>by
  obtain⟨_,_,N⟩:=ha;refine(I.hok b ob e).stay (λc w G q=>(Z.2 c ?_).trans q) (λ_ q=>q) λ_ _ q=>q;rintro rfl;rcases G with rfl|G
  .rw [N]at e;cases e
  .rw [N]at G;cases G
 rcases L with R|R
 .refine wpAny_storeName_local R hn (λF G1 Z=>?_) g
  obtain⟨oL,_,_,J2,_⟩:=id hn;refine h _ ⟨I.ok,I.os,I.bare,⟨λb o e n B L=>?_,λb o e n B L=>?_,I.base.free,λb o e L=>?_,I.base.tups,I.base.frzs,I.base.tbls⟩,⟨_,G1,λj y v' J O e3=>?_⟩,λy c e=>?_,I.free,I.freeC,λp hp=>?_,tracked ⟨oL,J2,I.free⟩ Z,by simpa using I.len⟩ ⟨_,Z,.inl Y⟩
  .exact (Z.2 b<|Ze<|Zx (ZP e) I.ok.above).trans (I.base.keep b o e n B L)
  .obtain ⟨sl,J⟩:=I.base.slot b o e n B L
   exact⟨sl,(Z.2 b<|Ze<|Zx (ZP e) I.ok.above).trans J⟩
  .obtain ⟨o',J⟩:=I.base.there b o e L
   exact⟨o',(Z.2 b<|Ze<|Zx (ZP e) I.ok.above).trans J⟩
  .by_cases hj:j=i
   .subst hj
    rw[t]at J;cases J;rw[List.getElem?_set_self T]at O;cases O;exact⟨u,r,.inl ⟨R,by simp⟩⟩
   .rw [qI (Zs hj)]at O
    obtain⟨u',r',q⟩:=hl j y v' J O e3;exists u',r';rcases q with⟨k,e⟩|⟨k,c,e,z⟩
    .refine .inl ⟨k,?_⟩
     have:y≠x:=λe=>hj<|NJ hN J<|e ▸ t;simp[this,e]
    .exact .inr ⟨k,c,e,z.sameBut Z<|D y c e⟩
  .obtain ⟨w,z⟩:=I.cell y c e
   exact⟨w,z.sameBut Z<|D y c e⟩
  .obtain ⟨e,n,ne,nf,d⟩:=I.pin p hp
   exact⟨(Z.2 p.1 ne).trans e,n,ne,nf,d⟩
 .have hfn:X.fn x=true:=by
   rcases hf with z|z
   .exact z
   .rw [z]at R;cases R
  obtain⟨c,G⟩:=I.ok.has x<|.inl R;obtain⟨w,z⟩:=I.cell x c G;refine wpAny_storeName_cell I.ok.kind R G z λF f Z=>?_;obtain⟨oc,P,C⟩:=id z;refine h {s with heap:=F} ⟨I.ok,I.os,I.bare,⟨λb o e n B L=>?_,λb o e n B L=>?_,I.base.free,λb o e L=>?_,I.base.tups,I.base.frzs,I.base.tbls⟩,⟨m,hn.sameBut Z<|Zs<|D x c G,λj y v' J O e3=>?_⟩,λy l e=>?_,I.free,I.freeC,λp hp=>?_,tracked ⟨oc,P,I.freeC x c G⟩ Z,by simpa using I.len⟩ ⟨c,Z,.inr G⟩
  .exact (Z.2 b<|Ze<|Zx (ZP e)<|I.ok.cab x c hfn G).trans (I.base.keep b o e n B L)
  .obtain ⟨sl,J⟩:=I.base.slot b o e n B L
   exact⟨sl,(Z.2 b<|Ze<|Zx (ZP e)<|I.ok.cab x c hfn G).trans J⟩
  .obtain ⟨o',J⟩:=I.base.there b o e L
   exact⟨o',(Z.2 b<|Ze<|Zx (ZP e)<|I.ok.cab x c hfn G).trans J⟩
  .by_cases hj:j=i
   .subst hj
    rw[t]at J;cases J;rw[List.getElem?_set_self T]at O;cases O;exact⟨u,r,.inr ⟨.inl R,c,G,f⟩⟩
   .rw [qI (Zs hj)]at O
    obtain⟨u',r',q⟩:=hl j y v' J O e3;exists u',r';rcases q with q|⟨k,l,e,z'⟩
    .exact .inl q
    .refine .inr ⟨k,l,e,z'.sameBut Z ?_⟩
     rintro rfl;exact hj<|NJ hN J<|I.ok.inj _ _ _ e G ▸ t
  .by_cases hcc:l=c
   .subst hcc;exact⟨_,f⟩
   .obtain ⟨w2,z2⟩:=I.cell y l e
    exact⟨w2,z2.sameBut Z hcc⟩
  .obtain ⟨e,n,ne,nf,d⟩:=I.pin p hp
   refine⟨(Z.2 p.1 ?_).trans e,n,ne,nf,d⟩;intro q;rw[q,P]at e;have q':oc=p.2:=ZT e;exact d w (by rw[<-q'];exact C)
def GO(I:Inv X Z U H s)(O:X.N.Nodup)(L:X.N[i]?=some x)(G:Loc X.env.scope x)(r:RelV v u)(h:∀J,Inv X Z (U.set i<|some v) H J->Q () J)(N:X.fn x=true\/X.env.scope.names.lookup x=some .local:=by first|exact .inl Y|exact .inr Y|assumption):wpAny M A (storeName X.env x u) Q E s:=
 Tq I O L G r (λJ R _=>h J R) N
def Inv.call'(I:Inv X Z U H s)(O:J.os=s.os)(u:Un (frs X.stack) ch H M s.heap J.heap)(G:HOk X.prog X.w M J.heap)(R:AllBare J.gens)(L:∀b∈ch,(b∈X.ex\/X.s₀.heap.objs.size<=b)/\b≠X.env.locals/\(∀x c,X.env.cells.lookup x=some c->c≠b)/\∀p∈X.pn++ Z,p.1≠b):Inv X Z U M J:=by
 obtain⟨T,g',d',t',N⟩:=J;have e:N=s.os:=O;subst e;exact I.call (g':=g') (t':=t') (d':=d') u G R L
end
abbrev XK:=Value->Option Addr->Hp->Prop
abbrev St:=List (pD)
abbrev pC:=St->Hp->Prop
abbrev pB:=Nat->St->Hp->Prop
abbrev VK:=V->Hp->Prop
abbrev TE:=St->Hp->VK->Prop
abbrev TT:=St->Hp->(Bool->Hp->Prop)->Prop
abbrev TA:=St->Hp->(List V->Hp->Prop)->Prop
structure Ends where
 nx:St->Hp->Prop
 rt:VK
 bk:St->Hp->Prop:=λ_ _=>False
 ct:St->Hp->Prop:=λ_ _=>False
abbrev TS:=Ends->St->Hp->Prop
def EP(X:Cx)(pins:kU)(U:St)(Q:VK)(u:Value)(s':Shared):Prop:=∃v Z,Inv X pins U Z s'/\RelV v u/\Q v Z
def TP(X:Cx)(pins:kU)(U:St)(Q:Bool->Hp->Prop)(b:Bool)(s':Shared):Prop:=∃Z,Inv X pins U Z s'/\Q b Z
def AP(X:Cx)(pins:kU)(U:St)(Q:List V->Hp->Prop)(us:kX)(s':Shared):Prop:=∃Z J,Inv X pins U J s'/\Vals Z us/\Q Z J
def SP(X:Cx)(pins:kU)(D:Ends)(f:Flow)(s':Shared):Prop:=
 match f with
 |.next=>∃U' H',Inv X pins U' H' s'/\D.nx U' H'
 |.brk=>∃U' H',Inv X pins U' H' s'/\D.bk U' H'
 |.cont=>∃U' H',Inv X pins U' H' s'/\D.ct U' H'
 |.ret u=>∃v U' H',Inv X pins U' H' s'/\RelV v u/\D.rt v H'
def PE(X:Cx)(e:Expr)(t:TE):Prop:=
 ∀(Z:kU)(s:Shared)(U:St)(H:Hp)(Q:VK),Inv X Z U H s->t U H Q->wpAny (model X.prog X.w) X.A (eval e X.env) (EP X Z U Q) X.xe s
def PT(X:Cx)(e:Expr)(t:TT):Prop:=
 ∀(Z:kU)(s:Shared)(U:St)(H:Hp)(Q:Bool->Hp->Prop),Inv X Z U H s->t U H Q->wpAny (model X.prog X.w) X.A (isTrue e X.env<|eval e X.env) (TP X Z U Q) X.xe s
def PW(X:Cx)(e:Expr)(t:TT):Prop:=
 ∀(whole:Sem Value)(Z:kU)(s:Shared)(U:St)(H:Hp)(Q:Bool->Hp->Prop),Inv X Z U H s->t U H Q->wpAny (model X.prog X.w) X.A (isTrue e X.env whole) (TP X Z U Q) X.xe s
def PW.pt(h:PW X e t):PT X e t:=h _
def PA(X:Cx)(es:pI)(t:TA):Prop:=
 ∀(J:Pos)(Z:kU)(s:Shared)(U:St)(H:Hp)(Q:List V->Hp->Prop),Inv X Z U H s->t U H Q->wpAny (model X.prog X.w) X.A (spliced<|backTo J<|starEach es X.env) (AP X Z U Q) X.xe s
def PS(X:Cx)(st:Stmt)(t:TS):Prop:=
 ∀(Z:kU)(s:Shared)(U:St)(H:Hp)(D:Ends),Inv X Z U H s->t D U H->wpAny (model X.prog X.w) X.A (exec st X.env) (SP X Z D) X.xe s
def PSs(X:Cx)(st:List Stmt)(t:TS):Prop:=
 ∀(Z:kU)(s:Shared)(U:St)(H:Hp)(D:Ends),Inv X Z U H s->t D U H->wpAny (model X.prog X.w) X.A (execs st X.env) (SP X Z D) X.xe s
def thn(h:wpAny M A t Q E s)(Z:∀a s,Q a s->Q' a s):wpAny M A t Q' E s:=Zn h Z λ_ _ x=>x
end L2
namespace L2
open PySem PySem.Spec PyProof.Rows
section
variable{X:Cx}
def Fv(o:Option (pD))(P:V->Prop):Prop:=match o with
 |some (some v)=>P v
 |_=>False
def Fv.old(h:Fv o P):∃v,o=some (some v)/\P v:=by
 match o,h with
 |some (some v),h=>exact⟨v,Y,h⟩
def U3(x:V)(P:Int->Prop):Prop:=match x with
 |.int c=>P c
 |_=>False
def U3.old(h:U3 x P):∃c,x=.int c/\P c:=by
 cases x <;> first|exact⟨_,Y,h⟩|exact h.elim
def V9(x:V)(P:Addr->Prop):Prop:=match x with
 |.ref c=>P c
 |_=>False
def V9.old(h:V9 x P):∃c,x=.ref c/\P c:=by
 cases x <;> first|exact⟨_,Y,h⟩|exact h.elim
def BC(i:Nat):TE:=λU H Q=>Fv U[i]? λv=>Q v H
def tC(v:V):TE:=λ_ H Q=>Q v H
def Sj(E:X.N[i]?=some x)(R:Vis X.env.scope x)(M:(x==("__debug__":Str))=false:=by decide)(N:(x==("__classdict__":Str))=false:=by decide):PE X (.Name x pos) (BC i):=by
 intro L s U H Q I h;replace h:=Fv.old h;obtain⟨v,e,h⟩:=h;obtain⟨m,T,D⟩:=I.loc;obtain⟨u,r,l⟩:=D i x v E e R;have G:EP X L U Q u s:=⟨v,H,I,r,h⟩;rcases l with⟨J,B⟩|⟨J,c,O,Z⟩
 .exact wpAny_Name (wpAny_loadName_local I.ok.kind J T B G) M
 .rcases J with J|J
  .exact wpAny_Name (wpAny_loadName_cell I.ok.kind J O Z G) M
  .exact wpAny_Name (wpAny_loadName_free I.ok.kind J O Z G N) M
def Yc:PE X (.Constant (.int i) j pos) (tC<|.int i):=λ_ _ _ H _ I h=>wpAny_Constant_int ⟨.int i,H,I.tok _,⟨_,rfl⟩,h⟩
def J4:PE X (.Constant (.bool b) j pos) (tC<|.bl b):=λ_ _ _ H _ I h=>Constant_bool ⟨.bl b,H,I,rfl,h⟩
def JJ:PE X (.Constant .none j pos) (tC .non):=λ_ _ _ H _ I h=>Constant_none ⟨.non,H,I,rfl,h⟩
def Y0:PE X (.Constant (.str x) j pos) (tC<|.str x):=λ_ _ _ H _ I h=>Calls.Constant_str ⟨.str x,H,I.tok _,⟨_,rfl⟩,h⟩
def Gl(X:Cx)(x:Str):Prop:=X.env.kindOf x=some .globalImplicit
def W1(I:Inv X Z U H s)(G:Gl X x)(J:X.mg x=some u)(h:Q u s)(L:(x==("__debug__":Str))=false:=by decide):wpAny (model X.prog X.w) X.A (eval (.Name x pos) X.env) Q E s:=
 Calls.Name_function_global I.ok.kind G (Calls.loadGlobal_global (by rw[I.ok.glob];exact I.mod.glob.keeps I.bk) J h) L
def J6(I:Inv X Z U H s)(M:Gl X x)(L:X.mg x=none)(J:bootBuiltins x=some u)(h:Q u s)(G:x≠"__name__":=by decide)(N:(x==("__debug__":Str))=false:=by decide):wpAny (model X.prog X.w) X.A (eval (.Name x pos) X.env) Q E s:=by
 obtain⟨T,R,O⟩:=I.mod.blt;exact Calls.Name_function_global I.ok.kind M (Calls.loadGlobal_builtin (by rw[I.ok.glob];exact I.mod.glob.keeps I.bk) L (by rw[I.ok.blt];exact R.keeps I.bk) ((O x G).trans J) h) N
def Ja(J:Gl X x)(Z:X.mg x=some u)(r:RelV v u)(G:(x==("__debug__":Str))=false:=by decide):PE X (.Name x pos) (tC v):=
 λ_ _ _ H _ I h=>W1 I J Z ⟨v,H,I,r,h⟩ G
def Oo(L:Gl X x)(G:X.mg x=none)(Z:bootBuiltins x=some u)(r:RelV v u)(J:x≠"__name__":=by decide)(M:(x==("__debug__":Str))=false:=by decide):PE X (.Name x pos) (tC v):=
 λ_ _ _ H _ I h=>J6 I L G Z ⟨v,H,I,r,h⟩ J M
variable{a b:Expr}{ta tb:TE}{pos:Pos}
def PC(X:Cx)(op:CmpOp)(a b:Expr)(t:TE):Prop:=
 ∀(Z:kU)(s:Shared)(U:St)(H:Hp)(Q:VK),Inv X Z U H s->t U H Q->
  wpAny (model X.prog X.w) X.A (eval a X.env) (λv G=>wpAny (model X.prog X.w) X.A (eval b X.env) (λu J=>wpAny (model X.prog X.w) X.A (compareOp op v u) (EP X Z U Q) X.xe J) X.xe G) X.xe s
def tB(t:TE):TT:=λU H Q=>t U H λx Z=>∃c,x=.bl c/\Q c Z
def Jh(h:PC X op a b t)(J:behindInMarks op b=false:=by first|exact nobehind _ (by decide) (by decide)|rfl):PT X (.Compare a [op] [b] pos) (tB t):=by
 intro Z s U H Q I M;refine wpAny_isTrue_Compare1 (thn (h Z s U H _ I M) λv D J=>thn J λu B N=>thn N λc T ⟨x,R,O,G,L⟩=>?_) J;obtain⟨d,rfl,q⟩:=L;cases G;exact vJ ⟨R,O,q⟩
def JS(h:PE X e t)(M:∀whole,isTrue e X.env whole=(do let v <-whole;standAt e.pos;holding [v] (truthy v)):=by intro _;rfl):PT X e (tB t):=by
 intro Z s U H Q I L;refine isTrue_plain (thn (h Z s U H _ I L) λv R ⟨x,O,N,J,G⟩=>?_)<|M _;obtain⟨d,rfl,q⟩:=G;cases J;exact vJ ⟨O,N,q⟩
variable{rest:pI}
def yB(t u:TT):TT:=λU H Q=>t U H λc Z=>if c=true then u U Z Q else Q false Z
def tOr(t u:TT):TT:=λU H Q=>t U H λc Z=>if c=true then Q true Z else u U Z Q
def zq(t:TT):TT:=λU H Q=>t U H λc Z=>Q (!c) Z
def MC(J:PT X a tA):PW X (.BoolOp .And [a] pos) tA:=by
 intro G Z s U H Q I h;refine isTrue_and<|thn (J Z s U H Q I h) λc L e=>?_
 cases c with
 |true=>exact isTrue_and_nil e
 |false=>exact e
def Jg(J:PT X a tA):PW X (.BoolOp .Or [a] pos) tA:=by
 intro G Z s U H Q I h;refine isTrue_or<|thn (J Z s U H Q I h) λc L e=>?_
 cases c with
 |false=>exact isTrue_or_nil e
 |true=>exact e
def Br(R:PT X a tA)(O:PW X (.BoolOp .And (b::rest) pos) tB'):PW X (.BoolOp .And (a::b::rest) pos) (yB tA tB'):=by
 intro M Z s U H Q I h;refine isTrue_and<|thn (R Z s U H _ I h) λc N ⟨L,G,J⟩=>?_
 cases c with
 |true=>exact O M Z N U L Q G J
 |false=>exact⟨L,G,J⟩
def UH(R:PT X a tA)(O:PW X (.BoolOp .Or (b::rest) pos) tB'):PW X (.BoolOp .Or (a::b::rest) pos) (tOr tA tB'):=by
 intro M Z s U H Q I h;refine isTrue_or<|thn (R Z s U H _ I h) λc N ⟨L,G,J⟩=>?_
 cases c with
 |true=>exact⟨L,G,J⟩
 |false=>exact O M Z N U L Q G J
def JX(J:PT X a tA):PT X (.UnaryOp .Not a pos) (zq tA):=by
 intro Z s U H Q I h;exact isTrue_not<|J Z s U H (λc G=>Q (!c) G) I h
def A7(ta tb:TE):TE:=λU H Q=>ta U H λx Z=>∃c,x=.bl c/\if c=true then tb U Z Q else Q (.bl false) Z
def zp(ta tb:TE):TE:=λU H Q=>ta U H λx Z=>∃c,x=.bl c/\if c=true then Q (.bl true) Z else tb U Z Q
def Uz(h:PE X a t):PE X (.BoolOp op [a] pos) t:=λZ s U H Q I J=>BoolOp_one<|h Z s U H Q I J
def Xa(R:PE X a ta)(O:PE X (.BoolOp .And (b::rest) pos) tb):PE X (.BoolOp .And (a::b::rest) pos) (A7 ta tb):=by
 intro Z s U H Q I h;refine BoolOp_and<|thn (R Z s U H _ I h) λv M ⟨x,L,G,N,J⟩=>?_;obtain⟨c,rfl,J⟩:=J;cases N;refine vJ ?_
 cases c with
 |true=>exact O Z M U L Q G J
 |false=>exact⟨.bl false,L,G,Y,J⟩
def Ca(R:PE X a ta)(O:PE X (.BoolOp .Or (b::rest) pos) tb):PE X (.BoolOp .Or (a::b::rest) pos) (zp ta tb):=by
 intro Z s U H Q I h;refine BoolOp_or<|thn (R Z s U H _ I h) λv M ⟨x,L,G,N,J⟩=>?_;obtain⟨c,rfl,J⟩:=J;cases N;refine vJ ?_
 cases c with
 |false=>exact O Z M U L Q G J
 |true=>exact⟨.bl true,L,G,Y,J⟩
end
end L2
namespace L2
open PySem PySem.Spec PyProof.Rows
def SqL(K:W.Frag)(H:Hp)(a:Addr)(xs:px):Prop:=
 Rd H a (.lst xs) \/
  ∃(o:Obj)(Z:pi)(n:Nat),K.lookup a=some o/\o.cls=.type "list" /\o.dict=none/\o.data=.seq Z n/\Z.size<=sizeLine/\Vals xs Z.toList
def SqT(K:W.Frag)(H:Hp)(a:Addr)(xs:px):Prop:=
 Rd H a (.tup xs) \/
  ∃(o:Obj)(Z:pi)(n:Nat),K.lookup a=some o/\o.cls=.type "tuple" /\o.data=.seq Z n/\Z.size<=sizeLine/\Vals xs Z.toList
def vF:Value->Option V
 |.none=>some .non
 |.bool b=>some<|.bl b
 |.int i _=>some<|.int i
 |.str x _=>some<|.str x
 |.bytes b _=>some<|.byt b
 |.float b _=>some<|.flt b
 |.ref a=>some<|.ref a
 |.type n=>some<|.ty n
 |_=>none
def RelV.abs(r:RelV x u):vF u=some x:=by
 cases x with
 |non=>cases r;rfl
 |bl _=>cases r;rfl
 |int _=>obtain⟨t,rfl⟩:=r;rfl
 |str _=>obtain⟨t,rfl⟩:=r;rfl
 |byt _=>obtain⟨t,rfl⟩:=r;rfl
 |flt _=>obtain⟨t,rfl⟩:=r;rfl
 |ref _=>cases r;rfl
 |ty _=>cases r;rfl
def RelV.inj(r:RelV x u)(q:RelV y u):x=y:=ZT<|r.abs.symm.trans q.abs
theorem Vals.inj:∀{J Z:px}{G:kX},Vals J G->Vals Z G->J=Z
 |_,_,_,.nil,.nil=>rfl
 |_,_,_,.cons r t,.cons r' t'=>by rw[r.inj r',Vals.inj t t']
section
def SqL.of{K:W.Frag}(h:H a=some (.lst Z)):SqL K H a Z:=.inl<|.inl h
abbrev Z3:=@SqL.of
def SqT.of{K:W.Frag}(h:H a=some (.tup Z)):SqT K H a Z:=.inl<|.inl h
abbrev Z2:=@SqT.of
def Inv.list(I:Inv X G U H s)(h:SqL X.K H a J):∃Z:kX,Vals J Z/\PlainL s.heap a Z.toArray/\J.length<=sizeLine:=by
 rcases h with h|⟨o,Z,n,M,O,N,L,R,r⟩
 .obtain ⟨z,Z,n,r,e⟩:=h.ok I.hok
  exact⟨Z,r,⟨_,n,e,Y,Y,Y⟩,z⟩
 .refine ⟨Z.toList,r,⟨o,n,I.kIn a o M,O,N,by simpa using L⟩,?_⟩
  have e:=r.length;simp only[j3]at e;omega
def Inv.tuple(I:Inv X G U H s)(h:SqT X.K H a J):∃Z:kX,Vals J Z/\IsTup s.heap a Z.toArray/\J.length<=sizeLine:=by
 rcases h with h|⟨o,Z,n,M,N,L,O,r⟩
 .obtain ⟨z,Z,r,p⟩:=h.ok I.hok
  exact⟨Z,r,p.is,z⟩
 .refine ⟨Z.toList,r,⟨o,I.kIn a o M,N,n,by simpa using L⟩,?_⟩
  have e:=r.length;simp only[j3]at e;omega
def Inv.list_inj(I:Inv X G U H s)(h:SqL X.K H a O)(T:SqL X.K H a N):O=N:=by
 obtain⟨J,r,⟨o,n,e,_,_,d⟩,_⟩:=I.list h;obtain⟨Z,R,⟨D,E,L,_,_,M⟩,_⟩:=I.list T;rw[e]at L;cases L;rw[d]at M;injection M with B _;have:J=Z:=by simpa using congrArg Array.toList B
 subst this;exact r.inj R
def Inv.tuple_inj(I:Inv X G U H s)(h:SqT X.K H a O)(T:SqT X.K H a N):O=N:=by
 obtain⟨J,r,⟨o,e,_,n,d⟩,_⟩:=I.tuple h;obtain⟨Z,R,⟨D,L,_,E,M⟩,_⟩:=I.tuple T;rw[e]at L;cases L;rw[d]at M;injection M with B _;have:J=Z:=by simpa using congrArg Array.toList B
 subst this;exact r.inj R
end
abbrev Cx.wish(X:Cx)(E:kW):Cx:={X with xe:=E}
abbrev Cx.nox(X:Cx):Cx:=X.wish λ_ _=>False
def Cx.Ok.wish{X:Cx}(Z:X.Ok)(E:kW):(X.wish E).Ok:=
 ⟨Z.mod,Z.kind,Z.glob,Z.blt,Z.above,Z.inj,Z.has,Z.cab,Z.hd,Z.frames,Z.stk,Z.exf,Z.bs,Z.bsz,Z.noex,Z.exfs,Z.funs,Z.frf⟩
def Cx.Ok.unwish{X:Cx}(Z:(X.wish E).Ok):X.Ok:=
 ⟨Z.mod,Z.kind,Z.glob,Z.blt,Z.above,Z.inj,Z.has,Z.cab,Z.hd,Z.frames,Z.stk,Z.exf,Z.bs,Z.bsz,Z.noex,Z.exfs,Z.funs,Z.frf⟩
section
def Inv.wish(I:Inv X Z U H s)(E:kW):Inv (X.wish E) Z U H s:=⟨I.ok.wish E,I.os,I.bare,I.base,I.loc,I.cell,I.free,I.freeC,I.pin,I.hok,I.len⟩
def Inv.unwish(I:Inv (X.wish E) Z U H s):Inv X Z U H s:=⟨I.ok.unwish,I.os,I.bare,I.base,I.loc,I.cell,I.free,I.freeC,I.pin,I.hok,I.len⟩
def SP.unwish(h:SP (X.wish E) G D f L):SP X G D f L:=by
 cases f with
 |next=>obtain⟨Z,J,I,q⟩:=h;exact⟨Z,J,I.unwish,q⟩
 |brk=>obtain⟨Z,J,I,q⟩:=h;exact⟨Z,J,I.unwish,q⟩
 |cont=>obtain⟨Z,J,I,q⟩:=h;exact⟨Z,J,I.unwish,q⟩
 |ret u=>obtain⟨v,Z,J,I,r,q⟩:=h;exact⟨v,Z,J,I.unwish,r,q⟩
def PSs.nox{J:List Stmt}(h:PSs X.nox J t):PSs X J t:=λZ s U H D I G=>
 Zn (h Z s U H D (I.wish _) G) (λ_ _ q=>q.unwish) λ_ _ z=>False.elim z
end
section
variable{st:Stmt}{rest:List Stmt}{t u:TS}{te:TE}
def QG:TS:=λD U H=>D.nx U H
def Yk(t u:TS):TS:=λD U H=>t {D with nx:=u D} U H
def Yo:PSs X [] QG:=λ_ _ U H _ I h=>qT ⟨U,H,I,h⟩
def YZ(L:PS X st t)(G:PSs X rest u):PSs X (st::rest) (Yk t u):=by
 intro Z s U H D I h;refine wpAny_execs_cons<|thn (L Z s U H {D with nx:=u D} I h) λf J q=>?_
 cases f with
 |next=>
  obtain⟨M,O,N,q⟩:=q;exact G Z J M O D N q
 |ret v=>exact q
 |brk=>exact q
 |cont=>exact q
def Yb(J:PS X st t):PSs X [st] t:=by
 intro Z s U H D I h;refine wpAny_execs_cons<|thn (J Z s U H D I h) λf G q=>?_
 cases f with
 |next=>exact qT q
 |ret v=>exact q
 |brk=>exact q
 |cont=>exact q
def Inv.quiet(I:Inv X Z U H s):interactive X.env=false:=by simp[interactive,I.ok.kind]
def A4(te:TE):TS:=λD U H=>te U H λ_ Z=>D.nx U Z
def VW(L:PE X e te)(G:swapsWith e none pos.line X.env=pure false:=by rfl):PS X (.Expr e pos) (A4 te):=by
 intro Z s U H D I h;exact wpAny_Expr_any (thn (L Z s U H _ I h) λv O ⟨x,N,M,R,J⟩=>⟨U,N,M,J⟩) I.quiet G
def zo(te:TE):TS:=λD U H=>te U H D.rt
def Yn(L:PE X e te):PS X (.Return (some e) pos) (zo te):=by
 intro Z s U H D I h;exact wpAny_Return_some<|thn (L Z s U H _ I h) λv O ⟨x,N,M,J,G⟩=>⟨x,U,N,M,J,G⟩
def Az:TS:=λD _ H=>D.rt .non H
def Od:PS X (.Return none pos) Az:=λ_ _ U H _ I h=>wpAny_Return_none ⟨.non,U,H,I,rfl,h⟩
def VG(c:TT)(t u:TS):TS:=λD U H=>c U H λb Z=>if b=true then t D U Z else u D U Z
def Y5(N:PT X c tc)(R:PSs X a t)(O:PSs X b u):PS X (.If c a b pos) (VG tc t u):=by
 intro Z s U H D I h;refine wpAny_If<|thn (N Z s U H _ I h) λd J ⟨M,L,G⟩=>?_
 cases d with
 |true=>exact R Z J U M D L G
 |false=>exact O Z J U M D L G
def Qo:TS:=λ_ _ _=>False
def VT:PSs X sts Qo:=λ_ _ _ _ _ _ h=>h.elim
end
abbrev TG:=V->St->Hp->(pC)->Prop
abbrev TGs:=List V->St->Hp->(pC)->Prop
def PG(X:Cx)(target:Expr)(t:TG):Prop:=
 ∀(Z:kU)(s:Shared)(U:St)(H:Hp)(v:V)(u:Value)(Q:pC),Inv X Z U H s->RelV v u->t v U H Q->
  wpAny (model X.prog X.w) X.A (assign target X.env u) (λ_ L=>∃J G,Inv X Z J G L/\Q J G) X.xe s
def PGs(X:Cx)(ts:pI)(t:TGs):Prop:=
 ∀(Z:kU)(s:Shared)(U:St)(H:Hp)(J:px)(G:kX)(Q:pC),Inv X Z U H s->Vals J G->t J U H Q->
  wpAny (model X.prog X.w) X.A (assignInOrder ((assignEach ts X.env).map (·.2)) G) (λ_ N=>∃L M,Inv X Z L M N/\Q L M) X.xe s
abbrev zS:=V->V->V->Hp->(Hp->Prop)->Prop
def zg(X:Cx)(t:zS):Prop:=
 ∀(Z:kU)(s:Shared)(U:St)(H:Hp)(o i v:V)(J G u:Value)(Q:Hp->Prop),Inv X Z U H s->RelV o J->RelV i G->RelV v u->t o i v H Q->
  wpAny (model X.prog X.w) X.A (setItem J G u) (λ_ M=>∃L,Inv X Z U L M/\Q L) X.xe s
abbrev TIp:=V->V->Hp->VK->Prop
def PIp(X:Cx)(op:Operator)(t:TIp):Prop:=
 ∀(Z:kU)(s:Shared)(U:St)(H:Hp)(x y:V)(v u:Value)(Q:VK),Inv X Z U H s->RelV x v->RelV y u->t x y H Q->
  wpAny (model X.prog X.w) X.A (inplaceOp op v u) (EP X Z U Q) X.xe s
section
variable{X:Cx}
def Vm(i:Nat):TG:=λv U H Q=>Q (U.set i<|some v) H
def Yj(i:Nat)(M:X.N.Nodup)(G:X.N[i]?=some x:=by exact Y)(J:Loc X.env.scope x:=by exact Or.inl Y)(L:X.fn x=true\/X.env.scope.names.lookup x=some .local:=by first|exact .inl Y|exact .inr Y|assumption):PG X (.Name x pos) (Vm i):=by
 intro Z s U H v u Q I r h;exact wpAny_assign_Name<|GO I M G J r (λO N=>⟨_,H,N,h⟩) L
def Wr:TGs:=λvs U H Q=>match vs with
 |[]=>Q U H
 |_=>False
def Wr.old(h:Wr Z U H Q):Z=[]/\Q U H:=by
 match Z,h with
 |[],h=>exact⟨Y,h⟩
def JL(t:TG)(u:TGs):TGs:=λvs U H Q=>match vs with
 |v::r=>t v U H λU' H'=>u r U' H' Q
 |_=>False
def JL.old(h:JL t u Z U H Q):∃v r,Z=v::r/\t v U H λJ G=>u r J G Q:=by
 match Z,h with
 |v::r,h=>exact⟨v,r,Y,h⟩
def VJ:PGs X [] Wr:=by
 intro Z s U H J G Q I r h;replace h:=Wr.old h;obtain⟨e,h⟩:=h;subst e;cases r;exact assignInOrder_nil ⟨U,H,I,h⟩
def Yl(R:PG X e t)(O:PGs X J u)(N:(assignEach (e::J) X.env).map (·.2)=assign e X.env::(assignEach J X.env).map (·.2):=by rfl):PGs X (e::J) (JL t u):=by
 intro Z s U H E A Q I r h;replace h:=JL.old h;obtain⟨v,F,T,h⟩:=h;subst T
 cases r with
 |cons r L=>
  rw[N];refine assignInOrder_cons<|thn (R Z s U H _ _ _ I r h) λ_ G ⟨σ1,D,B,M⟩=>?_;exact O Z G σ1 D _ _ Q B L M
def MV(K:W.Frag)(n:Nat)(t:TGs):TG:=λv U H Q=>V9 v λa=>∃Z,SqT K H a Z/\Z.length=n/\t Z U H Q
def Vb(F:X.calm=true)(h:PGs X L t)(D:(assignEach L X.env).length=n:=by rfl)(G:(assignEach L X.env).findIdx? (·.1)=none:=by rfl):PG X (.Tuple L k pos) (MV X.K n t):=by
 intro Z s U H v u Q I r J;replace J:=V9.old J;obtain⟨a,S,N,B,E,J⟩:=J;subst S;cases r;obtain⟨O,M,T,P⟩:=I.tuple B;refine assign_Tuple_tuple (I.ok.hd F) T (by simp[D,<-E,M.length]) G λA R=>?_;have C:Inv X Z U H {s with heap:=A}:=I.kept (t':=s.toks) λb o e=>R b o (Ze<|ZP e) e;exact h Z _ U H N _ Q C (by simpa using M) J
def yx(to ti:TE)(t:zS):TG:=λv U H Q=>to U H λo G=>ti U G λi J=>t o i v J λZ=>Q U Z
def Bt(E:PE X o to)(F:PE X i ti)(D:zg X t)(A:∀v,assign (.Subscript o i pos) X.env v=(do
   let J <-holding [v] (eval o X.env)
   let G <-holding [v,J] (eval i X.env)
   standAt pos
   holding [v,J,G] (setItem J G v)
   release [v,J,G] []):=by intro _;rfl):PG X (.Subscript o i pos) (yx to ti t):=by
 intro Z s U H v u Q I r h;rw[A];refine Zl<|wpAny_holding<|thn (E Z s U H _ I h) λJ M ⟨x,q,P,O,B⟩=>?_;refine Zl<|wpAny_holding<|thn (F Z M U q _ P B) λG L ⟨y,z,C,N,T⟩=>?_;refine Zl<|vU<|Zl<|wpAny_holding<|thn (D Z L U z x y v J G u _ C O N r T) λ_ m ⟨j,S,R⟩=>?_;exact wpAny_release ⟨U,j,S,R⟩
def BF(te:TE)(g:TG):TS:=λD U H=>te U H λx Z=>g x U Z D.nx
def Ji(R:PE X e te)(O:PG X tg g)(N:swapsWithSole [tg] e pos.line X.env=pure false:=by rfl)(M:swappedStores [tg] e X.env=pure none:=by rfl)(T:(assignEach [tg] X.env).map (·.2)=[assign tg X.env]:=by rfl):PS X (.Assign [tg] e pos) (BF te g):=by
 intro Z s U H D I h;refine wpAny_Assign_stores (thn (R Z s U H _ I h) λv J ⟨x,E,B,G,L⟩=>?_) N M;rw[T];exact thn (O Z J U E x v _ B G L) λ_ F q=>q
def Yw(i:Nat)(R:X.N.Nodup)(O:PE X e te)(M:X.N[i]?=some x:=by exact Y)(hx:Loc X.env.scope x:=by exact Or.inl Y)(L:swapsWith e (some<|.Name x pos') pos.line X.env=pure false:=by rfl)(N:X.fn x=true\/X.env.scope.names.lookup x=some .local:=by first|exact .inl Y|exact .inr Y|assumption):
  PS X (.Assign [.Name x pos'] e pos) (BF te<|Vm i):=by
 intro Z s U H D I h;refine wpAny_Assign_Name (thn (O Z s U H _ I h) λv A ⟨y,E,B,J,G⟩=>?_) L;exact GO B R M hx J (λF T=>⟨_,E,T,G⟩) N
def yA(i:Nat)(te:TE)(ti:TIp):TS:=λD U H=>∃x,U[i]?=some (some x)/\te U H λy J=>ti x y J λz Z=>D.nx (U.set i<|some z) Z
def Iq(g:X.N.Nodup)(R:X.N[i]?=some x)(O:Loc X.env.scope x)(q:PE X e te)(S:PIp X op ti)(j:X.fn x=true\/X.env.scope.names.lookup x=some .local:=by first|exact .inl Y|exact .inr Y|assumption):
  PS X (.AugAssign (.Name x pos') op e pos) (yA i te ti):=by
 intro Z s U H D I h;obtain⟨v,p,h⟩:=h;obtain⟨m,C,Q⟩:=I.loc;have N:Vis X.env.scope x:=by rcases O with k|k;exact .inl k;exact .inr<|.inl k
 obtain⟨u,r,l⟩:=Q i x v R p N;refine wpAny_AugAssign_Name ?_
 have go:wpAny (model X.prog X.w) X.A (eval e X.env) (λw M=>wpAny (model X.prog X.w) X.A (inplaceOp op u w) (λr L=>wpAny (model X.prog X.w) X.A (storeName X.env x r) (λ_=>SP X Z D .next) X.xe L) X.xe M) X.xe s:=by
  refine thn (q Z s U H _ I h) λw T ⟨y,n,b,E,A⟩=>?_;refine thn (S Z T U n v y u w _ b r E A) λz s2 ⟨a,o,f,B,F⟩=>?_;exact GO f g R O B (λs3 d=>⟨_,o,d,F⟩) j
 rcases l with⟨J,P⟩|⟨J,c,t,G⟩
 .exact wpAny_loadName_local I.ok.kind J C P go
 .rcases J with J|J
  .exact wpAny_loadName_cell I.ok.kind J t G go
  .rcases O with k|k
   .have:X.env.scope.names.lookup x=some .free:=J
    rw[k]at this;cases this
   .have:X.env.scope.names.lookup x=some .free:=J
    rw[k]at this;cases this
end
section
def WB(c:TT)(tb:TS):TS:=λD U H=>∃W:pB,(∃m,W m U H)/\∀m U H,W m U H->
 c U H λb G=>if b=true then ∃N:pC,(∀J L,N J L->∃Z,Z<m/\W Z J L)/\tb {D with nx:=N,ct:=N,bk:=D.nx} U G else D.nx U G
def Uy(E:PassesOwn (model X.prog X.w) X.A X.env X.xe)(g:PT X c tc)(k:PSs X body tb):PS X (.While c body [] pos) (WB tc tb):=by
 intro Z s U H D I h;obtain⟨W,⟨m,y⟩,turn⟩:=h;refine wpAny_While<|codeAny_whileLoop (λn t=>∃A Q,Inv X Z A Q t/\W n A Q) ?_ m ⟨U,H,I,y⟩;rintro n q ⟨σ1,P,p,j⟩;refine jw E<|thn (g Z q σ1 P _ p<|turn n σ1 P j) λb z ⟨C,S,L⟩=>?_
 cases b with
 |true=>
  obtain⟨N,F,L⟩:=L;rw[Zp rfl];refine jw E<|thn (k Z z σ1 C _ S L) λf d G=>?_
  cases f with
  |next=>
   obtain⟨σ3,J,B,O⟩:=G;obtain⟨R,T,M⟩:=F σ3 J O;exact⟨R,T,σ3,J,B,M⟩
  |cont=>
   obtain⟨σ3,J,B,O⟩:=G;obtain⟨R,T,M⟩:=F σ3 J O;exact⟨R,T,σ3,J,B,M⟩
  |brk=>exact G
  |ret v=>exact G
 |false=>
  rw[Zq Zi];exact qT ⟨σ1,C,S,L⟩
end
structure It where
 go:Nat->Hp->Prop
 yld:Nat->Hp->V->Hp->Prop
 stop:Nat->Hp->Prop
def Jj(X:Cx)(pins:kU)(H:Hp)(b:Addr):Prop:=
 H b=none/\b≠X.env.locals/\b∉X.fs/\(b∈X.ex\/X.s₀.heap.objs.size<=b)/\(∀x c,X.env.cells.lookup x=some c->c≠b)/\∀p∈X.pn++ pins,p.1≠b
def Inv.fpOk(I:Inv X Z U H s)(J:s.heap.objs.size<=b)(L:M b=none):Jj X Z M b:=by
 refine⟨L,vM<|Zx I.lt J,I.nofs J,.inr<|Zb I.sz J,λx c e z=>?_,λp G z=>?_⟩
 .obtain ⟨v,q⟩:=I.cell x c e
  exact Zr (Zx q.lt (by rw[z];exact J))<|vy _
 .exact Zr (Zx (ZP (I.pin p G).1) (by rw[z];exact J)) (vy _)
structure Turn(P:Program)(w:World)(K:W.Frag)(tg:Expr)(J:It)(fp:List Addr)(it:Addr)(tn:Nat->Heap->Prop):Prop where
 mem:it∈fp
 obj:∀i h,tn i h->∀b∈fp,∃o,h.get? b=some o/\∀v,o.data≠.cell v
 keep:∀i h h',tn i h->(∀b∈fp,∀o,h.get? b=some o->h'.get? b=some o)->tn i h'
 item:∀(X:Cx),X.prog=P->X.w=w->X.K=K->X.calm=true->∀(i:Nat)(pins:List (Addr×Obj))(s:Shared)(U:St)(H:Hp)(E:Value->Shared->Prop),Inv X pins U H s->(∀b∈fp,Jj X pins H b)->tn i s.heap->J.go i H->
  wpAny (model P w) X.A (pyNext (.ref it)) (λr s1=>∃u,r=some u/\
   wpAny (model P w) X.A (letOwnedTupleGo tg (.ref it) u) (λ_ s2=>∃x H',Inv X pins U H' s2/\RelV x u/\J.yld i H x H'/\tn (i+1) s2.heap/\∀b∈fp,H' b=none) E s1) E s
 done:∀(X:Cx),X.prog=P->X.w=w->X.K=K->X.calm=true->∀(i:Nat)(pins:List (Addr×Obj))(s:Shared)(U:St)(H:Hp)(E:Value->Shared->Prop),Inv X pins U H s->(∀b∈fp,Jj X pins H b)->tn i s.heap->J.stop i H->
  wpAny (model P w) X.A (pyNext (.ref it)) (λr s1=>r=none/\Inv X pins U H s1) E s
 self:∀(A:Around)(i:Nat)(s:Shared)(Q:Value->Shared->Prop)(E:Value->Shared->Prop),tn i s.heap->Q (.ref it) s->wpAny (model P w) A (pyIter (.ref it)) Q E s
abbrev TI:=St->Hp->(It->Hp->Prop)->Prop
def PIE(X:Cx)(pins:kU)(U:St)(tg:Expr)(R:It->Hp->Prop)(itv:Value)(s2:Shared):Prop:=
 ∃(L:Addr)(M:pf)(G:Nat->Heap->Prop)(J:It)(Z:Hp),itv=.ref L/\Inv X pins U Z s2/\Turn X.prog X.w X.K tg J M L G/\G 0 s2.heap/\(∀b∈M,Jj X pins Z b)/\R J Z
def PI(X:Cx)(tg iter:Expr)(wi:TI):Prop:=
 ∀(Z:kU)(s:Shared)(U:St)(H:Hp)(R:It->Hp->Prop),Inv X Z U H s->wi U H R->
  wpAny (model X.prog X.w) X.A (eval iter X.env) (λv J=>wpAny (model X.prog X.w) X.A (pyIter v) (PIE X Z U tg R) X.xe J) X.xe s
def Eh(L:s.heap.get? G=some o)(R:o.cls=.type n)(O:o.data=.fields J)(N:["enumerate","zip","dict_itemiterator","dict_reverseitemiterator","odict_iterator","itertools.zip_longest","itertools.pairwise"].contains n=false)(Z:Q () s):wpAny M A (letOwnedTupleGo tg (.ref G) u) Q E s:=by
  unfold letOwnedTupleGo;cases tg <;> first
    |exact Zm Z
    | (cases u <;> first
        |exact Zm Z
        | (refine Zl<|wpAny_load L ?_
           rw[R,O];show wpAny M A (if(["enumerate","zip","dict_itemiterator","dict_reverseitemiterator","odict_iterator","itertools.zip_longest","itertools.pairwise"].contains n && J[0]?==some (rawInt _))=true then _ else _) Q E s;rw[Zq (by intro h;rw[N,Bool.false_and]at h;cases h)];exact Zm Z))
def Itl(K:W.Frag)(a:Addr):It:=
 ⟨λi H=>∃Z x,SqL K H a Z/\Z[i]?=some x,λi H x J=>J=H/\∀Z,SqL K H a Z->Z[i]?=some x,λi H=>∃Z,SqL K H a Z/\Z.length<=i⟩
def Itt(K:W.Frag)(a:Addr):It:=
 ⟨λi H=>∃Z x,SqT K H a Z/\Z[i]?=some x,λi H x J=>J=H/\∀Z,SqT K H a Z->Z[i]?=some x,λi H=>∃Z,SqT K H a Z/\Z.length<=i⟩
def Itr(lo:Int)(n:Nat):It:=⟨λi _=>i<n,λi H x Z=>Z=H/\x=.int (lo+i),λi _=>n<=i⟩
def E2{P:Program}{w:World}{K:W.Frag}{f:Expr}(a G:Addr):Turn P w K f (Itl K a) [G] G (λi h=>h.IsListIter G a i) where
 mem:=by simp
 obj:=λi h Z b L=>by
  have e:b=G:=by simpa using L
  subst e;obtain⟨o,e,c,d⟩:=Z;exact⟨o,e,λv z=>by rw[d]at z;cases z⟩
 keep:=λi h R Z k=>Z.at λo e=>k G (by simp) o e
 item:=by
  intro X S F C m i J s U H E I O Z A;subst S F C;obtain⟨g,x,N,D⟩:=A;obtain⟨B,T,p,n⟩:=I.list N;obtain⟨u,hu,l⟩:=T.get D;obtain⟨t,q,f2,y,j,Q⟩:=O G (by simp);refine wpAny_pyNext_list_item Z p.isList (x:=u) (by simpa using hu) λR M r=>?_;have I1:Inv X J U H {s with heap:=R}:=I.turned (t':=s.toks) (λb o L e=>(r.2 b L).trans e) t q y j Q;obtain⟨o,e,c,d⟩:=id M;exact⟨u,Y,Eh (s:={s with heap:=R}) e c d (by decide) ⟨x,H,I1,l,⟨Y,λys hy=>by rw[I.list_inj hy N];exact D⟩,M,λb L=>(O b L).1⟩⟩
 done:=by
  intro X S F C m i J s U H E I O Z A;subst S F C;obtain⟨g,N,D⟩:=A;obtain⟨B,T,p,n⟩:=I.list N;obtain⟨t,q,f2,y,j,Q⟩:=O G (by simp);have hl:=T.length;exact wpAny_pyNext_list_end (I.ok.hd m) Z p.isList (by simp;omega) λR eb=>⟨Y,I.turned (t':=s.toks) (λb o L e=>eb b o L e) t q y j Q⟩
 self:=λ_ _ _ _ _ Z h=>wpAny_pyIter_listiter Z h
def N6{P:Program}{w:World}{K:W.Frag}{f:Expr}(a L:Addr):Turn P w K f (Itt K a) [L] L (λi h=>h.IsTupleIter L a i) where
 mem:=by simp
 obj:=λi h Z b M=>by
  have e:b=L:=by simpa using M
  subst e;obtain⟨o,e,c,d⟩:=Z;exact⟨o,e,λv z=>by rw[d]at z;cases z⟩
 keep:=λi h T Z k=>Z.at λo e=>k L (by simp) o e
 item:=by
  intro X S F C m i J s U H E I R Z A;subst S F C;obtain⟨g,x,O,D⟩:=A;obtain⟨G,B,p,n⟩:=I.tuple O;obtain⟨u,hu,l⟩:=B.get D;obtain⟨t,q,f2,y,j,Q⟩:=R L (by simp);refine wpAny_pyNext_tuple_item Z (show s.heap.IsTuple a G.toArray from p) (x:=u) (by simpa using hu) λT N r=>?_;have I1:Inv X J U H {s with heap:=T}:=I.turned (t':=s.toks) (λb o M e=>(r.2 b M).trans e) t q y j Q;obtain⟨o,e,c,d⟩:=id N;exact⟨u,Y,Eh (s:={s with heap:=T}) e c d (by decide) ⟨x,H,I1,l,⟨Y,λys hy=>by rw[I.tuple_inj hy O];exact D⟩,N,λb M=>(R b M).1⟩⟩
 done:=by
  intro X S F C m i J s U H E I R Z A;subst S F C;obtain⟨g,O,D⟩:=A;obtain⟨G,B,p,n⟩:=I.tuple O;obtain⟨t,q,f2,y,j,Q⟩:=R L (by simp);have hl:=B.length;exact wpAny_pyNext_tuple_end (I.ok.hd m) Z (show s.heap.IsTuple a G.toArray from p) (by simp;omega) λT eb=>⟨Y,I.turned (t':=s.toks) (λb o M e=>eb b o M e) t q y j Q⟩
 self:=λ_ _ _ _ _ Z h=>wpAny_pyIter_tupleiter Z h
def N7{P:Program}{w:World}{K:PySem.W.Frag}{g:Expr}(G:Addr)(N:Int)(n:Nat):Turn P w K g (Itr N n) [G] G (λi h=>IsRangeIter h G (N+(i:Nat)*1) ((n:Int)-(i:Nat)) 1) where
 mem:=by simp
 obj:=λi h Z b L=>by
  have e:b=G:=by simpa using L
  subst e
  exact⟨_,Z,λv z=>by
   have m:Data.fields _=Data.cell v:=z;cases m⟩
 keep:=λi h R Z k=>k G (by simp) _ Z
 item:=by
  intro X F T A D i J s U H E I O Z B;subst F T A;obtain⟨y,j,d,Q,C,S⟩:=O G (by simp);have W:=Walks.range (prog:=X.prog) (w:=X.w) (I.ok.hd D) G N 1 n;refine W.item i s _ _ B Z λv R q c M p=>?_;obtain⟨t,rfl⟩:=c;have u:Inv X J U H {s with heap:=R,toks:=q}:=I.turned (λb o L e=>p b o (by simpa using L) e) y j Q C S;refine⟨_,Y,Eh (s:={s with heap:=R,toks:=q}) (n:="range_iterator") M Y Y (by decide) ⟨.int<|N+i,H,u,⟨t,?_⟩,⟨rfl,rfl⟩,M,λb L=>(O b L).1⟩⟩;rw[Int.mul_one]
 done:=by
  intro X F T A D i J s U H E I O Z B;subst F T A;obtain⟨y,j,d,Q,C,S⟩:=O G (by simp);exact wpAny_pyNext_range_end (I.ok.hd D) Z (by have:n<=i:=B;omega) λR f=>⟨Y,I.turned (t':=s.toks) (λb o L e=>f b o L e) y j Q C S⟩
 self:=λ_ _ _ _ _ Z h=>wpAny_pyIter_rangeiter Z h
end L2
namespace L2
open PySem PySem.Spec PyProof.Rows
section
def QV(K:W.Frag)(tl:TE):TI:=λU H R=>tl U H λx Z=>V9 x λa=>(∃J,SqL K Z a J)/\R (Itl K a) Z
def yj(K:W.Frag)(tl:TE):TI:=λU H R=>tl U H λx Z=>V9 x λa=>(∃J,SqT K Z a J)/\R (Itt K a) Z
def JM(T:PE X l tl):PI X tg l (QV X.K tl):=by
 intro Z s U H R I h;refine thn (T Z s U H _ I h) λv J ⟨x,D,G,M,L⟩=>?_;replace L:=V9.old L;obtain⟨a,e,⟨E,O⟩,q⟩:=L;subst e;cases M;obtain⟨N,F,p,A⟩:=G.list O;refine qA p.isList ?_;refine⟨J.heap.objs.size,[J.heap.objs.size],_,_,D,Y,G.kept (t':=J.toks) λb o e=>ZE _ e,E2 a _,⟨_,ZY _ Y,Y,Y⟩,λb B=>?_,q⟩;have e:b=J.heap.objs.size:=by simpa using B
 subst e;exact G.fpOk (ZG _)<|G.hok.fresh<|ZG _
def Ub(T:PE X l tl):PI X tg l (yj X.K tl):=by
 intro J s U H R I h;refine thn (T J s U H _ I h) λv Z ⟨x,D,G,N,L⟩=>?_;replace L:=V9.old L;obtain⟨a,e,⟨E,O⟩,q⟩:=L;subst e;cases N;obtain⟨M,F,p,A⟩:=G.tuple O;refine wpAny_pyIter_tuple (show Z.heap.IsTuple a M.toArray from p) ?_;refine⟨Z.heap.objs.size,[Z.heap.objs.size],_,_,D,Y,G.kept (t':=Z.toks) λb o e=>ZE _ e,N6 a _,⟨_,ZY _ Y,Y,Y⟩,λb B=>?_,q⟩;have e:b=Z.heap.objs.size:=by simpa using B
 subst e;exact G.fpOk (ZG _)<|G.hok.fresh<|ZG _
def M9{Z J:Int}(I:Inv X G U H s)(B: -(2 ^ 62)<=Z)(T:Z<2 ^ 62)(O: -(2 ^ 62)<=J)(N:J<2 ^ 62)(q:R (Itr Z (J-Z).toNat) H):wpAny (model X.prog X.w) X.A (pyIter<|.ref s.heap.objs.size) (PIE X G U tg R) E {s with heap:=s.heap.push {cls:=.type "range",data:=.fields #[.int Z t,.int J u,.int 1 v]},toks:=tk}:=by
 refine wpAny_pyIter_range (IsRange.new ..) (small_one B T O N) ?_;have L:Inv X G U H {s with heap:=s.heap.push {cls:=.type "range",data:=.fields #[.int Z t,.int J u,.int 1 v]},toks:=tk}:=I.kept λb o e=>ZE _ e;refine⟨(s.heap.push {cls:=.type "range",data:=.fields #[.int Z t,.int J u,.int 1 v]}).objs.size,[(s.heap.push {cls:=.type "range",data:=.fields #[.int Z t,.int J u,.int 1 v]}).objs.size],_,_,H,Y,
  L.kept (t':=tk) λb o e=>ZE _ e,N7 _ Z (J-Z).toNat,?_,λb M=>?_,q⟩
 .have e1:Z+((0:Nat):Int)*1=Z:=by simp
  have D:(((J-Z).toNat:Nat):Int)-((0:Nat):Int)=Builtin.Range.rangeSize Z J 1:=by rw[rangeSize_one];split <;> omega
  show IsRangeIter _ _ (Z+((0:Nat):Int)*1) ((((J-Z).toNat:Nat):Int)-((0:Nat):Int)) 1;rw[e1,D];exact ZY _ Y
 .have e:b=(s.heap.push {cls:=.type "range",data:=.fields #[.int Z t,.int J u,.int 1 v]}).objs.size:=by simpa using M
  subst e;exact L.fpOk (ZG _)<|L.hok.fresh<|ZG _
def zG(ta:TA):TI:=λU H R=>ta U H λZ J=>∃j:Int,Z=[.int j]/\ -(2 ^ 62)<=j/\j<2 ^ 62/\R (Itr 0 j.toNat) J
def zF(ta:TA):TI:=λU H R=>ta U H λZ J=>∃i j:Int,Z=[.int i,.int j]/\(-(2 ^ 62)<=i/\i<2 ^ 62/\ -(2 ^ 62)<=j/\j<2 ^ 62)/\R (Itr i (j-i).toNat) J
def UN(T:Gl X "range")(O:X.mg "range"=none)(B:PA X [a] ta)(N:starEach [a] X.env=[(false,eval a X.env)]:=by rfl):PI X tg (.Call (.Name "range" p) [a] [] pos) (zG ta):=by
 intro Z s U H R I h;refine Call_<|J6 I T O boot_range<|vq (thn (B pos Z s U H _ I h) λF A ⟨E,S,D,L,J⟩=>?_) N rfl;obtain⟨j,e,J,M,q⟩:=J;subst e
 cases L with
 |cons r G=>
  cases G;obtain⟨t,rfl⟩:=r;exact call_range_1<|M9 D (by omega) (by omega) J M<|by simpa using q
def FF(F:Gl X "range")(E:X.mg "range"=none)(A:PA X [a,b] ta)(D:starEach [a,b] X.env=[(false,eval a X.env),(false,eval b X.env)]:=by rfl)(J:starEach [b] X.env=[(false,eval b X.env)]:=by rfl):
  PI X tg (.Call (.Name "range" p) [a,b] [] pos) (zF ta):=by
 intro Z s U H R I h;refine Call_ (J6 I F E boot_range<|vq (thn (A pos Z s U H _ I h) λP y ⟨C,z,S,M,L⟩=>?_) (by rw[D,J]) (by rw[J];rfl));obtain⟨i,j,e,⟨L,B,T,O⟩,q⟩:=L;subst e
 cases M with
 |cons r G=>
  cases G with
  |cons N G=>
   cases G;obtain⟨t,rfl⟩:=r;obtain⟨Q,rfl⟩:=N;exact call_range_2<|M9 S L B T O q
def UX(wi:TI)(g:TG)(tb:TS):TS:=λD U H=>wi U H λJ O=>∃W:Nat->Nat->St->Hp->Prop,(∃m,W 0 m U O)/\∀i m U H,W i m U H->
 (J.stop i H/\D.nx U H)\/(J.go i H/\∃N:pC,(∀L Z,N L Z->∃G,G<m/\W (i+1) G L Z)/\∀x Z,J.yld i H x Z->g x U Z fun σ2 M=>tb {D with nx:=N,ct:=N,bk:=D.nx} σ2 M)
def Va(fp:pf)(h:Heap):kU:=fp.filterMap λb=>(h.get? b).map λo=>(b,o)
def V1(Z:b∈fp)(e:h.get? b=some o):(b,o)∈Va fp h:=List.mem_filterMap.mpr ⟨b,Z,by rw[e];rfl⟩
def WU(Z:p∈Va fp h):p.1∈fp/\h.get? p.1=some p.2:=by
 obtain⟨b,J,e⟩:=List.mem_filterMap.mp Z
 cases q:h.get? b with
 |none=>rw[q]at e;cases e
 |some o=>
  rw[q]at e;have G:(b,o)=p:=ZT e;subst G;exact⟨J,q⟩
def Inv.pinned(I:Inv X Z U H s)(N:∀b∈fp,Jj X Z H b)(M:∀b∈fp,∃o,s.heap.get? b=some o/\∀v,o.data≠.cell v):Inv X (Z++ Va fp s.heap) U H s:=
 I.pins_of λp L=>(ZX.mp L).elim (λz=>I.pin p<|ZU _ z) λz=>by
  obtain⟨J,e⟩:=WU z;obtain⟨T,R,O,_⟩:=N p.1 J;obtain⟨o,G,d⟩:=M p.1 J;rw[e]at G;cases G;exact⟨e,T,R,O,d⟩
def Inv.unpinned(I:Inv X (Z++ pl) U H s):Inv X Z U H s:=I.pins_of λp J=>I.pin p<|ZU _<|jW _ J
def V5(S:PassesOwn (model X.prog X.w) X.A X.env X.xe)(a:X.calm=true)(hi:PI X tg iter wi)(hg:PG X tg g)(L:PSs X body tb)(hs:∀x,foldedSetIterable iter X.env x=pure x:=by intro _;rfl):PS X (.For tg iter body [] pos) (UX wi g tb):=by
 intro Z s U H D I h;refine wpAny_For (thn (hi Z s U H _ I h) λv s1 h1=>thn h1 λJ2 s2 h2=>?_) hs;obtain⟨it,P,p,J,H2,e,I2,T,y,f2,W,⟨m0,w0⟩,turn⟩:=h2;subst e;have G:∀{R:Hp},(∀b∈P,R b=none)->∀b∈P,Jj X Z R b:=λhn b L=>⟨hn b L,(f2 b L).2⟩;refine codeAny_forLoop_any (λn l=>∃i Q R,Inv X Z Q R l/\p i l.heap/\(∀b∈P,R b=none)/\W i n Q R) ?_ m0 ⟨0,U,H2,I2,y,λb L=>(f2 b L).1,w0⟩;rintro n w ⟨i,σ3,j,I3,F,C,w3⟩;rcases turn i n σ3 j w3 with⟨stop,qn⟩|⟨go,N,hN,step⟩
 .refine jw S (thn (T.done X rfl rfl rfl a i Z w σ3 j X.xe I3 (G C) F stop) λr s4 ⟨q,I4⟩=>?_)
  subst q;exact qT ⟨σ3,j,I4,qn⟩
 .refine jw S (thn (T.item X rfl rfl rfl a i Z w σ3 j X.xe I3 (G C) F go) λr s4 ⟨u,q,h4⟩=>?_)
  subst q;refine jw S<|thn h4 λ_ c ⟨x,H5,I5,r5,y5,E,t⟩=>?_;have k:=I5.pinned (G t)<|T.obj _ _ E;refine jw S<|thn (hg _ c σ3 H5 x u _ k r5<|step x H5 y5) λ_ s6 ⟨σ6,H6,I6,q6⟩=>?_;refine jw S<|thn (L _ s6 σ6 H6 _ I6 q6) λf z B=>?_
  have again:∀{σ7:St}{O:Hp},Inv X (Z++ Va P c.heap) σ7 O z->N σ7 O->∃m,m<n/\∃i Q R,Inv X Z Q R z/\p i z.heap/\(∀b∈P,R b=none)/\W i m Q R:=λ{σ7 O} M A=>by
   obtain⟨m',hm,w7⟩:=hN σ7 O A;refine⟨m',hm,i+1,σ7,O,M.unpinned,T.keep _ _ _ E λb L o e=>(M.pin (b,o)<|ZU _<|ZU _<|V1 L e).1,λb L=>?_,w7⟩;obtain⟨o,e,d⟩:=T.obj _ _ E b L;exact(M.pin (b,o)<|ZU _<|ZU _<|V1 L e).2.1
  cases f with
  |next=>obtain⟨σ7,O,M,A⟩:=B;exact again M A
  |cont=>obtain⟨σ7,O,M,A⟩:=B;exact again M A
  |brk=>obtain⟨σ7,O,M,B⟩:=B;exact⟨σ7,O,M.unpinned,B⟩
  |ret v=>obtain⟨x7,σ7,O,M,r7,B⟩:=B;exact⟨x7,σ7,O,M.unpinned,r7,B⟩
end
def TD{K:PySem.W.Frag}{g:TG}{M:TS}{D:Ends}(Z:pB)(I:Z 0 U H)(E:∀i U H,i<=xs.length->Z i U H->SqL K H a xs)(B:∀i x U H,xs[i]?=some x->Z i U H->g x U H fun σ2 L=>M {D with nx:=Z<|i+1,ct:=Z<|i+1,bk:=D.nx} σ2 L)(A:∀U H,Z xs.length U H->D.nx U H):
  ∃W:Nat->Nat->St->Hp->Prop,(∃m,W 0 m U H)/\∀i m U H,W i m U H->
   ((Itl K a).stop i H/\D.nx U H)\/((Itl K a).go i H/\∃N:pC,(∀G J,N G J->∃O,O<m/\W (i+1) O G J)/\∀x J,(Itl K a).yld i H x J->g x U J fun σ2 L=>M {D with nx:=N,ct:=N,bk:=D.nx} σ2 L):=by
 refine⟨λi m U H=>m=xs.length-i/\i<=xs.length/\Z i U H,⟨xs.length,by simp,Zc _,I⟩,?_⟩;rintro i m U H ⟨rfl,F,p⟩;have q:=E i U H F p
 by_cases hlt:i<xs.length
 .refine .inr ⟨⟨xs,xs[i],q,by simp[hlt]⟩,Z<|i+1,λG J R=>⟨xs.length-(i+1),by omega,rfl,hlt,R⟩,λx J y=>?_⟩
  obtain⟨e,y⟩:=y;subst e;exact B i x U _ (y xs q) p
 .have e:i=xs.length:=by omega
  subst e;exact .inl ⟨⟨xs,q,ZG _⟩,A U H p⟩
def Pg{K:PySem.W.Frag}{g:TG}{O:TS}{D:Ends}(J:pB)(S:J 0 U H)(F:∀i U H,i<=Z.length->J i U H->SqT K H a Z)(E:∀i x U H,Z[i]?=some x->J i U H->g x U H fun σ2 M=>O {D with nx:=J<|i+1,ct:=J<|i+1,bk:=D.nx} σ2 M)(I:∀U H,J Z.length U H->D.nx U H):
  ∃W:Nat->Nat->St->Hp->Prop,(∃m,W 0 m U H)/\∀i m U H,W i m U H->
   ((Itt K a).stop i H/\D.nx U H)\/((Itt K a).go i H/\∃N:pC,(∀L G,N L G->∃R,R<m/\W (i+1) R L G)/\∀x G,(Itt K a).yld i H x G->g x U G fun σ2 M=>O {D with nx:=N,ct:=N,bk:=D.nx} σ2 M):=by
 refine⟨λi m U H=>m=Z.length-i/\i<=Z.length/\J i U H,⟨Z.length,by simp,Zc _,S⟩,?_⟩;rintro i m U H ⟨rfl,A,p⟩;have q:=F i U H A p
 by_cases hlt:i<Z.length
 .refine .inr ⟨⟨Z,Z[i],q,by simp[hlt]⟩,J<|i+1,λL G T=>⟨Z.length-(i+1),by omega,rfl,hlt,T⟩,λx G y=>?_⟩
  obtain⟨e,y⟩:=y;subst e;exact E i x U _ (y Z q) p
 .have e:i=Z.length:=by omega
  subst e;exact .inl ⟨⟨Z,q,ZG _⟩,I U H p⟩
def FX{G:Int}{g:TG}{O:TS}{D:Ends}(Z:pB)(A:Z 0 U H)(E:∀i U H,i<n->Z i U H->g (.int<|G+i) U H fun σ2 M=>O {D with nx:=Z<|i+1,ct:=Z<|i+1,bk:=D.nx} σ2 M)(F:∀U H,Z n U H->D.nx U H):
  ∃W:Nat->Nat->St->Hp->Prop,(∃m,W 0 m U H)/\∀i m U H,W i m U H->
   ((Itr G n).stop i H/\D.nx U H)\/((Itr G n).go i H/\∃N:pC,(∀L J,N L J->∃R,R<m/\W (i+1) R L J)/\∀x J,(Itr G n).yld i H x J->g x U J fun σ2 M=>O {D with nx:=N,ct:=N,bk:=D.nx} σ2 M):=by
 refine⟨λi m U H=>m=n-i/\i<=n/\Z i U H,⟨n,by simp,Zc _,A⟩,?_⟩;rintro i m U H ⟨rfl,I,p⟩
 by_cases hlt:i<n
 .refine .inr ⟨hlt,Z<|i+1,λL J T=>⟨n-(i+1),by omega,rfl,hlt,T⟩,λx J y=>?_⟩
  obtain⟨e,y⟩:=y;subst e y;exact E i U _ hlt p
 .have e:i=n:=by omega
  subst e;exact .inl ⟨ZG _,F U H p⟩
abbrev R2:=V->V->Hp->VK->Prop
def OpR(X:Cx)(f:Value->Value->Sem Value)(r:R2):Prop:=
 ∀(Z:kU)(s:Shared)(U:St)(H:Hp)(x y:V)(v u:Value)(Q:VK),Inv X Z U H s->RelV x v->RelV y u->r x y H Q->
  wpAny (model X.prog X.w) X.A (f v u) (EP X Z U Q) X.xe s
def UnR(X:Cx)(f:Value->Sem Value)(r:V->Hp->VK->Prop):Prop:=
 ∀(Z:kU)(s:Shared)(U:St)(H:Hp)(x:V)(v:Value)(Q:VK),Inv X Z U H s->RelV x v->r x H Q->
  wpAny (model X.prog X.w) X.A (f v) (EP X Z U Q) X.xe s
def UA(X:Cx)(f:Value)(r:List V->Hp->VK->Prop):Prop:=
 ∀(Z:kU)(s:Shared)(U:St)(H:Hp)(J:px)(G:kX)(Q:VK),Inv X Z U H s->Vals J G->r J H Q->
  wpAny (model X.prog X.w) X.A (call f G) (EP X Z U Q) X.xe s
def tOp(r:R2)(ta tb:TE):TE:=λU H Q=>ta U H λx J=>tb U J λy Z=>r x y Z Q
def tUn(r:V->Hp->VK->Prop)(ta:TE):TE:=λU H Q=>ta U H λx Z=>r x Z Q
def rI(C:Int->Int->Prop)(g:Int->Int->V):R2:=λx y H Q=>U3 x λi=>U3 y λj=>C i j/\Q (g i j) H
def rI.old(h:rI C g x y H Q):∃i j,x=.int i/\y=.int j/\C i j/\Q (g i j) H:=by
 replace h:=U3.old h;obtain⟨i,e,h⟩:=h;replace h:=U3.old h;obtain⟨j,Z,h⟩:=h;exact⟨i,j,e,Z,h⟩
def rI0(g:Int->Int->V):R2:=λx y H Q=>U3 x λi=>U3 y λj=>Q (g i j) H
def rI0.old(h:rI0 g x y H Q):∃i j,x=.int i/\y=.int j/\Q (g i j) H:=by
 replace h:=U3.old h;obtain⟨i,e,h⟩:=h;replace h:=U3.old h;obtain⟨j,Z,h⟩:=h;exact⟨i,j,e,Z,h⟩
def rU(g:Int->V):V->Hp->VK->Prop:=λx H Q=>∃i,x=.int i/\Q (g i) H
section
def Ai(S:PE X a ta)(A:PE X b tb){R:V->V->Hp->Prop}(I:Inv X Z U H s)(h:ta U H λx N=>tb U N λy J=>R x y J){f:Value->Value->Sem Value}(F:∀v u M x y J,Inv X Z U J M->RelV x v->RelV y u->R x y J->wpAny (model X.prog X.w) X.A (f v u) Q X.xe M):
  wpAny (model X.prog X.w) X.A (eval a X.env) (λv L=>wpAny (model X.prog X.w) X.A (eval b X.env) (λu G=>wpAny (model X.prog X.w) X.A (f v u) Q X.xe G) X.xe L) X.xe s:=by
 refine thn (S Z s U H _ I h) λv O ⟨x,N,P,B,E⟩=>?_;refine thn (A Z O U N _ P E) λu M ⟨y,J,C,T,D⟩=>?_;exact F v u M x y J C B T D
def VE(M:OpR X (binaryOp op) r)(O:PE X a ta)(N:PE X b tb):PE X (.BinOp a op b pos) (tOp r ta tb):=by
 intro Z s U H Q I h;exact wpAny_BinOp<|Ai O N I h λv u J x y T R L G q=>M Z J U T x y v u Q R L G q
def Tu(M:UnR X (unaryOp op) r)(N:PE X a ta):PE X (.UnaryOp op a pos) (tUn r ta):=by
 intro Z s U H Q I h;exact UnaryOp_<|thn (N Z s U H _ I h) λv J ⟨x,R,O,G,L⟩=>M Z J U R x v Q O G L
def opI{g:Int->Int->Int}(rule:∀(i j:Int)(t u:Tok)(s:Shared)(Q:kW)(E:kW),C i j->Q (.int (g i j) s.toks) {s with toks:=s.toks+1}->wpAny (model X.prog X.w) X.A (f (.int i t)<|.int j u) Q E s):
  OpR X f (rI C λi j=>.int<|g i j):=by
 intro Z s U H x y v u Q I L G h;replace h:=rI.old h;obtain⟨i,j,rfl,rfl,M,q⟩:=h;obtain⟨t,rfl⟩:=L;obtain⟨J,rfl⟩:=G;exact rule i j t J s _ _ M ⟨.int<|g i j,H,I.tok _,⟨_,rfl⟩,q⟩
def Sv{g:Int->Int->Int}(rule:∀(i j:Int)(t u:Tok)(s:Shared)(Q:kW)(E:kW),Q (.int (g i j) s.toks) {s with toks:=s.toks+1}->wpAny (model X.prog X.w) X.A (f (.int i t)<|.int j u) Q E s):
  OpR X f (rI0 λi j=>.int<|g i j):=by
 intro Z s U H x y v u Q I L G h;replace h:=rI0.old h;obtain⟨i,j,rfl,rfl,q⟩:=h;obtain⟨t,rfl⟩:=L;obtain⟨J,rfl⟩:=G;exact rule i j t J s _ _ ⟨.int<|g i j,H,I.tok _,⟨_,rfl⟩,q⟩
def Ox{g:Int->Int->Bool}(rule:∀(i j:Int)(t u:Tok)(s:Shared)(Q:kW)(E:kW),Q (.bool<|g i j) s->wpAny (model X.prog X.w) X.A (f (.int i t)<|.int j u) Q E s):
  OpR X f (rI0 λi j=>.bl<|g i j):=by
 intro Z s U H x y v u Q I L G h;replace h:=rI0.old h;obtain⟨i,j,rfl,rfl,q⟩:=h;obtain⟨t,rfl⟩:=L;obtain⟨J,rfl⟩:=G;exact rule i j t J s _ _ ⟨.bl<|g i j,H,I,rfl,q⟩
def vI(i j:Int):Prop:=0<j/\j<1073741824
def zi(i j:Int):Prop:=0<=j/\j<=1000000/\i.natAbs<2 ^ 64
def P8(i j:Int):Prop:=(-(2 ^ 64)<i/\i<2 ^ 64)\/(-(2 ^ 64)<j/\j<2 ^ 64)
def P8.ok(h:P8 i j):IntMulOk i j:=by
 rcases h with⟨J,Z⟩|⟨J,Z⟩
 .exact .of_left (intBits_le_64 J Z)
 .exact .of_right (intBits_le_64 J Z)
def JT:OpR X (binaryOp .Add) (rI0 λi j=>.int<|i+j):=Sv λ_ _ _ _ _ _ _ q=>add_int q
def Sr:OpR X (binaryOp .Sub) (rI0 λi j=>.int<|i-j):=Sv λ_ _ _ _ _ _ _ q=>sub_int q
def Xb:OpR X (binaryOp .Mult) (rI P8 λi j=>.int<|i*j):=opI λ_ _ _ _ _ _ _ Z q=>mul_int q Z.ok
def ES:OpR X (binaryOp .FloorDiv) (rI vI λi j=>.int<|i / j):=opI λi j _ _ _ _ _ Z q=>by
 have G:(0:Int)<j:=Z.1;have J:j<1073741824:=Z.2;exact floordiv_int (by omega) (by rw[Int.fdiv_eq_ediv_of_nonneg i (by omega)];exact q)<|.inl<|PyProof.noPylong_small<|by omega
def Jq:OpR X (binaryOp .Mod) (rI (λ_ j=>0<j) λi j=>.int<|i % j):=opI λi j _ _ _ _ _ Z q=>by
 have J:(0:Int)<j:=Z;exact mod_int' (by omega) (by rw[Int.fmod_eq_emod_of_nonneg i (by omega)];exact q)
def KM:OpR X (binaryOp .Pow) (rI zi λi j=>.int<|i ^ j.toNat):=opI λ_ _ _ _ _ _ _ Z q=>pow_int_small Z.1 Z.2.1 Z.2.2 q
def PV:OpR X (inplaceOp .Add) (rI0 λi j=>.int<|i+j):=Sv λ_ _ _ _ _ _ _ q=>iadd_int q
def PU:OpR X (inplaceOp .Mult) (rI P8 λi j=>.int<|i*j):=opI λ_ _ _ _ _ _ _ Z q=>imul_int q Z.ok
def unI{g:Int->Int}(rule:∀(i:Int)(t:Tok)(s:Shared)(Q:kW)(E:kW),Q (.int (g i) s.toks) {s with toks:=s.toks+1}->wpAny (model X.prog X.w) X.A (f<|.int i t) Q E s):
  UnR X f (rU λi=>.int<|g i):=by
 intro Z s U H x v Q I J h;obtain⟨i,rfl,q⟩:=h;obtain⟨t,rfl⟩:=J;exact rule i t s _ _ ⟨.int<|g i,H,I.tok _,⟨_,rfl⟩,q⟩
def X8:UnR X (unaryOp .USub) (rU λi=>.int<|-i):=unI λ_ _ _ _ _ q=>neg_int q
end
def A8:V->V->Bool
 |.non,.non=>true|.non,.int _=>true|.int _,.non=>true|.non,.bl _=>true|.bl _,.non=>true|.non,.str _=>true|.str _,.non=>true
 |.int _,.int _=>true|.bl _,.bl _=>true|.str _,.str _=>true|.byt _,.byt _=>true
 |.int _,.str _=>true|.str _,.int _=>true|.bl _,.str _=>true|.str _,.bl _=>true
 |_,_=>false
def rEq:R2:=λx y H Q=>A8 x y=true/\Q (.bl<|decide<|x=y) H
def rNe:R2:=λx y H Q=>A8 x y=true/\Q (.bl<|!decide (x=y)) H
def Em:decide (V.int i=V.int j)=(i==j):=by
 rw[jq];simp
def Lf:decide (V.bl i=V.bl j)=(i==j):=by
 rw[jq];simp
def El:decide (V.str i=V.str j)=(i==j):=by
 rw[jq];simp
def En:decide (V.byt i=V.byt j)=(i.toList==j.toList):=by
 rw[jq];cases i;cases j;simp
section
variable{a b c:Expr}{ta tb tc:TE}
def VL(I:Inv X Z U H s)(q:Q (.bl k) H)(e:k=k'):EP X Z U Q (.bool k') s:=by
 subst e;exact⟨.bl k,H,I,Y,q⟩
def Vl:OpR X (compareOp .Eq) rEq:=by
 intro M s U H x y v u Q I L Z h;obtain⟨G,q⟩:=h
 cases x with
 |non=>
  cases L
  cases y with
  |non=>cases Z;exact PySem.EqNone.eq_none_none<|VL I q<|by simp
  |bl j=>cases Z;exact PySem.EqNone.eq_none_bool<|VL I q<|by simp
  |int j=>obtain⟨J,rfl⟩:=Z;exact PySem.EqNone.eq_none_int<|VL I q<|by simp
  |str j=>obtain⟨J,rfl⟩:=Z;exact PySem.EqNone.eq_none_str<|VL I q<|by simp
  |_=>exact Zr (show false=true from G) Zi
 |bl i=>
  cases L
  cases y with
  |non=>cases Z;exact PySem.EqNone.eq_bool_none<|VL I q<|by simp
  |bl j=>cases Z;exact eq_bool<|VL I q Lf
  |str j=>obtain⟨J,rfl⟩:=Z;exact PySem.EqMixed.eq_bool_str<|VL I q<|by simp
  |_=>exact Zr (show false=true from G) Zi
 |int i=>
  obtain⟨t,rfl⟩:=L
  cases y with
  |non=>cases Z;exact PySem.EqNone.eq_int_none<|VL I q<|by simp
  |int j=>obtain⟨J,rfl⟩:=Z;exact eq_int<|VL I q Em
  |str j=>obtain⟨J,rfl⟩:=Z;exact PySem.EqMixed.eq_int_str<|VL I q<|by simp
  |_=>exact Zr (show false=true from G) Zi
 |str i=>
  obtain⟨t,rfl⟩:=L
  cases y with
  |non=>cases Z;exact PySem.EqNone.eq_str_none<|VL I q<|by simp
  |bl j=>cases Z;exact PySem.EqMixed.eq_str_bool<|VL I q<|by simp
  |int j=>obtain⟨J,rfl⟩:=Z;exact PySem.EqMixed.eq_str_int<|VL I q<|by simp
  |str j=>obtain⟨J,rfl⟩:=Z;exact eq_str<|VL I q El
  |_=>exact Zr (show false=true from G) Zi
 |byt i=>
  obtain⟨t,rfl⟩:=L
  cases y with
  |byt j=>obtain⟨J,rfl⟩:=Z;exact W.eq_bytes<|VL I q En
  |_=>exact Zr (show false=true from G) Zi
 |_=>cases y <;> exact Zr (show false=true from G) Zi
def UO:OpR X (compareOp .NotEq) rNe:=by
 intro M s U H x y v u Q I L Z h;obtain⟨G,q⟩:=h
 cases x with
 |non=>
  cases L
  cases y with
  |non=>cases Z;exact PySem.EqNone.ne_none_none<|VL I q<|by simp
  |bl j=>cases Z;exact PySem.EqNone.ne_none_bool<|VL I q<|by simp
  |int j=>obtain⟨J,rfl⟩:=Z;exact PySem.EqNone.ne_none_int<|VL I q<|by simp
  |str j=>obtain⟨J,rfl⟩:=Z;exact PySem.EqNone.ne_none_str<|VL I q<|by simp
  |_=>exact Zr (show false=true from G) Zi
 |bl i=>
  cases L
  cases y with
  |non=>cases Z;exact PySem.EqNone.ne_bool_none<|VL I q<|by simp
  |bl j=>cases Z;exact ne_bool<|VL I q<|congrArg not Lf
  |str j=>obtain⟨J,rfl⟩:=Z;exact PySem.EqMixed.ne_bool_str<|VL I q<|by simp
  |_=>exact Zr (show false=true from G) Zi
 |int i=>
  obtain⟨t,rfl⟩:=L
  cases y with
  |non=>cases Z;exact PySem.EqNone.ne_int_none<|VL I q<|by simp
  |int j=>obtain⟨J,rfl⟩:=Z;exact ne_int<|VL I q<|congrArg not Em
  |str j=>obtain⟨J,rfl⟩:=Z;exact PySem.EqMixed.ne_int_str<|VL I q<|by simp
  |_=>exact Zr (show false=true from G) Zi
 |str i=>
  obtain⟨t,rfl⟩:=L
  cases y with
  |non=>cases Z;exact PySem.EqNone.ne_str_none<|VL I q<|by simp
  |bl j=>cases Z;exact PySem.EqMixed.ne_str_bool<|VL I q<|by simp
  |int j=>obtain⟨J,rfl⟩:=Z;exact PySem.EqMixed.ne_str_int<|VL I q<|by simp
  |str j=>obtain⟨J,rfl⟩:=Z;exact ne_str<|VL I q<|congrArg not El
  |_=>exact Zr (show false=true from G) Zi
 |byt i=>
  obtain⟨t,rfl⟩:=L
  cases y with
  |byt j=>obtain⟨J,rfl⟩:=Z;exact W.ne_bytes<|VL I q<|congrArg not En
  |_=>exact Zr (show false=true from G) Zi
 |_=>cases y <;> exact Zr (show false=true from G) Zi
def QM:OpR X (compareOp .Lt) (rI0 λi j=>.bl<|decide<|i<j):=Ox λ_ _ _ _ _ _ _ q=>lt_int q
def Xp:OpR X (compareOp .LtE) (rI0 λi j=>.bl<|decide<|i<=j):=Ox λ_ _ _ _ _ _ _ q=>le_int q
def Gs:OpR X (compareOp .Gt) (rI0 λi j=>.bl<|decide<|j<i):=Ox λ_ _ _ _ _ _ _ q=>gt_int q
def KN:OpR X (compareOp .GtE) (rI0 λi j=>.bl<|decide<|j<=i):=Ox λ_ _ _ _ _ _ _ q=>ge_int q
def FH:OpR X (compareOp .In) (λx y H Q=>∃i j,x=.str i/\y=.str j/\Q (.bl<|!(Builtin.Str.occurrences j i 0 j.length 1).isEmpty) H):=by
 intro Z s U H x y v u Q I G J h;obtain⟨i,j,rfl,rfl,q⟩:=h;obtain⟨t,rfl⟩:=G;obtain⟨L,rfl⟩:=J;exact in_str<|VL I q rfl
def Gr:OpR X (compareOp .Is) (λx y H Q=>y=.non/\Q (.bl<|decide<|x=.non) H):=by
 intro J s U H x y v u Q I Z G h;obtain⟨rfl,q⟩:=h;cases G;refine is_none_gen<|VL I q ?_;cases x <;> first
  |(cases Z;rfl)
  |(obtain⟨t,rfl⟩:=Z;rfl)
def Ov:OpR X (compareOp .IsNot) (λx y H Q=>y=.non/\Q (.bl<|!decide (x=.non)) H):=by
 intro J s U H x y v u Q I Z G h;obtain⟨rfl,q⟩:=h;cases G;refine isnot_none_gen<|VL I q ?_;cases x <;> first
  |(cases Z;rfl)
  |(obtain⟨t,rfl⟩:=Z;rfl)
def OpR.or(h:OpR X f r)(L:OpR X f r'):OpR X f (λx y H Q=>r x y H Q\/r' x y H Q):=by
 intro Z s U H x y v u Q I G J q;rcases q with q|q
 .exact h Z s U H x y v u Q I G J q
 .exact L Z s U H x y v u Q I G J q
def Yz(b:Expr)(h:op≠.In:=by decide)(Z:op≠.NotIn:=by decide):behindInMarks op b=false:=by
 have G:(op==CmpOp.In)=false:=by cases op <;> first|rfl|exact Zr Y h
 have J:(op==CmpOp.NotIn)=false:=by cases op <;> first|rfl|exact Zr Y Z
 cases b <;> simp[behindInMarks,G,J]
def JE(M:OpR X (compareOp op) r)(R:PE X a ta)(O:PE X b tb)(N:behindInMarks op b=false):PE X (.Compare a [op] [b] pos) (tOp r ta tb):=by
 intro Z s U H Q I h;exact wpAny_Compare1 (Ai R O I h λv u J x y B T L G q=>M Z J U B x y v u Q T L G q) N
def QF(t:TE):TT:=λU H Q=>t U H λx Z=>∃k,x=.bl k/\Q k Z
def Yp(B:OpR X (compareOp op) r)(F:PE X a ta)(E:PE X b tb)(D:behindInMarks op b=false):PT X (.Compare a [op] [b] pos) (QF<|tOp r ta tb):=by
 intro Z s U H Q I h
 refine wpAny_isTrue_Compare1 (thn (F Z s U H _ I h) λv G ⟨x,q,C,N,T⟩=>thn (E Z G U q _ C T) λu J ⟨y,j,S,M,R⟩=>
  thn (B Z J U j x y v u _ S N M R) λc t ⟨z,P,A,L,k,e,O⟩=>?_) D
 subst e;cases L;exact vJ ⟨P,A,O⟩
def IJ(r r':R2)(ta tb tc:TE):TE:=λU H Q=>ta U H λx M=>tb U M λy L=>r x y L λz Z=>∃k,z=.bl k/\
 (if k=true then tc U Z λJ G=>r' y J G Q else Q (.bl false) Z)
def KB(q:OpR X (compareOp op) r)(J:OpR X (compareOp op') r')(p:PE X a ta)(g:PE X b tb)(m:PE X c tc)(t:lastMarks [op,op'] [b,c]=false:=by with_unfolding_all rfl):PE X (.Compare a [op,op'] [b,c] pos) (IJ r r' ta tb tc):=by
 intro Z s U H Q I h
 refine Compare_chain (thn (p Z s U H _ I h) λv E ⟨x,n,l,S,j⟩=>chain_link (thn (g Z E U n _ l j) λu D ⟨y,i,w,G,P⟩=>
  thn (q Z D U i x y v u _ w S G P) λd B ⟨z,N,M,A,k,e,L⟩=>?_)) t
 subst e;cases A;refine vJ ?_
 cases k with
 |false=>exact ite_ff ⟨.bl false,N,M,Y,L⟩
 |true=>exact ite_tt<|chain_last<|thn (m Z B U N _ M L) λR T ⟨O,o,f,F,C⟩=>J Z T U o y O u R Q f G F C
def Gn(g:OpR X (compareOp op) r)(J:OpR X (compareOp op') r')(l:PE X a ta)(w:PE X b tb)(f:PE X c tc)(p:lastMarks [op,op'] [b,c]=false:=by with_unfolding_all rfl):PT X (.Compare a [op,op'] [b,c] pos) (QF<|IJ r r' ta tb tc):=by
 intro Z s U H Q I h
 refine isTrue_chain (thn (l Z s U H _ I h) λv E ⟨x,H1,I1,C,t⟩=>test_link (thn (w Z E U H1 _ I1 t) λu D ⟨y,H2,I2,G,q⟩=>
  thn (g Z D U H2 x y v u _ I2 C G q) λd B ⟨z,N,M,S,k,e,L⟩=>?_)) p
 subst e;cases S;refine vJ ?_
 cases k with
 |false=>
  obtain⟨k',i,m⟩:=L;cases i;exact ite_ff ⟨N,M,m⟩
 |true=>
  refine ite_tt<|test_last<|thn (f Z B U N _ M L) λR T ⟨O,H4,I4,A,j⟩=>thn (J Z T U H4 y O u R _ I4 G A j) λd' s5 ⟨z2,H5,n,F,k2,o,P⟩=>?_;subst o;cases F;exact vJ ⟨H5,n,P⟩
def WY:(sizeLine:Nat)<2 ^ 63:=by rw[q0];decide
def Xc:OpR X (binaryOp .Add) (λx y H Q=>∃i j,x=.str i/\y=.str j/\i.length+j.length<=sizeLine/\Q (.str<|i++ j) H):=by
 intro Z s U H x y v u Q I L G h;obtain⟨i,j,rfl,rfl,M,q⟩:=h;obtain⟨t,rfl⟩:=L;obtain⟨J,rfl⟩:=G;exact add_str (λJ N=>⟨.str<|i++ j,H,I.tok _,⟨_,rfl⟩,q⟩) M
def vals1(r:Vals [x] Z):∃u,Z=[u]/\RelV x u:=by
 cases r with
 |cons G J=>cases J;exact⟨_,Y,G⟩
def vals2(r:Vals [x,y] J):∃u Z,J=[u,Z]/\RelV x u/\RelV y Z:=by
 cases r with
 |cons N M=>
  cases M with
  |cons L G=>cases G;exact⟨_,_,Y,N,L⟩
def Fi:UA X (.type "int") (λZ H Q=>(∃i,Z=[.int i]/\Q (.int i) H) \/ ∃k,Z=[.bl k]/\Q (.int<|if k then 1 else 0) H):=by
 intro J s U H Z G Q I r h;rcases h with⟨i,rfl,q⟩|⟨k,rfl,q⟩
 .obtain ⟨u,rfl,t,rfl⟩:=vals1 r
  exact call_int_int ⟨.int i,H,I,⟨_,Y⟩,q⟩
 .obtain ⟨u,rfl,r1⟩:=vals1 r
  cases r1;exact call_int_bool ⟨.int<|if k then 1 else 0,H,I.tok _,⟨_,rfl⟩,q⟩
end
structure Du(h:Heap)(x dx C:Addr)(mA:Str->Option Value):Prop where
 obj:h.get? x=some (W.instObj C dx)
 ns:h.Ns1 dx mA
 ne:dx≠x
set_option tactic.hygienic true in
def FP{h:Heap}(n:h.Ns1 T mA):∃J,h.get? T=some J/\∀name,W.lookIn name J=some (mA name):=by
 obtain⟨o,G,D,M,R,O,_,N⟩:=n;refine⟨o,M,λname=>?_⟩;have e:=N name;unfold nsFind findBy at e;rw[<-Array.find?_toList]at e;unfold W.lookIn;rw[R];dsimp only
 split
 .rename_i y q
  rw[q]at e;exact congrArg some e
 .rename_i q
  rw[q]at e
  have a:G.toList.any (·.refKey)=false:=by
   rw[ka];intro y L;obtain⟨z,t,Z⟩:=O y<|Array.mem_toList_iff.mp L;simp[DictEntry.refKey,Z]
  have B:¬G.toList.any (·.refKey)=true:=by rw[a];exact Zi
  rw[Zq B];exact congrArg some e
def Du.look(I:Du h x L C mA):∃Z,W.InstAt h x (W.instObj C L) C (some Z)/\∀name,W.lookIn name Z=some (mA name):=
 let⟨Z,J,G⟩:=FP I.ns
 ⟨Z,⟨I.obj,rfl,rfl,J⟩,G⟩
section
variable{K:W.Frag}
def Pe(X:K.In s.heap)(I:Du s.heap x T C mA)(N:W.plainGet K C name=true)(M:W.hasDictIn K C=true)(O:W.findIn K (.ref C) name=some none)(G:mA name=some v)(Z:W.handedIn v=true)(h:Q v {s with toks:=s.toks+1}):
  wpAny (model prog w) A (getAttr (.ref x) name expr) Q E s:=by
 obtain⟨R,J,L⟩:=I.look;exact W.get_value X J (W.plainGet_of N).1 (W.findObj_own M O Y (by rw[L,G])) Z h
def LQ(X:K.In s.heap)(I:Du s.heap x R C mA)(Z:W.plainGet K C name=true)(O:W.findIn K (.ref C) name=some (some<|.ref f))(M:W.isFn K (.ref f)=true)(L:mA name=none)(h:Q (.ref f,[.ref x]) s):
  wpAny (model prog w) A (getMethod (.ref x) name pl) Q E s:=by
 obtain⟨G,J,N⟩:=I.look;exact W.method_fn X J (W.plainGet_of Z).1 (W.plainGet_of Z).2 O (beq_iff_eq.mp M) (by show(W.lookIn name G).map (·.isSome)=some false;rw[N,L];rfl) h
def OL(X:K.In s.heap)(I:Du s.heap x M C mA)(U:W.findIn K (.ref C) "__setattr__"=some (some<|.builtin "object.__setattr__"))(P:W.plainOver K C=true)(F:W.takerIn K C name=some none)(j:W.hasDictIn K C=true)(D:PySem.Within mA T)(S:T.length<=sizeLine)(h:∀L,Du L x M C (λy=>if y=name then some v else mA y)->Heap.SameBut M s.heap L->Q () {s with heap:=L,toks:=s.toks+2}):
  wpAny (model prog w) A (setAttr (.ref x) name v) Q E s:=by
 obtain⟨m,J,k⟩:=I.look;refine W.set_plain X J U<|W.osa_open (s:={s with toks:=s.toks+1}) (r:=none) X J P F λb=>?_;obtain⟨p,z,O⟩:=W.any_some j;have B:s.heap.get? x=some ⟨.ref C,some M,.plain,#[]⟩:=I.obj;refine Zl<|Zm<|Zl<|Zl<|wpAny_loadPart B<|Zl<|W.Looks.here (s:={s with toks:=s.toks+1}) (W.looks_clsIn X z) ?_;rw[O];refine Zm (a:=some M)<|Zl<|Zm<|Zl ?_;refine wpAny_nsSet1 (s:={s with toks:=s.toks+1}) I.ns λL G Z=>?_;obtain⟨g,q,t,N,hdD,R⟩:=G.count<|PySem.Within.cons name v D;refine Zl<|wpAny_lookBehind N (by rw[hdD];exact pastItsLine_dict<|Zb R (by rw[Zf];omega)) ?_;exact Zm<|h _ ⟨(Z.2 _<|Zs I.ne).trans I.obj,G,I.ne⟩ Z
def Kw(X:K.In s.heap)(J:W.makesIn K C=true)(G:W.findIn K (.ref C) "__init__"=some (some<|.ref f))(L:W.typeIn K (.ref f)=some (.type "function"))(h:codeAny (model prog w) (A.under<|.builtin "type.__call__" ⟨.ref C::Z,kw⟩) (.call (.ref f) ⟨.ref (s.heap.objs.size+1)::Z,kw⟩) (W.InitBack (s.heap.objs.size+1) R)
   {s with heap:=(s.heap.push W.emptyDict).push (W.instObj C s.heap.objs.size)}):
  codeAny (model prog w) A (.call (.ref C) ⟨Z,kw⟩) R s:=by
 obtain⟨N,g,d,t,M⟩:=s;exact W.make_core (W.makes_of X J) (W.looks_findIn X G) (λself=>W.bind_fn X self L) (.inl Y) h
end
def VX(f:Str)(v:V):List (Str×V)->List (Str×V)
 |[]=>[(f,v)]
 |(g,x)::r=>if g=f then(g,v)::r else(g,x)::VX f v r
theorem Wm(f g:Str)(v:V):∀Z:List (Str×V),(VX f v Z).lookup g=if g=f then some v else Z.lookup g
 |[]=>by
  show List.lookup g [(f,v)]=_
  by_cases h:g=f
  .have hb:(g==f)=true:=beq_iff_eq.mpr h
   simp only[List.lookup,hb,Zp h]
  .have hb:(g==f)=false:=beq_eq_false_iff_ne.mpr h
   simp only[List.lookup,hb,Zq h]
 |(k,x)::r=>by
  have ih:=Wm f g v r;rw[show VX f v ((k,x)::r)=(if k=f then(k,v)::r else(k,x)::VX f v r)from rfl]
  by_cases hk:k=f
  .rw [Zp hk]
   by_cases h:g=k
   .have hb:(g==k)=true:=beq_iff_eq.mpr h
    simp only[List.lookup,hb,Zp (h.trans hk)]
   .have hb:(g==k)=false:=beq_eq_false_iff_ne.mpr h
    simp only[List.lookup,hb,Zq (λe:g=f=>h<|e.trans hk.symm)]
  .rw [Zq hk]
   by_cases h:g=k
   .have hb:(g==k)=true:=beq_iff_eq.mpr h
    simp only[List.lookup,hb,Zq (λe:g=f=>hk<|h.symm.trans e)]
   .have hb:(g==k)=false:=beq_eq_false_iff_ne.mpr h
    simp only[List.lookup,hb];exact ih
theorem Wa(f:Str)(v:V):∀Z:List (Str×V),f∈(VX f v Z).map (·.1)/\∀g,g∈Z.map (·.1)->g∈(VX f v Z).map (·.1)
 |[]=>⟨by simp[VX],λg h=>by simp at h⟩
 |(k,x)::r=>by
  obtain⟨G,J⟩:=Wa f v r;rw[show VX f v ((k,x)::r)=(if k=f then(k,v)::r else(k,x)::VX f v r)from rfl]
  by_cases hk:k=f
  .rw [Zp hk]
   subst hk;exact⟨by simp,λg h=>by simpa using h⟩
  .rw [Zq hk]
   refine⟨?_,λg h=>?_⟩
   .rw [ZV]
    exact ZM _ G
   .rw [ZV]at h |-
    rcases Zd.mp h with e|e
    .exact Zd.mpr (.inl e)
    .exact ZM _ (J g e)
theorem Wn(f:Str)(v:V):∀Z:List (Str×V),(VX f v Z).length<=Z.length+1
 |[]=>by simp[VX]
 |(k,x)::r=>by
  have ih:=Wn f v r;rw[show VX f v ((k,x)::r)=(if k=f then(k,v)::r else(k,x)::VX f v r)from rfl]
  by_cases hk:k=f
  .rw [Zp hk,Zf,Zf];omega
  .rw [Zq hk,Zf,Zf];omega
def UT.some_of(r:UT (some v) o):∃u,o=some u/\RelV v u:=by
 cases o with
 |none=>exact(show False from r).elim
 |some u=>exact⟨u,Y,r⟩
def UT.none_of(r:UT none o):o=none:=by
 cases o with
 |none=>rfl
 |some u=>exact(show False from r).elim
def FV(r:RelV v u):W.handedIn u=true:=by
 cases v with
 |non=>cases(show u=Value.none from r);rfl
 |bl b=>cases(show u=Value.bool b from r);rfl
 |int i=>obtain⟨t,e⟩:=(show ∃t,u=Value.int i t from r);cases e;rfl
 |str x=>obtain⟨t,e⟩:=(show ∃t,u=Value.str x t from r);cases e;rfl
 |byt b=>obtain⟨t,e⟩:=(show ∃t,u=Value.bytes b t from r);cases e;rfl
 |flt b=>obtain⟨t,e⟩:=(show ∃t,u=Value.float b t from r);cases e;rfl
 |ref a=>cases(show u=Value.ref a from r);rfl
 |ty n=>cases(show u=Value.type n from r);rfl
section
def W4(J:HOk P w H h)(e:H a=some (.ins C G fs)):∃Z,Du h a G C Z/\(∀f,UT (fs.lookup f)<|Z f)/\PySem.Within Z (fs.map (·.1))/\fs.length<=1000/\H G=some (.own a):=by
 obtain⟨d,z,M,L,Z,n,r,q⟩:=(show VQ P w H h a (.ins C G fs)from J a _ e);exact⟨Z,⟨L,n,M⟩,r,q,z,d⟩
end
structure Cls(K:W.Frag)(C:Addr):Prop where
 pg:W.plainGet K C Str.empty=true
 hd:W.hasDictIn K C=true
 po:W.plainOver K C=true
 sa:W.findIn K (.ref C) "__setattr__"=some (some (.builtin "object.__setattr__"))
def Cls.get{K:W.Frag}(c:Cls K C)(f:Str):W.plainGet K C f=true:=c.pg
def VH(K:W.Frag)(C:Addr)(f:Str):Prop:=W.findIn K (.ref C) f=some none
def VH.taker{K:W.Frag}(n:VH K C f):W.takerIn K C f=some none:=by
 unfold W.takerIn;rw[show W.findIn K (.ref C) f=some none from n]
 rfl
structure VN(K:W.Frag)(C:Addr)(m:Str)(f:Addr):Prop where
 at_:W.findIn K (.ref C) m=some (some (.ref f))
 fn:W.isFn K (.ref f)=true
 kp:W.keepIn K (.ref f)=true
section
def G9(I:Inv X Z U H s)(e:H a=some (.ins C N fs))(c:Cls X.K C)(n:VH X.K C f)(l:fs.lookup f=some v)(h:∀u J,Inv X Z U H J->RelV v u->Q u J):wpAny (model X.prog X.w) A (getAttr (.ref a) f b) Q E s:=by
 obtain⟨L,O,r,_,_,_⟩:=W4 I.hok e;obtain⟨u,M,G⟩:=UT.some_of (v:=v) (o:=L f) (by rw[<-l];exact r f);exact Pe I.kIn O (c.get f) c.hd n M (FV G)<|h u _ (I.tok _) G
def G8(I:Inv X Z U H s)(e:H a=some (.ins C L fs))(c:Cls X.K C)(k:VN X.K C m g)(l:fs.lookup m=none)(h:Q (.ref g,[.ref a]) s):wpAny (model X.prog X.w) A (getMethod (.ref a) m pl) Q E s:=by
 obtain⟨J,O,r,_,_,_⟩:=W4 I.hok e;have G:J m=none:=UT.none_of (by rw[<-l];exact r m);exact LQ I.kIn O (c.get m) k.at_ k.fn G h
def XX(I:Inv X Z U H s)(e:H a=some (.ins C J fs))(c:Cls X.K C)(n:VH X.K C f)(m:fs.length<1000)(B:RelV y u)(h:∀M,Inv X Z U (upd H a<|.ins C J<|VX f y fs) M->Q () M):wpAny (model X.prog X.w) A (setAttr (.ref a) f u) Q E s:=by
 obtain⟨N,O,r,L,_,R⟩:=W4 I.hok e;have D:(fs.map (·.1)).length<=sizeLine:=by rw[ZA,q0];omega
 refine OL I.kIn O c.sa c.po n.taker c.hd L D λj G T=>h _ ?_;have S:∃o,j.get? J=some o:=let⟨o,_,_,t,_⟩:=G.ns;⟨o,t⟩
 refine I.write (x:=a) (e:=J) (by rw[e];exact True.intro) (.inr R) (λb q P z=>(T.2 b P).trans z) S ?_;refine⟨by rw[Yg O.ne];exact R,?_,O.ne,G.obj,_,G.ns,λg=>?_,λg F=>?_⟩
 .have:=Wn f y fs;omega
 .show UT ((VX f y fs).lookup g) (if g=f then some u else N g)
  rw[Wm]
  by_cases q:g=f
  .rw [Zp q,Zp q];exact B
  .rw [Zq q,Zq q];exact r g
 .by_cases q:g=f
  .rw [q];exact(Wa f y fs).1
  .refine (Wa f y fs).2 g (L g λz=>F ?_)
   show(if g=f then some u else N g)=none;rw[Zq q];exact z
def Inv.made(I:Inv X Z U H s):Inv X Z U (upd (upd H s.heap.objs.size<|.own<|s.heap.objs.size+1) (s.heap.objs.size+1)<|.ins C s.heap.objs.size [])
  {s with heap:=(s.heap.push W.emptyDict).push (W.instObj C s.heap.objs.size)}:=by
 have G:(s.heap.push W.emptyDict).get? s.heap.objs.size=some W.emptyDict:=ZY s.heap rfl
 have O:((s.heap.push W.emptyDict).push<|W.instObj C s.heap.objs.size).get? (s.heap.objs.size+1)=some (W.instObj C s.heap.objs.size):=by
  have:=ZY (s.heap.push W.emptyDict) (o:=W.instObj C s.heap.objs.size) rfl
  rwa [vK]at this
 have N:(s.heap.push W.emptyDict).Ns s.heap.objs.size (λ_=>none):=⟨W.emptyDict,#[],_,G,rfl,(λe M=>Zr M<|by simp),λ_=>rfl⟩;have R:=I.laid (a:=s.heap.objs.size) (o:=.own<|s.heap.objs.size+1) (h':=s.heap.push W.emptyDict) (t':=s.toks) (λb u q=>ZE _ q) (ZG _) ⟨_,G⟩;refine R.laid (a:=s.heap.objs.size+1) (o:=.ins C s.heap.objs.size []) (t':=s.toks) (λb u q=>ZE _ q) (qv<|vK _ _) ?_;have J:s.heap.objs.size≠s.heap.objs.size+1:=Ze<|vi _;refine⟨by rw[Yg J,Yh],Zc _,J,O,λ_=>none,(Heap.Ns1.of_empty N).at λo q=>ZE _ q,λ_=>True.intro,λy L=>Zr Y L⟩
def P3(J:attributeBase e f env (eval e env)=eval e env)(h:wpAny (model prog w) A (eval e env) (λo Z=>wpAny (model prog w) A (getAttr o f true) Q E Z) E s):wpAny (model prog w) A (eval (.Attribute e f pos) env) Q E s:=
 Attribute_any_ h (by rw[arm_eval_Attribute,J])
end
def A3(K:W.Frag)(ta:TE)(f:Str):TE:=λU H Q=>ta U H λx J=>V9 x λa=>∃C G Z v,J a=some (.ins C G Z)/\Cls K C/\VH K C f/\Z.lookup f=some v/\Q v J
def yR(K:W.Frag)(ta tv:TE)(f:Str):TS:=λD U H=>tv U H λy L=>ta U L λx G=>∃a C J Z,x=.ref a/\G a=some (.ins C J Z)/\Cls K C/\VH K C f/\Z.length<1000/\
 D.nx U (upd G a<|.ins C J<|VX f y Z)
def zh(X:Cx)(op:Operator)(rd:V->V->Hp->VK->Prop):Prop:=
 ∀(Z:kU)(s:Shared)(U:St)(H:Hp)(x y:V)(u v:Value)(Q:VK),Inv X Z U H s->RelV x u->RelV y v->rd x y H Q->wpAny (model X.prog X.w) X.A (inplaceOp op u v) (EP X Z U Q) X.xe s
def OZ(K:W.Frag)(ta tv:TE)(rd:V->V->Hp->VK->Prop)(f:Str):TS:=λD U H=>ta U H λx M=>∃a C N G v,x=.ref a/\M a=some (.ins C N G)/\Cls K C/\VH K C f/\G.lookup f=some v/\
 tv U M λy O=>rd v y O λz L=>∃J Z,L a=some (.ins C J Z)/\Z.length<1000/\D.nx U (upd L a<|.ins C J<|VX f z Z)
section
def Yt(L:PE X e ta)(M:attributeBase e f X.env (eval e X.env)=eval e X.env):PE X (.Attribute e f pos) (A3 X.K ta f):=by
 intro Z s U H Q I h;refine P3 M<|thn (L Z s U H _ I h) λu F ⟨x,B,T,J,q⟩=>?_;replace q:=V9.old q;obtain⟨a,N,C,S,A,v,O,c,n,l,q⟩:=q;subst N;obtain rfl:u=Value.ref a:=J;exact G9 T O c n l λD E R G=>⟨v,B,R,G,q⟩
def VZ(T:PE X o ta)(O:PE X value tv)(R:swapsWith value (some<|.Attribute o f pos') pos.line X.env=pure false):PS X (.Assign [.Attribute o f pos'] value pos) (yR X.K ta tv f):=by
 intro Z s U H D I h;refine plainObj_wpAny_Assign_Attribute (thn (O Z s U H _ I h) λu J ⟨y,P,S,G,q⟩=>thn (T Z J U P _ S q) λN j ⟨x,m,A,L,a,C,t,z,B,E,c,n,l,M⟩=>?_) R;subst B;obtain rfl:N=Value.ref a:=L;exact XX A E c n l G λQ F=>⟨U,_,F,M⟩
def FD(Q:PE X o ta)(P:PE X value tv)(J:zh X op rd):PS X (.AugAssign (.Attribute o f tpos) op value pos) (OZ X.K ta tv rd f):=by
 intro Z s U H D I h;refine wpAny_AugAssign_AttributeAny<|thn (Q Z s U H _ I h) λA s1 ⟨x,e,r,T,a,C,dx,fs,v,t,m,c,n,l,q⟩=>?_;subst t;obtain rfl:A=Value.ref a:=T;refine G9 r m c n l λu N w B=>thn (P Z N U e _ w q) λL M ⟨y,b,d,R,F⟩=>thn (J Z M U b v y u L _ d B R F) λi s4 ⟨z,H3,p,O,g,j,G,S,E⟩=>?_;exact XX p G c n S O λs5 k=>⟨U,_,k,E⟩
def yb:V->V->Hp->VK->Prop:=λx y H Q=>∃i j,x=.int i/\y=.int j/\Q (.int<|i+j) H
def AR:zh X .Add yb:=by
 rintro J s U H x y u v Q I L G ⟨i,j,rfl,rfl,q⟩;obtain⟨t,rfl⟩:=(show ∃t,u=Value.int i t from L);obtain⟨Z,rfl⟩:=(show ∃Z,v=Value.int j Z from G);exact PyProof.Rows.iadd_int ⟨.int<|i+j,H,I.tok _,⟨_,rfl⟩,q⟩
end
section
variable{H:Hp}
inductive Xh(K:W.Frag)(H:Hp):V->Value->Prop where
 |non:Xh K H .non (.type "NoneType")
 |bl (x:Bool):Xh K H (.bl x) (.type "bool")
 |int (i:Int):Xh K H (.int i) (.type "int")
 |str (x:Str):Xh K H (.str x) (.type "str")
 |flt (x:UInt64):Xh K H (.flt x) (.type "float")
 |lst {a:Addr}{xs:List V}(e:H a=some (.lst xs)):Xh K H (.ref a) (.type "list")
 |frz {a:Addr}{o:Obj}{xs:List V}(e:H a=some (.frz o (.lst xs))):Xh K H (.ref a) (.type "list")
 |tup {a:Addr}{xs:List V}(e:H a=some (.tup xs)):Xh K H (.ref a) (.type "tuple")
 |dK {a:Addr}{kvs:List (Key×V)}(e:H a=some (.dK kvs)):Xh K H (.ref a) (.type "dict")
 |dT {a:Addr}{kvs:List (List Key×V)}(e:H a=some (.dT kvs)):Xh K H (.ref a) (.type "dict")
 |ins {a C dx:Addr}{fs:List (Str×V)}(e:H a=some (.ins C dx fs)) (cl:Cls K C) (ha:W.findIn K (.ref C) "__class__"=some (some (.builtin "object.__class__")))
   (hn:W.specialIn K (.builtin "object.__class__") "__get__"=some (some (.builtin "getset_descriptor.__get__"))) (htk:W.takesIn K (.builtin "object.__class__")=some true)
   (hm:W.mroIn K C (.type "object")=some true):Xh K H (.ref a) (.ref C)
def FR(I:Inv X B U H s)(Z:RelV x u)(ty:Xh X.K H x t)(e:W.kitOne X.K t c=some b)(h:∀F,Q (.bool b) {s with toks:=F}):
  wpAny (model X.prog X.w) A (call (.builtin "isinstance") [u,c]) Q E s:=by
 cases ty with
 |non=>cases(show u=Value.none from Z);exact jH W.kitx_none I.kIn True.intro e (λz=>nomatch z) h
 |bl y=>cases(show u=Value.bool y from Z);exact jH W.kitx_bool I.kIn True.intro e (λz=>nomatch z) h
 |int i=>obtain⟨t,q⟩:=(show ∃t,u=Value.int i t from Z);cases q;exact jH W.kitx_int I.kIn True.intro e (λz=>nomatch z) h
 |str y=>obtain⟨t,q⟩:=(show ∃t,u=Value.str y t from Z);cases q;exact jH W.kitx_str I.kIn True.intro e (λz=>nomatch z) h
 |flt y=>obtain⟨t,q⟩:=(show ∃t,u=Value.float y t from Z);cases q;exact jH W.kitx_float I.kIn True.intro e (λz=>nomatch z) h
 | @lst a N G=>
  cases(show u=Value.ref a from Z);obtain⟨_,_,n,_,L⟩:=(show VQ X.prog X.w H s.heap a (.lst N)from I.hok a _ G);exact jH W.kitx_list I.kIn ⟨_,L,Y⟩ e (λz=>nomatch z) h
 | @frz a S N G=>
  cases(show u=Value.ref a from Z);obtain⟨_,_,_,n,_,L⟩:=(show VQ X.prog X.w H s.heap a (.frz S<|.lst N)from I.hok a _ G);exact jH W.kitx_list I.kIn ⟨_,L,Y⟩ e (λz=>nomatch z) h
 | @tup a N G=>
  cases(show u=Value.ref a from Z);obtain⟨_,_,_,p⟩:=(show VQ X.prog X.w H s.heap a (.tup N)from I.hok a _ G);obtain⟨o,L,_,R,_⟩:=p;exact jH W.kitx_tuple I.kIn ⟨o,L,R⟩ e (λz=>nomatch z) h
 | @dK a M G=>
  cases(show u=Value.ref a from Z);obtain⟨_,_,d,_,p⟩:=(show VQ X.prog X.w H s.heap a (.dK M)from I.hok a _ G);obtain⟨o,g,k,L,R,_⟩:=p;exact jH W.kitx_dict I.kIn ⟨o,L,R.1⟩ e (λz=>nomatch z) h
 | @dT a M G=>
  cases(show u=Value.ref a from Z);obtain⟨_,_,N,_,o,g,k,L,R,_⟩:=(show VQ X.prog X.w H s.heap a (.dT M)from I.hok a _ G);exact jH W.kitx_dict I.kIn ⟨o,L,R.1⟩ e (λz=>nomatch z) h
 | @ins a C r w G D m P T j=>
  cases(show u=Value.ref a from Z);obtain⟨v,O,_⟩:=W4 I.hok G;obtain⟨f,J,_⟩:=O.look;exact jH (W.kitx_own (D.get _) D.hd m P T j) I.kIn J e (λz=>nomatch z) h
end
structure Vr(k:Nat)(A:Around):Prop where
 hd:A.handled=none
 dp:A.depth+3*k+5<recursionLimit
 un:A.units+16*k+200<cLine
def Vr.mono(r:Vr k A)(h:j<=k):Vr j A:=⟨r.hd,by have:=r.dp;omega,by have:=r.un;omega⟩
def Vr.deeper(r:Vr (k+1) A)(Z:Env):Vr k (A.deeper Z):=
 ⟨r.hd,by have:=r.dp;show A.depth+1+3*k+5<_;omega,by have:=r.un;show A.units+3+16*k+200<_;omega⟩
def Vr.in1(r:Vr (k+1) A):Vr k A.in1:=
 ⟨r.hd,by have:=r.dp;show A.depth+3*k+5<_;omega,by have:=r.un;show A.units+1+16*k+200<_;omega⟩
def DB{A:Around}:(A.under<|.builtin "type.__call__" ⟨.ref C::Z,kw⟩).depth=A.depth+1:=by
 first|rfl|simp[Around.under,Code.weight,Code.isCreation,Code.isGuard,Code.isCaller,Code.frames,Code.isFrame,guardIds]
def B9{A:Around}:(A.under<|.builtin "type.__call__" ⟨.ref C::Z,kw⟩).units=A.units+1:=by
 first|rfl|simp[Around.under,Code.cUnits,Code.frames,Code.isFrame]
def Vr.make(r:Vr (k+1) A)(C:Addr)(Z:kX)(J:List (Str×Value)):Vr k (A.under<|.builtin "type.__call__" ⟨.ref C::Z,J⟩):=
 ⟨r.hd,by have:=r.dp;rw[DB];omega,by have:=r.un;rw[B9];omega⟩
def Vr.depth(r:Vr k A):A.depth<recursionLimit:=by have:=r.dp;omega
def Vr.units(r:Vr k A):A.units+64<cLine:=by have:=r.un;omega
def Vr.units0(r:Vr k A):A.units<cLine:=by have:=r.un;omega
def Tf:TA:=λ_ H Q=>Q [] H
def V4(ta:TE)(tr:TA):TA:=λU H Q=>ta U H λx G=>tr U G λZ J=>Q (x::Z) J
section
variable{t:TA}
def VR:PA X [] Tf:=λ_ _ _ _ H Q I h=>Calls.spliced_nil ⟨[],H,I,.nil,h⟩
def VS(E:PE X e te)(D:PA X G t)(B:starEach (e::G) X.env=(false,eval e X.env)::starEach G X.env:=by rfl):PA X (e::G) (V4 te t):=by
 intro J Z s U H Q I h;rw[B];show wpAny _ _ (spliced ((false,eval e X.env)::backTo J (starEach G X.env))) _ _ s;refine Calls.spliced_cons<|thn (E Z s U H _ I h) λu M ⟨x,C,A,O,T⟩=>?_;exact thn (D J Z M U C _ A T) λP j ⟨L,S,F,N,R⟩=>⟨x::L,S,F,.cons O N,R⟩
def pa1(J:PE X e0 t0)(Z:starEach [e0] X.env=(false,eval e0 X.env)::starEach [] X.env:=by rfl):PA X [e0] (V4 t0<|Tf):=VS J (VR) Z
def pa2(L:PE X e0 t0)(G:PE X e1 t1)(J:starEach [e0,e1] X.env=(false,eval e0 X.env)::starEach [e1] X.env:=by rfl)(Z:starEach [e1] X.env=(false,eval e1 X.env)::starEach [] X.env:=by rfl):PA X [e0,e1] (V4 t0<|V4 t1<|Tf):=VS L (VS G (VR) Z) J
def pa3(N:PE X e0 t0)(M:PE X e1 t1)(L:PE X e2 t2)(G:starEach [e0,e1,e2] X.env=(false,eval e0 X.env)::starEach [e1,e2] X.env:=by rfl)(J:starEach [e1,e2] X.env=(false,eval e1 X.env)::starEach [e2] X.env:=by rfl)(Z:starEach [e2] X.env=(false,eval e2 X.env)::starEach [] X.env:=by rfl):PA X [e0,e1,e2] (V4 t0<|V4 t1<|V4 t2<|Tf):=VS N (VS M (VS L (VR) Z) J) G
def pa4(R:PE X e0 t0)(O:PE X e1 t1)(N:PE X e2 t2)(M:PE X e3 t3)(L:starEach [e0,e1,e2,e3] X.env=(false,eval e0 X.env)::starEach [e1,e2,e3] X.env:=by rfl)(G:starEach [e1,e2,e3] X.env=(false,eval e1 X.env)::starEach [e2,e3] X.env:=by rfl)(J:starEach [e2,e3] X.env=(false,eval e2 X.env)::starEach [e3] X.env:=by rfl)(Z:starEach [e3] X.env=(false,eval e3 X.env)::starEach [] X.env:=by rfl):PA X [e0,e1,e2,e3] (V4 t0<|V4 t1<|V4 t2<|V4 t3<|Tf):=VS R (VS O (VS N (VS M (VR) Z) J) G) L
def pa5(B:PE X e0 t0)(T:PE X e1 t1)(R:PE X e2 t2)(O:PE X e3 t3)(N:PE X e4 t4)(M:starEach [e0,e1,e2,e3,e4] X.env=(false,eval e0 X.env)::starEach [e1,e2,e3,e4] X.env:=by rfl)(L:starEach [e1,e2,e3,e4] X.env=(false,eval e1 X.env)::starEach [e2,e3,e4] X.env:=by rfl)(G:starEach [e2,e3,e4] X.env=(false,eval e2 X.env)::starEach [e3,e4] X.env:=by rfl)(J:starEach [e3,e4] X.env=(false,eval e3 X.env)::starEach [e4] X.env:=by rfl)(Z:starEach [e4] X.env=(false,eval e4 X.env)::starEach [] X.env:=by rfl):PA X [e0,e1,e2,e3,e4] (V4 t0<|V4 t1<|V4 t2<|V4 t3<|V4 t4<|Tf):=VS B (VS T (VS R (VS O (VS N (VR) Z) J) G) L) M
def pa6(E:PE X e0 t0)(D:PE X e1 t1)(B:PE X e2 t2)(T:PE X e3 t3)(R:PE X e4 t4)(O:PE X e5 t5)(N:starEach [e0,e1,e2,e3,e4,e5] X.env=(false,eval e0 X.env)::starEach [e1,e2,e3,e4,e5] X.env:=by rfl)(M:starEach [e1,e2,e3,e4,e5] X.env=(false,eval e1 X.env)::starEach [e2,e3,e4,e5] X.env:=by rfl)(L:starEach [e2,e3,e4,e5] X.env=(false,eval e2 X.env)::starEach [e3,e4,e5] X.env:=by rfl)(G:starEach [e3,e4,e5] X.env=(false,eval e3 X.env)::starEach [e4,e5] X.env:=by rfl)(J:starEach [e4,e5] X.env=(false,eval e4 X.env)::starEach [e5] X.env:=by rfl)(Z:starEach [e5] X.env=(false,eval e5 X.env)::starEach [] X.env:=by rfl):PA X [e0,e1,e2,e3,e4,e5] (V4 t0<|V4 t1<|V4 t2<|V4 t3<|V4 t4<|V4 t5<|Tf):=VS E (VS D (VS B (VS T (VS R (VS O (VR) Z) J) G) L) M) N
def zj(t:TA):TE:=λU H Q=>t U H λZ J=>Z.length<=sizeLine/\∀p,J p=none->Q (.ref p) (upd J p<|.tup Z)
def zt(t:TA):TE:=λU H Q=>t U H λZ J=>Z.length<=sizeLine/\∀p,J p=none->Q (.ref p) (upd J p<|.lst Z)
def Yq(h:PA X T t):PE X (.Tuple T x1 pos) (zj t):=by
 intro Z s U H Q I O;refine wpAny_Tuple_spliced<|thn (h pos Z s U H _ I O) λN J ⟨M,L,G,r,z,q⟩=>⟨by rw[<-r.length];exact z,?_⟩;have R:L J.heap.objs.size=none:=G.hok.fresh<|ZG _;refine⟨.ref J.heap.objs.size,upd L J.heap.objs.size<|.tup M,G.laid (t':=J.toks) (λb u e=>ZE _ e) (ZG _) ?_,rfl,q _ R⟩;exact⟨z,N,r,⟨_,ZY _ Y,Y,Y,_,Y⟩⟩
def Vg(h:PA X T t):PE X (.List T pos) (zt t):=by
 intro Z s U H Q I O;refine wpAny_List_spliced<|thn (h pos Z s U H _ I O) λN J ⟨M,L,G,r,z,q⟩=>⟨by rw[<-r.length];exact z,?_⟩;have R:L J.heap.objs.size=none:=G.hok.fresh<|ZG _;refine⟨.ref J.heap.objs.size,upd L J.heap.objs.size<|.lst M,G.laid (t':=J.toks) (λb u e=>ZE _ e) (ZG _) ?_,rfl,q _ R⟩;exact⟨z,N,0,r,ZY _ Y⟩
end
abbrev Sp:=List V->Hp->VK->XK->Prop
abbrev CXT:=List Env->Hp->Shared->XK->Value->Shared->Prop
structure Dv(P:Program)(w:World)(K:W.Frag)(mg:Str->Option Value)(base:Heap)(A:Around)(outer:List Env)(s:Shared)(H:Hp):Prop where
 frames:A.frames=some outer
 mod:Mod K mg base
 bs:∀b o,base.get? b=some o->s.heap.get? b=some o/\H b=none
 bsz:base.objs.size<=s.heap.objs.size
 funs:s.heap.FunFrames base outer
 frf:∀b∈frs outer,H b=none
 hok:HOk P w H s.heap
 bare:AllBare s.gens
def CE(outer:List Env)(P:Program)(w:World)(H:Hp)(s:Shared)(Q:VK)(u:Value)(s':Shared):Prop:=
 ∃v Z,s'.os=s.os/\AllBare s'.gens/\Un (frs outer) [] H Z s.heap s'.heap/\HOk P w Z s'.heap/\RelV v u/\Q v Z
def CR(CX:CXT)(outer:List Env)(P:Program)(w:World)(H:Hp)(s:Shared)(Q:VK)(E:XK)(r:Result)(s':Shared):Prop:=
 match r with
 |.ok (.ret u)=>CE outer P w H s Q u s'
 |.ok _=>False
 |.error e=>CX outer H s E e s'
structure Yf(P:Program)(w:World)(K:W.Frag)(mg:Str->Option Value)(base:Heap)(CX:CXT)(k:Nat)(f:Addr)(fd:FuncData)(ps:List Str)(sp:Sp):Prop where
 len:∀vs H Q E,sp vs H Q E->vs.length=ps.length
 run:∀(A:Around)(outer:List Env)(s:Shared)(H:Hp)(args:Args)(us:List Value)(vs:List V)(Q:VK)(E:XK),Vr k A->Dv P w K mg base A outer s H->BindsTo s fd args (ps.zip us)->Vals vs us->sp vs H Q E->
  codeAny (model P w) A (.call (.ref f) args) (CR CX outer P w H s Q E) s
def Yf.mono{K:W.Frag}(F:Yf P w K N base CX j f R M L)(h:j<=k):
  Yf P w K N base CX k f R M L:=⟨F.len,λA Z s H args G J Q E O=>F.run A Z s H args G J Q E<|O.mono h⟩
def Dv.make{K:W.Frag}(e:Dv P w K J base A outer s H)(C:Addr)(Z:kX)(G:List (Str×Value)):
  Dv P w K J base (A.under<|.builtin "type.__call__" ⟨.ref C::Z,G⟩) outer s H:=⟨by first|exact e.frames|(simpa[Around.under,Code.envs,Code.isFrame,pushEnvs]using e.frames),e.mod,e.bs,e.bsz,e.funs,e.frf,e.hok,e.bare⟩
section
def Inv.env0(I:Inv X Z U H s):Dv X.prog X.w X.K X.mg X.base X.A X.stack s H:=
 ⟨I.ok.frames,I.ok.mod,I.bs,Zb I.ok.bsz I.sz,I.stack,I.stkFree,I.hok,I.bare⟩
def Inv.after(I:Inv X Z U H s)(h:CE X.stack X.prog X.w H s Q u L):EP X Z U Q u L:=by
 obtain⟨v,R,N,bare,M,G,r,q⟩:=h;obtain⟨O,g,d,t,J⟩:=L;obtain rfl:J=s.os:=N;exact⟨v,R,I.call (h':=O) (g':=g) (d':=d) (t':=t) (ch:=[]) M G bare (λb z=>Zr z<|by simp),r,q⟩
end
def My(sp:Sp)(dvs:px)(E:XK)(t:TA):TE:=λU H Q=>t U H λZ J=>sp (Z++ dvs) J Q E
def IH(C:Addr)(m:Str)(sp:Sp)(dvs:px)(E:XK)(ta:TE)(t:TA):TE:=λU H Q=>ta U H λx J=>V9 x λa=>∃L Z,J a=some (.ins C L Z)/\Z.lookup m=none/\
 t U J λG M=>sp (x::(G++ dvs)) M Q E
def A1(C:Addr)(sp:Sp)(dvs:px)(E:XK)(t:TA):TE:=λU H Q=>t U H λG J=>∀x Z,J x=none->J Z=none->Z≠x->
 sp (.ref x::(G++ dvs)) (upd (upd J Z<|.own x) x<|.ins C Z []) (λv L=>v=.non/\Q (.ref x) L) E
def Binds(K:W.Frag)(fd:FuncData)(ps:kZ)(ds:kX):Prop:=
 ∀(s:Shared)(Z:kX),K.In s.heap->(Z++ ds).length=ps.length->BindsTo s fd ⟨Z,[]⟩ (ps.zip<|Z++ ds)
def Binds.all{K:W.Frag}(h:∀Z:kX,Z.length=J.length->bindArgs L ⟨Z,[]⟩=pure (J.zip Z)):Binds K L J []:=λs Z _ G=>by
 rw[j0]at G |-;exact .of_eq<|h Z G
def Uj(CX:CXT)(X:Cx)(E:XK):Prop:=∀(Z:kU)(U:St)(H:Hp)(s:Shared)(e:Value)(J:Shared),Inv X Z U H s->CX X.stack H s E e J->X.xe e J
section
variable{f C:Addr}
def Gh(F:Yf X.prog X.w X.K X.mg X.base CX k f P M N)(T:Vr k X.A)(A:Binds X.K P M G)(D:Vals dvs G)(R:Uj CX X E)(I:Inv X Z U H s)(r:Vals vs us)(h:N (vs++ dvs) H Q E):wpAny (model X.prog X.w) X.A (call (.ref f) us) (EP X Z U Q) X.xe s:=by
 have L:Vals (vs++ dvs) (us++ G):=r.append D;have B:(us++ G).length=M.length:=by rw[<-L.length];exact F.len _ _ _ _ h
 refine wpAny_call<|qO (F.run X.A X.stack s H ⟨us,[]⟩ (us++ G) (vs++ dvs) Q E T I.env0 (A s us I.kIn B) L h) λr O J=>?_
 cases r with
 |error e=>exact R Z U H s e O I J
 |ok S=>
  cases S with
  |ret u=>exact I.after J
  |next=>exact False.elim J
  |brk=>exact False.elim J
  |cont=>exact False.elim J
def JF(F:Yf X.prog X.w X.K X.mg X.base CX k f z O N)(T:Vr k X.A)(A:Gl X x)(B:X.mg x=some (.ref f))(D:W.keepIn X.K (.ref f)=true)(j:Binds X.K z O m)(P:Vals dvs m)(R:Uj CX X E)(y:PA X (e::J) t)(L:(x==("__debug__":Str))=false:=by decide)(S:starEach (e::J) X.env=(false,eval e X.env)::starEach J X.env:=by rfl)(G:(backTo pos<|starEach J X.env).any (·.1)=false:=by rfl):
  PE X (.Call (.Name x p) (e::J) [] pos) (My N dvs E t):=by
 intro Z s U H Q I h;refine jR<|W1 I A B ?_ L;refine qP (h₀:=X.base) I.ok.mod.kin D (thn (y pos Z s U H _ I h) λc d ⟨g,u,M,r,q⟩=>⟨M.kIn,?_⟩) S G;exact Gh F T j P R M r q
def Y3(y:PE X o ta)(c:Cls X.K C)(M:VN X.K C m f)(F:Yf X.prog X.w X.K X.mg X.base CX k f d A R)(j:Vr k X.A)(g:Binds X.K d A b)(z:Vals dvs b)(S:Uj CX X E)(p:PA X (e::J) t)(G:starEach (e::J) X.env=(false,eval e X.env)::starEach J X.env:=by rfl)(L:(backTo pos<|starEach J X.env).any (·.1)=false:=by rfl)(P:eval (.Call (.Attribute o m apos) (e::J) [] pos) X.env=(do
   let ov <-eval o X.env
   standAt apos.atName
   let(f,first) <-holding [ov] (getMethod ov m pl)
   callWith pos f first (backTo pos<|starEach (e::J) X.env) (backToKw pos<|keywordEach [] X.env)):=by rfl):
  PE X (.Call (.Attribute o m apos) (e::J) [] pos) (IH C m R dvs E ta t):=by
 intro Z s U H Q I h;refine W.methodCall_KW (pl:=pl) (thn (y Z s U H _ I h) λu T ⟨x,i,O,B,q⟩=>?_) P;replace q:=V9.old q;obtain⟨a,v,dx,fs,w,l,q⟩:=q;subst v;obtain rfl:u=Value.ref a:=B;refine G8 O w c M l ?_;refine qP (first:=[.ref a]) (h₀:=X.base) I.ok.mod.kin M.kp (thn (p pos Z T U i _ O q) λus n ⟨vs,H2,N,r,D⟩=>⟨N.kIn,?_⟩) G L;exact Gh (us:=.ref a::us) (vs:=.ref a::vs) F j g z S N (.cons Y r) D
def Vo(B:PE X o ta)(c:Cls X.K C)(G:VN X.K C m f)(F:Yf X.prog X.w X.K X.mg X.base CX k f S N L)(T:Vr k X.A)(A:Binds X.K S N y)(D:Vals dvs y)(O:Uj CX X E)(R:eval (.Call (.Attribute o m apos) [] [] pos) X.env=(do
   let ov <-eval o X.env
   standAt apos.atName
   let(f,first) <-holding [ov] (getMethod ov m pl)
   callWith pos f first (backTo pos<|starEach [] X.env) (backToKw pos<|keywordEach [] X.env)):=by rfl):
  PE X (.Call (.Attribute o m apos) [] [] pos) (IH C m L dvs E ta Tf):=by
 intro Z s U H Q I h;refine W.methodCall_KW (pl:=pl) (thn (B Z s U H _ I h) λu z ⟨x,p,J,M,q⟩=>?_) R;replace q:=V9.old q;obtain⟨a,P,g,t,j,l,q⟩:=q;subst P;obtain rfl:u=Value.ref a:=M;refine G8 J j c G l ?_;exact W.callWith_K0 (first:=[.ref a]) J.kIn G.kp<|Gh (us:=[.ref a]) (vs:=[.ref a]) F T A D O J (.cons rfl .nil) q
structure Mk(K:W.Frag)(C f:Addr):Prop where
 makes:W.makesIn K C=true
 init:W.findIn K (.ref C) "__init__"=some (some (.ref f))
 fn:W.isFn K (.ref f)=true
 kp:W.keepIn K (.ref C)=true
def Ij(M:Mk X.K C f)(F:Yf X.prog X.w X.K X.mg X.base CX k f p B A)(z:Vr (k+1) X.A)(m:Binds X.K p B N)(t:Vals dvs N)(y:Uj CX X E)(I:Inv X G U H s)(r:Vals R J)(h:∀x L,H x=none->H L=none->L≠x->A (.ref x::(R++ dvs)) (upd (upd H L<|.own x) x<|.ins C L []) (λv w=>v=.non/\Q (.ref x) w) E):
  wpAny (model X.prog X.w) X.A (call (.ref C) J) (EP X G U Q) X.xe s:=by
 have D:=h (s.heap.objs.size+1) s.heap.objs.size (I.hok.fresh<|jK _) (I.hok.fresh<|ZG _)<|Ze<|vi _;have O:=Inv.made (C:=C) I;have T:Vals (V.ref (s.heap.objs.size+1)::(R++ dvs)) (Value.ref (s.heap.objs.size+1)::(J++ N)):=.cons rfl (r.append t)
 have q:(Value.ref (s.heap.objs.size+1)::J++ N).length=B.length:=by
  have e:=T.length;rw[F.len _ _ _ _ D]at e;exact e.symm
 refine wpAny_call (Kw (f:=f) I.kIn M.makes M.init (beq_iff_eq.mp M.fn) (qO (F.run _ X.stack _ _ ⟨Value.ref (s.heap.objs.size+1)::J,[]⟩ (Value.ref (s.heap.objs.size+1)::(J++ N)) _ _ E (z.make C J [])
  (O.env0.make C J []) (m _ (Value.ref (s.heap.objs.size+1)::J) O.kIn q) T D) λr S Z=>?_))
 cases r with
 |error e=>exact y G U _ _ e S O Z
 |ok g=>
  cases g with
  |ret u=>
   obtain⟨v,l,d,P,c,j⟩:=O.after Z;subst c;exact⟨P,⟨V.ref<|s.heap.objs.size+1,l,d,rfl,j⟩⟩
  |next=>exact False.elim Z
  |brk=>exact False.elim Z
  |cont=>exact False.elim Z
def Uc(M:Mk X.K C f)(F:Yf X.prog X.w X.K X.mg X.base CX k f z R O)(B:Vr (k+1) X.A)(A:Gl X x)(D:X.mg x=some (.ref C))(j:Binds X.K z R m)(P:Vals dvs m)(T:Uj CX X E)(y:PA X (e::J) t)(L:(x==("__debug__":Str))=false:=by decide)(S:starEach (e::J) X.env=(false,eval e X.env)::starEach J X.env:=by rfl)(G:(backTo pos<|starEach J X.env).any (·.1)=false:=by rfl):
  PE X (.Call (.Name x p) (e::J) [] pos) (A1 C O dvs E t):=by
 intro Z s U H Q I h;refine jR<|W1 I A D ?_ L;refine qP (h₀:=X.base) I.ok.mod.kin M.kp (thn (y pos Z s U H _ I h) λc d ⟨g,u,N,r,q⟩=>⟨N.kIn,?_⟩) S G;exact Ij M F B j P T N r q
end
structure Yi(N P:List Str)(sc:Scope):Prop where
 kind:sc.kind=.function
 co:sc.isCoroutine=false
 gen:sc.isGenerator=false
 nd:N.Nodup
 pre:N.take P.length=P
 par:∀x∈P,sc.names.lookup x=some .local\/sc.names.lookup x=some .cell
 nofree:∀y∈sc.names,y.2≠.free
theorem RM{kindOf:Str->Option NameKind}:∀{binds:List (Str×Value)}{m:Str->Option Value},(∀v,(x,v)∉binds)->bindL kindOf binds m x=m x
 |[],_,_=>rfl
 |(n,v)::r,m,h=>by
  unfold bindL;rw[RM λw Z=>h w (ZM _ Z)]
  split
  .have:x≠n:=by rintro rfl;exact h v Za
   simp[this]
  .rfl
theorem RO{kindOf:Str->Option NameKind}:∀{binds:List (Str×Value)}{m:Str->Option Value},(∀v,(x,v)∉binds)->bindC kindOf binds m x=m x
 |[],_,_=>rfl
 |(n,v)::r,m,h=>by
  unfold bindC;rw[RO λw Z=>h w (ZM _ Z)]
  split
  .rfl
  .have:x≠n:=by rintro rfl;exact h v Za
   simp[this]
theorem RN{kindOf:Str->Option NameKind}:∀{P:kZ}{Z:kX}{i:Nat}{m:Str->Option Value},P.Nodup->P[i]?=some x->Z[i]?=some v->kindOf x=some .local->
  bindL kindOf (P.zip Z) m x=some v
 |[],_,_,_,_,h,_,_=>by simp at h
 |_::_,[],_,_,_,_,h,_=>by simp at h
 |p::P,w::Z,0,m,nd,h1,h2,hk=>by
  simp at h1 h2;subst h1;subst h2;show bindL kindOf ((p,w)::P.zip Z) m p=_;unfold bindL;rw[RM λv J=>(jE.mp nd).1 (List.of_mem_zip J).1,Zp hk];simp
 |p::P,w::Z,i+1,m,nd,h1,h2,hk=>by
  show bindL kindOf ((p,w)::P.zip Z) m x=_;unfold bindL;exact RN (i:=i) (jE.mp nd).2 (by simpa using h1) (by simpa using h2) hk
theorem RQ{kindOf:Str->Option NameKind}:∀{P:kZ}{Z:kX}{i:Nat}{m:Str->Option Value},P.Nodup->P[i]?=some x->Z[i]?=some v->kindOf x≠some .local->
  bindC kindOf (P.zip Z) m x=some v
 |[],_,_,_,_,h,_,_=>by simp at h
 |_::_,[],_,_,_,_,h,_=>by simp at h
 |p::P,w::Z,0,m,nd,h1,h2,hk=>by
  simp at h1 h2;subst h1;subst h2;show bindC kindOf ((p,w)::P.zip Z) m p=_;unfold bindC;rw[RO λv J=>(jE.mp nd).1 (List.of_mem_zip J).1,Zq hk];simp
 |p::P,w::Z,i+1,m,nd,h1,h2,hk=>by
  show bindC kindOf ((p,w)::P.zip Z) m x=_;unfold bindC;exact RQ (i:=i) (jE.mp nd).2 (by simpa using h1) (by simpa using h2) hk
def start(N:kZ)(vs:px):St:=vs.map some++ List.replicate (N.length-vs.length) none
def Vh(CX:CXT)(P:Program)(w:World)(K:W.Frag)(mg:Str->Option Value)(base:Heap)(N:kZ)(qual:Str)(scope:Scope)(f:Addr)(cd:Value)(A:Around)(outer:List Env)(s:Shared)(H:Hp)(E:XK):Cx where
 prog:=P
 w:=w
 K:=K
 mg:=mg
 base:=base
 A:=A.deeper (envOfC qual scope s.heap.objs.size f cd)
 N:=N
 s₀:=s
 H₀:=H
 env:=envOfC qual scope s.heap.objs.size f cd
 outer:=outer
 stack:=envOfC qual scope s.heap.objs.size f cd::outer
 ex:=[]
 calm:=true
 fn:=λ_=>true
 pn:=[]
 xe:=λe J=>wpAny (model P w) (A.deeper<|envOfC qual scope s.heap.objs.size f cd) (leaving (envOfC qual scope s.heap.objs.size f cd) e) (λ_ Z=>CX outer H s E e Z) (λG Z=>CX outer H s E G Z) J
def Nl{Z:Scope}(h:Z.names.lookup x=some .cell):∃c,(cellsFrom n Z.names []).lookup x=some c:=by
 have q:=W.cellsFrom_some Z.names n []<|.inl h;exact qj.mp q
def FS{C:CXT}{P:Program}{w:World}{K:W.Frag}(S:Yi N O scope)(j:A.handled=none)(J:Dv P w K F base A outer s H)(g:M.length=O.length)(r:Vals M D)(x:InCallC s s.heap.objs.size (bindL (envOfC qual scope s.heap.objs.size f cd).kindOf (O.zip D) λ_=>none) (cellsFrom (s.heap.objs.size+1) scope.names []) (bindC (envOfC qual scope s.heap.objs.size f cd).kindOf (O.zip D) λ_=>none) s1):
  Inv (Vh C P w K F base N qual scope f cd A outer s H E) [] (start N M) H s1:=by
 have Q:O.length<=N.length:=by have:=congrArg List.length S.pre;rw[ZN]at this;omega
 obtain⟨B,m,rfl,U⟩:=x.done;have G:∀b:Addr,b∉(Vh C P w K F base N qual scope f cd A outer s H E).ex:=λb z=>Zr (show b∈([]:pf)from z) (by simp);refine⟨⟨J.mod,S.kind,Y,Y,ZG _,λy z c B Z=>?_,λy L=>?_,λy c _ h=>?_,λ_=>j,Around.frames_deeper J.frames,.inr ⟨Y,Y⟩,λb z=>Zr z<|G b,J.bs,J.bsz,λb _ _=>G b,λb z=>Zr z<|G b,J.funs,J.frf⟩,
  rfl,J.bare,Un.kept U,⟨_,x.toInCall.ns,λi y v B Z d=>?_⟩,λy c h=>⟨_,x.cell y c h⟩,J.hok.fresh<|ZG _,λy c h=>?_,λp T=>Zr (show p∈([]:kU)from T) (by simp),J.hok.kept U,?_⟩
 .exact name_of_addr x.apart (jd B) (jd Z)
 .have L:scope.names.lookup y=some .cell\/scope.names.lookup y=some .free:=L
  rcases L with L|L
  .exact Nl L
  .exact Zr rfl (S.nofree _<|jd L)
 .exact Zh (x.above y c<|jd h)
 .have hi:i<M.length:=by
   unfold start at Z
   by_cases hi:i<M.length
   .exact hi
   .rw [vb (by simpa using hi)]at Z
    rw[jb]at Z
    split at Z <;> cases Z
  have t:M[i]?=some v:=by
   unfold start at Z;rw[vd (by simpa using hi),ZH]at Z
   cases e:M[i]? with
   |none=>rw[e]at Z;cases Z
   |some a=>rw[e]at Z;cases Z;rfl
  obtain⟨u,I,X⟩:=r.get t
  have T:O[i]?=some y:=by
   rw[<-S.pre,List.getElem?_take_of_lt (by omega)];exact B
  have R:O.Nodup:=by rw[<-S.pre];exact S.nd.sublist<|jg _ _
  exists u,X;rcases S.par y (ZJ T)with k|k
  .exact .inl ⟨k,RN R T I k⟩
  .obtain ⟨c,e⟩:=Nl (n:=s.heap.objs.size+1) k
   refine .inr ⟨.inl k,c,e,?_⟩;have q:=x.cell y c e;rw[RQ R T I (by show scope.names.lookup y≠_;rw[k];decide)]at q;exact q
 .exact J.hok.fresh (Zh<|x.above y c<|jd h)
 .unfold start
  show _=N.length;rw[ZL,ZA,List.length_replicate];omega
def QY{j:CXT}{P:Program}{K:W.Frag}{dV kV C a G ct oc:Value}(lk:K.lookup f=some ⟨oc,od,.func<|W.fnOf name qual params body scope dV kV C a an G ct,osl⟩)(l:W.codeIn K G qual=true)(S:Yi N g scope)(B:∀L H Q E,i L H Q E->L.length=g.length)(R:∀(A:Around)(Z:List Env)(s:Shared)(H:Hp)(L:px)(Q:VK)(E:XK),Vr k (A.deeper<|envOfC qual scope s.heap.objs.size f G)->i L H Q E->
   ∃t,PSs (Vh j P w K p base N qual scope f G A Z s H E) body t/\t {nx:=λ_ M=>Q .non M,rt:=Q} (start N L) H):
  Yf P w K p base j (k+1) f (W.fnOf name qual params body scope dV kV C a an G ct) g i:=by
 refine⟨B,λA Z s H args us L Q E d U hb r D=>?_⟩;have hl:=B _ _ _ _ D;have KX:K.In s.heap:=U.mod.kin.keeps λb o e=>(U.bs b o e).1;have c:s.heap.NoLimit:=U.mod.nolimit.keeps λb o e=>(U.bs b o e).1
 have O:∀y∈g.zip us,scope.names.lookup y.1=some .local\/(scope.names.lookup y.1=some .cell/\((cellsFrom (s.heap.objs.size+1) scope.names []).lookup y.1).isSome=true):=λ⟨n,v⟩ hy=>by
  rcases S.par n (List.of_mem_zip hy).1 with q|q
  .exact .inl q
  .exact .inr ⟨q,W.cellsFrom_some _ _ _<|.inl q⟩
 refine codeAny_call_function d.depth (KX _ _ lk) Y S.co S.gen Y (W.codeRec_of KX l) (hb _ _ _ _ ?_);refine wpAny_newFunctionEnv_cells S.kind O λJ2 he h x=>?_;subst he;refine⟨c.keeps x.toInCall.keep,codeAny_func ?_⟩;obtain⟨t,ht,hq⟩:=R A Z s H L Q E (d.deeper _) D;have I:Inv (Vh j P w K p base N qual scope f G A Z s H E) [] (start N L) H h:=FS S d.hd U hl r x;refine Zn (ht [] h (start N L) H _ I hq) (λfl z T=>?_) λe z T=>T
 have F:∀{X:St}{M:Hp}{v:V}{u:Value},Inv (Vh j P w K p base N qual scope f G A Z s H E) [] X M z->RelV v u->Q v M->CE Z P w H s Q u z:=
  λ{X M v u} J m q=>⟨v,M,J.os,J.bare,J.base,J.hok,m,q⟩
 cases fl with
 |ret u=>
  obtain⟨v,X,M,J,m,q⟩:=T;exact F J m q
 |next=>
  obtain⟨X,M,J,q⟩:=T;exact F (v:=V.non) (u:=Value.none) J Y q
 |brk=>
  obtain⟨_,_,_,q⟩:=T;exact False.elim q
 |cont=>
  obtain⟨_,_,_,q⟩:=T;exact False.elim q
end L2
namespace L2
open PySem PySem.Spec PyProof.Rows
section
variable{t:TA}{id T:String}{r:List V->Hp->VK->Prop}
def tCB(r:List V->Hp->VK->Prop)(t:TA):TE:=λU H Q=>t U H λZ J=>r Z J Q
def VF(S:UA X (.builtin id) r)(A:Gl X x)(F:X.mg x=none)(D:bootBuiltins x=some (.builtin id))(C:PA X (e::J) t)(E:x≠"__name__":=by decide)(L:(x==("__debug__":Str))=false:=by decide)(he:starEach (e::J) X.env=(false,eval e X.env)::starEach J X.env:=by rfl)(G:(backTo pos<|starEach J X.env).any (·.1)=false:=by rfl):PE X (.Call (.Name x p) (e::J) [] pos) (tCB r t):=by
 intro Z s U H Q I h;refine jR<|J6 I A F D ?_ E L;exact PyProof.Rows.callWith_builtin1 (thn (C pos Z s U H _ I h) λN O ⟨M,j,P,R,B⟩=>S Z O U j M N Q P R B) he G
def Ve(C:UA X (.type T) r)(A:Gl X x)(F:X.mg x=none)(D:bootBuiltins x=some (.type T))(P:PA X (e::J) t)(E:x≠"__name__":=by decide)(L:(x==("__debug__":Str))=false:=by decide)(S:starEach (e::J) X.env=(false,eval e X.env)::starEach J X.env:=by rfl)(G:(backTo pos<|starEach J X.env).any (·.1)=false:=by rfl):PE X (.Call (.Name x p) (e::J) [] pos) (tCB r t):=by
 intro Z s U H Q I h;refine jR<|J6 I A F D ?_ E L;exact vq (thn (P pos Z s U H _ I h) λN O ⟨M,y,j,R,B⟩=>C Z O U y M N Q j R B) S G
end
end L2
namespace HT
open PySem PyProof.Rows
section
open PySem.SeqAt
open PySem.AutoSeq1 (wpAny_loadPart')
open PySem.MeetsSeq PySem.MeetsSeq2 PySem.MeetsSeq3
end
section
def cat_tup(X:IsTup s.heap t G.toArray)(P:IsTup s.heap b Z.toArray)(F:G≠[])(y:Z=[]->Q (.ref t) s)(j:Z≠[]->Q (.ref s.heap.objs.size) {s with heap:=s.heap.push {cls:=.type "tuple",data:=.seq (G++ Z).toArray}})(T:G.length+Z.length<=sizeLine):wpAny (model prog w) A (binaryOp .Add (.ref t)<|.ref b) Q E s:=by
 obtain⟨⟨B,U,data,sl⟩,R,S,n,I⟩:=id X;obtain⟨⟨C,O,data2,L⟩,J,N,D,M⟩:=id P;simp only at S I N M;subst S I N M;have e:G.toArray++ Z.toArray=(G++ Z).toArray:=by simp
 by_cases hw:Z=[]
 .exact concat_meets ⟨_,R,rfl⟩ ⟨_,J,rfl⟩ noFill_tuple_add seq_tuple_add qw qm (qk _ _)
   (tuple_addW1 t b G.toArray Z.toArray n D U O sl L (by simpa using F)<|by simp[hw]) ⟨R,J,y hw⟩
 .refine concat_meets ⟨_,R,rfl⟩ ⟨_,J,rfl⟩ noFill_tuple_add seq_tuple_add qw qm (qk _ _)
   (tuple_addW2 t b G.toArray Z.toArray n D U O sl L (by simpa using F) (by simpa using hw) (by rw[ZO,ZO];exact T)) ⟨R,J,?_⟩
  rw[e];exact j hw
def sIx(n d:Nat):Option Int->Nat
 |none=>d
 |some v=>if v<0 then(v+(n:Int)).toNat else min v.toNat n
def sIx_none(n d:Nat):sIx n d none=d:=rfl
def sIx_nat(n d k:Nat):sIx n d (some (k:Int))=min k n:=by
 show(if(k:Int)<0 then((k:Int)+(n:Int)).toNat else min (k:Int).toNat n)=min k n;rw[Zq (by omega),js]
def SS(n d:Nat)(Z:d<=n)(o:Option Int):sIx n d o<=n:=by
 cases o with
 |none=>exact Z
 |some v=>
  show(if v<0 then(v+(n:Int)).toNat else min v.toNat n)<=n
  by_cases hv:v<0
  .rw [Zp hv];omega
  .rw [Zq hv];exact Nat.min_le_right _ _
def Et(v:Int)(n d:Nat):(if v<0 then max (v+(n:Int)) 0 else min v (n:Int))=((sIx n d (some v):Nat):Int):=by
 show(if v<0 then max (v+(n:Int)) 0 else min v (n:Int))=(((if v<0 then(v+(n:Int)).toNat else min v.toNat n):Nat):Int)
 by_cases hv:v<0
 .simp only[Zp hv];omega
 .simp only[Zq hv];omega
def Dt(Z J:Option Int)(n:Nat):Builtin.Slice.sliceAdjust Z J 1 (n:Int)=(((sIx n 0 Z:Nat):Int),((sIx n n J:Nat):Int)):=by
 have G:¬((1:Int)<0):=by omega
 unfold Builtin.Slice.sliceAdjust;simp only[G,if_false];refine Prod.ext ?_ ?_
 .cases Z with
  |none=>rfl
  |some v=>exact Et v n 0
 .cases J with
  |none=>rfl
  |some v=>exact Et v n n
def Bs(i j:Nat):Builtin.Slice.slicePlaces (i:Int) (j:Int) 1=j-i:=by
 unfold Builtin.Slice.slicePlaces;have Z:(1:Int) > 0:=by omega
 simp only[Z,if_true,Int.ediv_one]
 split <;> omega
def GX(p:IsPart v o)(h:Q o s):wpAny (model prog w) A (Builtin.Slice.slicePartIndex v) Q E s:=by
 cases p with
 |none=>exact slicePart_none h
 |int i t=>exact slicePart_int h
def WJ{Z G:Option Int}{n:Nat}(O:s.heap.IsSliceOf sl vl vu .none)(N:IsPart vl Z)(M:IsPart vu G)(h:Q (((sIx n 0 Z:Nat):Int),1,sIx n n G-sIx n 0 Z) s):wpAny (model prog w) A (Builtin.Slice.sliceApplied (.ref sl)<|pure (n:Int)) Q E s:=by
 obtain⟨T,J,R,L⟩:=id O;unfold Builtin.Slice.sliceApplied Builtin.Slice.sliceFields;refine Zl<|Zl<|Zo J L (x:=vl) rfl (Zl<|Zo J L (x:=vu) rfl (Zl<|Zo J L (x:=.none) rfl (Zm ?_)));refine Zl<|slicePart_none ?_;show wpAny _ _ (if((1:Int)==0)=true then _ else _) _ _ s;rw[Zq (by decide)];refine Zl<|GX N<|Zl<|GX M<|Zl<|Zm ?_;show wpAny _ _ (match Builtin.Slice.sliceAdjust Z G 1 (n:Int)with|(Z,G)=>pure (Z,(1:Int),Builtin.Slice.slicePlaces Z G 1)) _ _ s;rw[Dt Z G n];show wpAny _ _ (pure (((sIx n 0 Z:Nat):Int),(1:Int),Builtin.Slice.slicePlaces ((sIx n 0 Z:Nat):Int) ((sIx n n G:Nat):Int) 1)) _ _ s;rw[Bs];exact Zm h
def Iv(Z:Array Value)(i k:Nat):((List.range k).filterMap λ(m:Nat)=>Z[((i:Int)+(m:Int)*1).toNat]?).toArray=((Z.toList.drop i).take k).toArray:=by
 have e:(λ(m:Nat)=>Z[((i:Int)+(m:Int)*1).toNat]?)=λm=>Z[i+m]?:=by
  funext m
  have:((i:Int)+(m:Int)*1).toNat=i+m:=by omega
  rw[this]
 rw[e];have:=pick_run Z i k;rw[List.filterMap_map]at this;have J:((λx=>Z[x]?) ∘ λx=>i+x)=λm=>Z[i+m]?:=rfl;rw[J]at this;rw[this]
def getItem_tuple_cut{J G:Option Int}(L:IsTup s.heap t items)(T:s.heap.IsSliceOf sl vl vu .none)(D:IsPart vl J)(B:IsPart vu G)(I:¬(sIx items.size 0 J=0/\sIx items.size items.size G=items.size))(h:Q (.ref s.heap.objs.size) {s with heap:=s.heap.push {cls:=.type "tuple",data:=.seq ((items.toList.drop<|sIx items.size 0 J).take<|sIx items.size items.size G-sIx items.size 0 J).toArray}})(S:items.size<=sizeLine):wpAny (model prog w) A (getItem (.ref t)<|.ref sl) Q E s:=by
 have Z:sizeOk (.seq ((items.toList.drop<|sIx items.size 0 J).take<|sIx items.size items.size G-sIx items.size 0 J).toArray):=by
  show((items.toList.drop<|sIx items.size 0 J).take<|sIx items.size items.size G-sIx items.size 0 J).toArray.size<=sizeLine;rw[ZO,ZN,jz,j3];omega
 have P:sIx items.size items.size G<=items.size:=SS _ _ (ZG _) G;obtain⟨F,M,O,U⟩:=id T;have R:s.TypeIs (.ref sl) "slice":=⟨F,M,O⟩;unfold getItem
 try with_reducible refine wpAny_holding ?_
 first|refine Zl (Zm ?_)|skip
 refine Zl<|wpAny_sequenceKey L.typeIs (by decide) ?_;refine Zl (wpAny_callSpecial?_slot (name:=Str.ofString "__getitem__") L.typeIs kM
  (vo kM L.typeIs entry_tuple_getitem ?_<|args_tuple_getitem _ _))
 show wpAny _ _ (Builtin.Tuple.tupleItemsOf (.ref t) >>=_) _ _ s;refine Zl<|tupleItemsOf_ L ?_;refine Zl<|qQ R ?_;rw[Zp (by decide)];refine Zl<|WJ T D B ?_
 have N:¬((((sIx items.size 0 J:Nat):Int)==0 && (1:Int)==1 && (sIx items.size items.size G-sIx items.size 0 J)==items.size)=true):=by
  intro q;rw[ZZ,ZZ]at q;have X:((sIx items.size 0 J:Nat):Int)=0:=eq_of_beq q.1.1;have C:sIx items.size items.size G-sIx items.size 0 J=items.size:=eq_of_beq q.2;exact I ⟨by omega,by omega⟩
 show wpAny _ _ (if(((sIx items.size 0 J:Nat):Int)==0 && (1:Int)==1 && (sIx items.size items.size G-sIx items.size 0 J)==items.size)=true then _ else _) _ _ s;rw[Zq N,Iv]
 first
  |exact Zl (m:=Builtin.Tuple.tupleExact _)<|vP (Zm ⟨_,rfl,Zm h⟩) Z
  |exact Zl (m:=Builtin.Tuple.tupleExact _)<|vP (Zl<|Zm<|Zm ⟨_,rfl,Zm h⟩) Z
  |exact Zl<|Zl (m:=Builtin.Tuple.tupleExact _)<|vP (Zm<|Zm ⟨_,rfl,Zm h⟩) Z
  |exact Zl<|Zl (m:=Builtin.Tuple.tupleExact _)<|vP (Zm ⟨_,rfl,Zm h⟩) Z
end
end HT
namespace L2
open PySem PySem.Spec PyProof.Rows
abbrev TO:=St->Hp->(Option Int->Hp->Prop)->Prop
def PO(X:Cx)(e:Option Expr)(t:TO):Prop:=
 ∀(Z:kU)(s:Shared)(U:St)(H:Hp)(Q:Option Int->Hp->Prop),Inv X Z U H s->t U H Q->
  wpAny (model X.prog X.w) X.A (evalPart e X.env) (λu G=>∃o J,Inv X Z U J G/\IsPart u o/\Q o J) X.xe s
def OD:TO:=λ_ H Q=>Q none H
def A0(t:TE):TO:=λU H Q=>t U H λx Z=>∃i,x=.int i/\Q (some i) Z
section
variable{X:Cx}{te:TE}{lo hi:Option Expr}{tl th:TO}
def JZ:PO X none OD:=by
 intro Z s U H Q I h;rw[evalPart_none];exact Zm ⟨none,H,I,.none,h⟩
def JY(h:PE X e te):PO X (some e) (A0 te):=by
 intro Z s U H Q I L;rw[evalPart_some];refine thn (h Z s U H _ I L) λu O ⟨x,N,M,J,G⟩=>?_;obtain⟨i,rfl,q⟩:=G;obtain⟨t,rfl⟩:=J;exact⟨some i,N,M,.int i t,q⟩
def SlR(X:Cx)(r:V->Option Int->Option Int->Hp->VK->Prop):Prop:=
 ∀(Z:kU)(s:Shared)(U:St)(H:Hp)(x:V)(v G J:Value)(lo hi:pc)(sl:Addr)(Q:VK),Inv X Z U H s->RelV x v->s.heap.IsSliceOf sl G J .none->IsPart G lo->IsPart J hi->r x lo hi H Q->
  ∃T L,typeLookup (.type T) "__getitem__"=pure (some<|.builtin L)/\s.TypeIs v T/\wpAny (model X.prog X.w) X.A (getItem v<|.ref sl) (EP X Z U Q) X.xe s
def tSl(r:V->Option Int->Option Int->Hp->VK->Prop)(te:TE)(tl th:TO):TE:=λU H Q=>te U H λx G=>tl U G λl J=>th U J λu Z=>r x l u Z Q
def JA(P:SlR X r)(z:PE X e te)(j:PO X lo tl)(S:PO X hi th):PE X (.Subscript e (.Slice lo hi none p2) pos) (tSl r te tl th):=by
 intro Z s U H Q I h;refine Subscript_<|thn (z Z s U H _ I h) λv O ⟨x,d,p,R,E⟩=>?_;refine wpAny_Slice<|thn (j Z O U d _ p E) λL N ⟨l,c,k,A,D⟩=>thn (S Z N U c _ k D) λG J ⟨u,M,g,F,B⟩=>?_;rw[evalPart_none];refine Zm ?_;have m:Inv X Z U M {J with heap:=J.heap.push {cls:=.type "slice",data:=.fields #[L,G,.none]}}:=g.kept (t':=J.toks) λb f q=>ZE _ q;obtain⟨T,w,t,C,y⟩:=P Z {J with heap:=J.heap.push {cls:=.type "slice",data:=.fields #[L,G,.none]}} U M x v L G l u J.heap.objs.size Q m R (Heap.IsSliceOf.new ..) A F B;show wpAny (model X.prog X.w) X.A (subscriptTail e (.Slice lo hi none p2) v<|.ref J.heap.objs.size) (EP X Z U Q) X.xe {J with heap:=J.heap.push {cls:=.type "slice",data:=.fields #[L,G,.none]}};exact tail_any (ops:=[.ref J.heap.objs.size,v]) C t y<|by with_unfolding_all rfl
def Uo(xs:px)(lo hi:pc):px:=(xs.drop<|HT.sIx xs.length 0 lo).take<|HT.sIx xs.length xs.length hi-HT.sIx xs.length 0 lo
def Wo(Z:px)(lo hi:pc):(Uo Z lo hi).length<=Z.length:=by
 unfold Uo;rw[ZN,jz];omega
def yS(K:W.Frag):V->Option Int->Option Int->Hp->VK->Prop:=λx lo hi H Q=>∃a Z,x=.ref a/\SqT K H a Z/\
 ¬(HT.sIx Z.length 0 lo=0/\HT.sIx Z.length Z.length hi=Z.length)/\∀p,H p=none->Q (.ref p) (upd H p<|.tup<|Uo Z lo hi)
def IS:SlR X (yS X.K):=by
 intro L s U H x v A F lo hi sl Q I O E T R h;obtain⟨a,J,rfl,B,D,q⟩:=h;cases O;obtain⟨G,r,N,M⟩:=I.tuple B;have Z:G.toArray.size=J.length:=by rw[ZO];exact r.length.symm
 exists "tuple",_,PyProof.Rows.slot_tuple_getitem.lookup,N.typeIs;refine HT.getItem_tuple_cut N E T R (by rw[Z];exact D) ?_ (by rw[Z];exact M);rw[Z];refine⟨.ref s.heap.objs.size,_,I.laid (t':=s.toks) (o:=.tup<|Uo J lo hi) (λb S q=>ZE _ q) (ZG _) ?_,rfl,q _<|I.hok.fresh<|ZG _⟩;exact⟨Zb (Wo J lo hi) M,_,(r.drop<|HT.sIx J.length 0 lo).take<|HT.sIx J.length J.length hi-HT.sIx J.length 0 lo,Wt.new _ _⟩
def Uw(K:W.Frag):R2:=λx y H Q=>∃a b J Z,x=.ref a/\y=.ref b/\SqT K H a J/\SqT K H b Z/\J≠[]/\J.length+Z.length<=sizeLine/\
 (Z=[]->Q (.ref a) H)/\(Z≠[]->∀p,H p=none->Q (.ref p) (upd H p<|.tup<|J++ Z))
def Vals.nil_iff(r:Vals Z J):J=[]↔Z=[]:=by
 cases r with
 |nil=>simp
 |cons _ _=>simp
def ET:OpR X (binaryOp .Add) (Uw X.K):=by
 intro G s U H x y v u Q I T R h;obtain⟨a,b,O,N,rfl,rfl,P,C,S,M,D,B⟩:=h;cases T;cases R;obtain⟨A,J,F,_⟩:=I.tuple P;obtain⟨L,Z,E,_⟩:=I.tuple C;refine HT.cat_tup F E (λz=>S<|J.nil_iff.mp z) (λz=>⟨.ref a,H,I,rfl,D<|Z.nil_iff.mp z⟩) (λz=>?_) (by rw[<-J.length,<-Z.length];exact M);refine⟨.ref s.heap.objs.size,_,I.laid (t':=s.toks) (o:=.tup<|O++ N) (λb j q=>ZE _ q) (ZG _) ?_,rfl,B (λw=>z<|Z.nil_iff.mpr w) _<|I.hok.fresh<|ZG _⟩;exact⟨by rw[ZL];exact M,_,J.append Z,Wt.new _ _⟩
end
def ixN(n:Nat)(i:Int):Option Nat:=if 0<=i then(if i<n then some i.toNat else none)else if -(n:Int)<=i then some (i+n).toNat else none
def atI{α:Type}(xs:List α)(i:Int):Option α:=(ixN xs.length i).bind λj=>xs[j]?
def Ed(h:ixN n i=some j):seqIndex? i n=some j/\j<n/\ -(n:Int)<=i/\i<n:=by
 unfold ixN at h
 by_cases h0:0<=i
 .rw [Zp h0]at h
  by_cases h1:i<n
  .rw [Zp h1]at h
   have e:i.toNat=j:=ZT h;exact⟨by rw[seqIndex_of h0 h1,e],by omega,by omega,h1⟩
  .rw [Zq h1]at h;cases h
 .rw [Zq h0]at h
  by_cases h1: -(n:Int)<=i
  .rw [Zp h1]at h
   have e:(i+n).toNat=j:=ZT h;exact⟨by rw[seqIndex_neg (by omega) h1,e],by omega,h1,by omega⟩
  .rw [Zq h1]at h;cases h
def W7(h:atI Z i=some v):∃j,seqIndex? i Z.length=some j/\Z[j]?=some v/\j<Z.length/\ -(Z.length:Int)<=i/\i<Z.length:=by
 unfold atI at h
 cases e:ixN Z.length i with
 |none=>rw[e]at h;cases h
 |some j=>
  rw[e]at h;obtain⟨M,L,G,J⟩:=Ed e;exact⟨j,M,h,L,G,J⟩
def VC{Z:List α}{j:Nat}{v:α}(h:Z[j]?=some v):atI Z (j:Int)=some v:=by
 have J:j<Z.length:=(ZF.mp h).1
 have e:ixN Z.length (j:Int)=some j:=by
  unfold ixN;rw[Zp (by omega),Zp (by omega)];simp
 unfold atI;rw[e];exact h
def Td(Z:List α)(v:α):atI (Z++[v]) (-1)=some v:=by
 have J:(Z++[v]).length=Z.length+1:=by simp
 have e:ixN (Z++[v]).length (-1)=some Z.length:=by
  unfold ixN;rw[J,Zq<|by decide,Zp (by omega)]
  congr 1
  omega
 unfold atI;rw[e];show(Z++[v])[Z.length]?=some v;simp
def P5(b:Expr):Prop:=∀o i,subscripted b false o i=operate [o,i] (getItem o i)
def IxR(X:Cx)(r:R2):Prop:=
 ∀(value slice:Expr)(Z:kU)(s:Shared)(U:St)(H:Hp)(x y:V)(v u:Value)(Q:VK),Inv X Z U H s->RelV x v->RelV y u->r x y H Q->
  subscripted slice false v u=operate [v,u] (getItem v u)->wpAny (model X.prog X.w) X.A (subscriptTail value slice v u) (EP X Z U Q) X.xe s
def MtR(X:Cx)(id:String)(r:V->List V->Hp->VK->Prop):Prop:=
 ∀(Z:kU)(s:Shared)(U:St)(H:Hp)(x:V)(J:px)(v:Value)(G:kX)(Q:VK),Inv X Z U H s->RelV x v->Vals J G->r x J H Q->
  wpAny (model X.prog X.w) X.A (call (.builtin id) (v::G)) (EP X Z U Q) X.xe s
section
variable{a b:Expr}{ta tb:TE}
def Ys(N:IxR X r)(R:PE X a ta)(O:PE X b tb)(M:P5 b:=by exact λ_ _=>Y):PE X (.Subscript a b pos) (tOp r ta tb):=by
 intro Z s U H Q I h;exact Subscript_<|Ai R O I h λv u J x y B T L G q=>N a b Z J U B x y v u Q T L G q<|M _ _
def Ob(K:W.Frag):R2:=λx y H Q=>V9 x λp=>U3 y λi=>∃Z v,SqL K H p Z/\atI Z i=some v/\Q v H
def Ob.old{K:W.Frag}(h:Ob K x y H Q):∃p Z i v,x=.ref p/\y=.int i/\SqL K H p Z/\atI Z i=some v/\Q v H:=by
 replace h:=V9.old h;obtain⟨p,e,h⟩:=h;replace h:=U3.old h;obtain⟨i,J,Z,v,h⟩:=h;exact⟨p,Z,i,v,e,J,h⟩
def Vy(K:W.Frag):R2:=λx y H Q=>V9 x λp=>U3 y λi=>∃Z v,SqT K H p Z/\atI Z i=some v/\Q v H
def Vy.old{K:W.Frag}(h:Vy K x y H Q):∃p Z i v,x=.ref p/\y=.int i/\SqT K H p Z/\atI Z i=some v/\Q v H:=by
 replace h:=V9.old h;obtain⟨p,e,h⟩:=h;replace h:=U3.old h;obtain⟨i,J,Z,v,h⟩:=h;exact⟨p,Z,i,v,e,J,h⟩
def CV:R2:=λx y H Q=>∃z i c,x=.str z/\y=.int i/\z.length<=sizeLine/\atI z.cps.toList i=some c/\Q (.str ⟨#[c]⟩) H
def VI:IxR X (Ob X.K):=by
 intro value slice Z s U H x y v u Q I D B h O;replace h:=Ob.old h;obtain⟨p,m,i,z,rfl,rfl,E,A,q⟩:=h;cases D;obtain⟨t,rfl⟩:=B;obtain⟨N,r,M,g⟩:=I.list E;obtain⟨j,G,P,c,C,S⟩:=W7 A;obtain⟨w,R,L⟩:=r.get P;have F:=r.length;have k:=WY;have J:EP X Z U Q w s:=⟨z,H,I,L,q⟩
 by_cases h0:0<=i
 .have hj:i.toNat=j:=by
   rw[seqIndex_of h0 S]at G;exact ZT G
  exact item_listR M.isList h0 (by omega) (by rw[hj];simpa using R) J O
 .have hj:(i+(N.toArray.size:Int)).toNat=j:=by
   rw[seqIndex_neg (by omega) C]at G;rw[ZO,<-F];exact ZT G
  exact subscriptTail_builtinR (x:=w) M.isList.typeIs slot_list_getitem.lookup
   (wpAny_getItem_list_neg (Q:=λr T=>r=w/\EP X Z U Q r T) M.isList (by omega) (by rw[ZO] <;> omega) (by omega) (by rw[hj];simpa using R) ⟨rfl,J⟩) O
def Yy:IxR X (Vy X.K):=by
 intro value slice Z s U H x y v u Q I O N h T;replace h:=Vy.old h;obtain⟨p,C,i,z,rfl,rfl,B,E,q⟩:=h;cases O;obtain⟨t,rfl⟩:=N;obtain⟨R,r,L,P⟩:=I.tuple B;obtain⟨j,A,F,c,k,g⟩:=W7 E;obtain⟨w,S,J⟩:=r.get F;have D:=r.length;have m:=WY;have G:EP X Z U Q w s:=⟨z,H,I,J,q⟩;exact subscriptTail_builtinR (x:=w) L.typeIs slot_tuple_getitem.lookup
  (getItem_tuple (j:=j) (Q:=λr M=>r=w/\EP X Z U Q r M) L (by omega) (by omega) (by rw[ZO,<-D];exact A) (by simpa using S) ⟨rfl,G⟩) T
def DJ:IxR X CV:=by
 intro value slice Z s U H x y v u Q I L G h M;obtain⟨z,i,c,rfl,rfl,A,O,q⟩:=h;obtain⟨t,rfl⟩:=L;obtain⟨F,rfl⟩:=G;obtain⟨j,J,B,C,T,R⟩:=W7 O;have N:z.cps.toList.length=z.length:=by simp[Str.length]
 rw[N]at J T R;have S:=WY
 exact tail_any (typeIs_str s z t) slot_str_getitem.lookup (getItem_str (c:=c) (by
  have E:decide (i < -(2 ^ 63:Int))=false:=Zy (by omega);have D:decide (i ≥ 2 ^ 63)=false:=Zy (by omega);rw[E,D,Bool.or_false]) (by rw[J];simpa using B) ⟨.str ⟨#[c]⟩,H,I.tok _,⟨_,rfl⟩,q⟩) M
def B8(Z:kX)(n j:Nat)(u:Value):Obj.mapSeq (·.setIfInBounds j u) {cls:=.type "list",data:=.seq Z.toArray n}={cls:=.type "list",data:=.seq (Z.set j u).toArray n}:=by
 simp[Obj.mapSeq]
def Inv.lst(I:Inv X G U H s)(h:H p=some (.lst J)):
  ∃(Z:kX)(n:Nat),Vals J Z/\s.heap.get? p=some {cls:=.type "list",data:=.seq Z.toArray n}/\J.length<=sizeLine:=by
 obtain⟨z,Z,n,r,e⟩:=I.hok p _ h;exact⟨Z,n,r,e,z⟩
def Inv.lstUpd{G Z:kX}(I:Inv X J U H s)(h:H p=some (.lst T))(O:s.heap.get? p=some {cls:=.type "list",data:=.seq G.toArray n})(M:f {cls:=.type "list",data:=.seq G.toArray n}={cls:=.type "list",data:=.seq Z.toArray n'})(r:Vals L Z)(N:L.length<=sizeLine)(t:Nat):
  Inv X J U (upd H p<|.lst L) {s with heap:=s.heap.update p f,toks:=t}:=by
 have e:(s.heap.update p f).get? p=some {cls:=.type "list",data:=.seq Z.toArray n'}:=by
  rw[qY f O (by rw[M] <;> rfl),M]
 refine I.write (x:=p) (e:=p) (by rw[h];trivial) (.inl Y) (λb u R q=>(Heap.get?_update_other _ _<|Zs R).trans q) ⟨_,e⟩ ?_;exact⟨N,Z,n',r,e⟩
def CT:V->V->V->Hp->(Hp->Prop)->Prop:=λo i v H Q=>∃p Z k j,o=.ref p/\i=.int k/\H p=some (.lst Z)/\ixN Z.length k=some j/\Q (upd H p<|.lst<|Z.set j v)
def set_list:zg X CT:=by
 intro Z s U H o i v C P u Q I E F D h;obtain⟨p,B,k,j,rfl,rfl,N,S,q⟩:=h;cases E;obtain⟨t,rfl⟩:=F;obtain⟨J,n,r,L,A⟩:=I.lst N;obtain⟨G,z,R,O⟩:=Ed S;have M:=r.length;have y:=WY
 have T:Inv X Z U (upd H p<|.lst<|B.set j v) {s with heap:=s.heap.update p (Obj.mapSeq (·.setIfInBounds j u))}:=
  I.lstUpd N L (B8 J n j u) (r.set D j) (by rw[List.length_set];exact A) s.toks
 by_cases h0:0<=k
 .have hk:k.toNat=j:=by
   rw[seqIndex_of h0 O]at G;exact ZT G
  exact W.ki_setAt L h0 (by omega) (by rw[ZO,<-M];exact O) (by rw[hk];exact⟨_,T,q⟩)
 .have hk:(k+(J.toArray.size:Int)).toNat=j:=by
   rw[seqIndex_neg (by omega) R]at G;rw[ZO,<-M];exact ZT G
  exact W.ki_setBack L (by omega) (by rw[ZO,<-M];exact R) (by omega) (by rw[hk];exact⟨_,T,q⟩)
def Ru(Z J:pc)(n:Nat):(sliceBounds Z J none n).1=((HT.sIx n 0 Z:Nat):Int)/\(sliceBounds Z J none n).2.1=((HT.sIx n n J:Nat):Int)/\(sliceBounds Z J none n).2.2=1:=by
 refine⟨?_,?_,Y⟩
 .cases Z with
  |none=>simp[sliceBounds,HT.sIx]
  |some i=>
   simp only[sliceBounds,HT.sIx,Option.getD_none,show(1:Int) > 0 by decide,if_true]
   by_cases h:i<0
   .simp only[h,if_true] <;> omega
   .simp only[h,if_false] <;> omega
 .cases J with
  |none=>simp[sliceBounds,HT.sIx]
  |some i=>
   simp only[sliceBounds,HT.sIx,Option.getD_none,show(1:Int) > 0 by decide,if_true]
   by_cases h:i<0
   .simp only[h,if_true] <;> omega
   .simp only[h,if_false] <;> omega
def Th(Z:kX)(J G:pc):slicePick Z.toArray J G none=((Z.drop<|HT.sIx Z.length 0 J).take<|HT.sIx Z.length Z.length G-HT.sIx Z.length 0 J).toArray:=by
 obtain⟨N,M,L⟩:=Ru J G Z.toArray.size;unfold slicePick;rw[N,M,L];simp only[sliceRange_one,pick_run,ZO] <;> rfl
def yU(K:W.Frag):V->Option Int->Option Int->Hp->VK->Prop:=λx J G H Q=>∃a Z,x=.ref a/\SqL K H a Z/\∀p,H p=none->Q (.ref p) (upd H p<|.lst<|Uo Z J G)
def Wx:SlR X (yU X.K):=by
 intro M s U H x v S A G L sl Q I O F T R h;obtain⟨a,Z,rfl,E,q⟩:=h;cases O;obtain⟨B,r,N,D⟩:=I.list E;have J:=r.length;exists "list",_,slot_list_getitem.lookup,N.isList.typeIs;refine wpAny_getItem_list_slice N.isList F T R .none (by simp) ?_ (by rw[ZO] <;> omega);rw[Th,<-J];refine⟨.ref s.heap.objs.size,_,I.laid (t':=s.toks) (o:=.lst<|Uo Z G L) (λb C q=>ZE _ q) (ZG _) ?_,rfl,q _<|I.hok.fresh<|ZG _⟩;exact⟨Zb (Wo Z G L) D,_,0,(r.drop<|HT.sIx Z.length 0 G).take<|HT.sIx Z.length Z.length L-HT.sIx Z.length 0 G,ZY _ rfl⟩
def UJ:V->Bool
 |.non=>true
 |.bl _=>true
 |.int _=>true
 |.str _=>true
 |_=>false
def eqV:V->V->Bool
 |.non,.non=>true
 |.bl a,.bl b=>a==b
 |.bl a,.int b=>(if a then 1 else 0)==b
 |.int a,.bl b=>a==(if b then 1 else 0)
 |.int a,.int b=>a==b
 |.str a,.str b=>a==b
 |_,_=>false
def Ac(G:RelV y u)(Z:RelV x v)(M:UJ y=true)(L:UJ x=true):SeqAt.EqAt A s u v (eqV y x):=by
 cases y with
 |non=>
  cases G
  cases x with
  |non=>cases Z;exact SeqAt.EqAt.same _
  |bl b=>cases Z;exact SeqAt.EqAt.none_bool b
  |int b=>obtain⟨t,rfl⟩:=Z;exact SeqAt.EqAt.none_int b t
  |str b=>obtain⟨t,rfl⟩:=Z;exact SeqAt.EqAt.none_str b t
  |_=>exact Zr (show false=true from L) Zi
 |bl a=>
  cases G
  cases x with
  |non=>cases Z;exact SeqAt.EqAt.bool_none a
  |bl b=>cases Z;exact SeqAt.EqAt.bool_bool a b
  |int b=>obtain⟨t,rfl⟩:=Z;exact SeqAt.EqAt.bool_int a b t
  |str b=>obtain⟨t,rfl⟩:=Z;exact SeqAt.EqAt.bool_str a b t
  |_=>exact Zr (show false=true from L) Zi
 |int a=>
  obtain⟨J,rfl⟩:=G
  cases x with
  |non=>cases Z;exact SeqAt.EqAt.int_none a J
  |bl b=>cases Z;exact SeqAt.EqAt.int_bool a J b
  |int b=>obtain⟨t,rfl⟩:=Z;exact SeqAt.EqAt.int_int a J b t
  |str b=>obtain⟨t,rfl⟩:=Z;exact SeqAt.EqAt.int_str a J b t
  |_=>exact Zr (show false=true from L) Zi
 |str a=>
  obtain⟨J,rfl⟩:=G
  cases x with
  |non=>cases Z;exact SeqAt.EqAt.str_none a J
  |bl b=>cases Z;exact SeqAt.EqAt.str_bool a J b
  |int b=>obtain⟨t,rfl⟩:=Z;exact SeqAt.EqAt.str_int a J b t
  |str b=>obtain⟨t,rfl⟩:=Z;exact SeqAt.EqAt.str_str a J b t
  |_=>exact Zr (show false=true from L) Zi
 |_=>exact Zr (show false=true from M) Zi
def eqU(x:V)(u:Value):Bool:=match u with
 |.none=>eqV .non x
 |.bool b=>eqV (.bl b) x
 |.int i _=>eqV (.int i) x
 |.str z _=>eqV (.str z) x
 |_=>false
def Dg(r:RelV y u)(f:UJ y=true):eqU x u=eqV y x:=by
 cases y with
 |non=>cases r;rfl
 |bl b=>cases r;rfl
 |int i=>obtain⟨t,rfl⟩:=r;rfl
 |str z=>obtain⟨t,rfl⟩:=r;rfl
 |_=>exact Zr (show false=true from f) Zi
theorem X3:∀{Z:px}{J:kX},Vals Z J->Z.all UJ=true->J.any (eqU x)=Z.any λy=>eqV y x
 |_,_,.nil,_=>rfl
 |y::Z,u::J,.cons r t,f=>by
  rw[qU,ZZ]at f;rw[ql,ql,Dg r f.1,X3 t f.2]
theorem UP(L:RelV x v)(M:UJ x=true):∀{J:px}{G:kX},Vals J G->J.all UJ=true->∀u∈G,SeqAt.EqAt A s u v<|eqU x u
 |_,_,.nil,_=>λu Z=>by cases Z
 |y::J,u::G,.cons r t,f=>λN Z=>by
  rw[qU,ZZ]at f;rcases Zd.mp Z with rfl|Z
  .rw [Dg r f.1];exact Ac r L f.1 M
  .exact UP L M t f.2 N Z
def inV(x:V)(xs:px):Bool:=xs.any λy=>eqV y x
def rIn(K:W.Frag)(neg:Bool):R2:=λx y H Q=>∃p Z,y=.ref p/\(SqL K H p Z\/SqT K H p Z)/\UJ x=true/\Z.all UJ=true/\Q (.bl<|if neg then !inV x Z else inV x Z) H
def XF:OpR X (compareOp .In) (rIn X.K false):=by
 intro M s U H x y v u Q I L O h;obtain⟨p,R,rfl,Z,N,J,q⟩:=h;cases O;rcases Z with Z|Z
 .obtain ⟨its,r,pl,hz⟩:=I.list Z
  refine SeqAt.in_listAt (eqU x) pl.isList (λw G=>UP L N r J w<|by simpa using G) ⟨.bl _,H,I,rfl,?_⟩;rw[show its.toArray.any (eqU x)=its.any (eqU x) by simp,X3 r J];exact q
 .obtain ⟨its,r,pl,hz⟩:=I.tuple Z
  refine SeqAt.in_tupleAt (eqU x) pl (λw G=>UP L N r J w<|by simpa using G) ⟨.bl _,H,I,rfl,?_⟩;rw[show its.toArray.any (eqU x)=its.any (eqU x) by simp,X3 r J];exact q
def Jb:OpR X (compareOp .NotIn) (rIn X.K true):=by
 intro M s U H x y v u Q I L O h;obtain⟨p,R,rfl,Z,N,J,q⟩:=h;cases O;rcases Z with Z|Z
 .obtain ⟨its,r,pl,hz⟩:=I.list Z
  refine SeqAt.notIn_listAt (eqU x) pl.isList (λw G=>UP L N r J w<|by simpa using G) ⟨.bl _,H,I,rfl,?_⟩;rw[show its.toArray.any (eqU x)=its.any (eqU x) by simp,X3 r J];exact q
 .obtain ⟨its,r,pl,hz⟩:=I.tuple Z
  refine SeqAt.notIn_tupleAt (eqU x) pl (λw G=>UP L N r J w<|by simpa using G) ⟨.bl _,H,I,rfl,?_⟩;rw[show its.toArray.any (eqU x)=its.any (eqU x) by simp,X3 r J];exact q
def Y8:UA X (.builtin "len") (λL H Q=>∃p J,L=[.ref p]/\(SqL X.K H p J\/SqT X.K H p J)/\Q (.int J.length) H):=by
 intro M s U H L O Q I r h;obtain⟨p,J,rfl,G,q⟩:=h;obtain⟨u,rfl,N⟩:=vals1 r;cases N;have R:=WY;rcases G with G|G
 .obtain ⟨its,r',pl,hz⟩:=I.list G
  have Z:=r'.length;exact Calls.call_len_list pl.isList (by simp only[ZO] <;> omega) ⟨.int J.length,H,I.tok _,⟨s.toks+1,by rw[ZO,Z]⟩,q⟩
 .obtain ⟨its,r',pl,hz⟩:=I.tuple G
  have Z:=r'.length;exact len_tuple pl (by simp only[ZO] <;> omega) ⟨.int J.length,H,I.tok _,⟨s.toks+1,by rw[ZO,Z]⟩,q⟩
def Mj:UA X (.builtin "len") (λZ H Q=>∃z,Z=[.str z]/\z.length<=sizeLine/\Q (.int z.length) H):=by
 intro J s U H Z G Q I r h;obtain⟨z,rfl,L,q⟩:=h;obtain⟨u,rfl,t,rfl⟩:=vals1 r;have M:=WY;exact len_str (by omega) ⟨.int z.length,H,I.tok _,⟨_,Y⟩,q⟩
def Jv:UA X (.type "list") (λS H Q=>∃p G,S=[.ref p]/\(SqL X.K H p G\/SqT X.K H p G)/\∀l,H l=none->Q (.ref l) (upd H l<|.lst G)):=by
 intro N s U H S j Q I r h;obtain⟨p,G,rfl,T,q⟩:=h;obtain⟨u,rfl,P⟩:=vals1 r;cases P;have D:∀(Z:kX),Vals G Z->G.length<=sizeLine->∀(J:Heap)(M:Nat),(∀b C,s.heap.get? b=some C->J.get? b=some C)->
   J.get? s.heap.objs.size=some {cls:=.type "list",dict:=none,data:=.seq Z.toArray M,slots:= #[]}->EP X N U Q (.ref s.heap.objs.size) {s with heap:=J}:=λZ L R J M O e=>
  ⟨.ref s.heap.objs.size,_,I.laid (t':=s.toks) O (ZG _) (show VQ X.prog X.w _ J _ (.lst G)from⟨R,Z,M,L,e⟩),rfl,q _<|I.hok.fresh<|ZG _⟩
 rcases T with T|T
 .obtain ⟨Z,L,pl,R⟩:=I.list T
  have B:=L.length;obtain⟨o,E,A,n,F⟩:=pl.isList;exact call_list_seq p (.inl Y) E A F (λJ M O e=>D Z L R J M O e) (by simp only[ZO] <;> omega)
 .obtain ⟨Z,L,pl,R⟩:=I.tuple T
  have B:=L.length;obtain⟨o,E,A,n,F⟩:=pl;exact call_list_seq p (.inr Y) E A F (λJ M O e=>D Z L R J M O e) (by simp only[ZO] <;> omega)
def Jl:UA X (.type "tuple") (λM H Q=>∃p J,M=[.ref p]/\((SqL X.K H p J/\∀l,H l=none->Q (.ref l) (upd H l<|.tup J))\/(SqT X.K H p J/\Q (.ref p) H))):=by
 intro Z s U H M D Q I r h;obtain⟨p,J,rfl,h⟩:=h;obtain⟨u,rfl,R⟩:=vals1 r;cases R;rcases h with⟨L,q⟩|⟨L,q⟩
 .obtain ⟨its,r',pl,hz⟩:=I.list L
  have N:=r'.length;refine call_tuple_list pl.isList (λG T=>?_) (by simp only[ZO] <;> omega);have O:Inv X Z U H {s with heap:=G}:=I.kept (t':=s.toks) T
  have B:Inv X Z U (upd H G.objs.size<|.tup J) {s with heap:=G.push {cls:=.type "tuple",data:=.seq its.toArray}}:=
   O.laid (t':=s.toks) (λb o e=>ZE _ e) (ZG _) (show VQ X.prog X.w _ _ _ (.tup J)from⟨hz,its,r',Wt.new _ _⟩)
  exact⟨.ref G.objs.size,_,B,Y,q _<|O.hok.fresh<|ZG _⟩
 .obtain ⟨its,r',pl,hz⟩:=I.tuple L
  exact call_tuple_same pl ⟨.ref p,H,I,Y,q⟩
def tyV(K:W.Frag)(T:String)(x:V)(H:Hp):Prop:=match x with
 |.str _=>T="str"
 |.int _=>T="int"
 |.ref p=>(T="list" /\∃xs,SqL K H p xs)\/(T="tuple" /\∃o,K.lookup p=some o/\o.cls=.type "tuple" /\o.dict=none) \/
   (T="dict" /\((∃kvs,H p=some (.dK kvs)) \/ ∃kvs,H p=some (.dT kvs)))\/(T="set" /\∃S n,H p=some (.set S n))
 |_=>False
def Fx(I:Inv X N U H s)(r:RelV x v)(ty:tyV X.K T x H):
  s.TypeIs v T/\∀a,v=.ref a->∃O,s.heap.get? a=some O/\O.dict=none:=by
 cases x with
 |str z=>
  obtain⟨t,rfl⟩:=r;cases(show T="str" from ty);exact⟨typeIs_str s z t,λ_ e=>nomatch e⟩
 |int i=>
  obtain⟨t,rfl⟩:=r;cases(show T="int" from ty);exact⟨typeIs_int s i t,λ_ e=>nomatch e⟩
 |ref p=>
  cases r;rcases ty with⟨rfl,D,R⟩|⟨rfl,o,Z,B,L⟩|⟨rfl,Z⟩|⟨rfl,S,n,Z⟩
  .obtain ⟨its,_,pl,_⟩:=I.list R
   refine⟨pl.isList.typeIs,λa e=>?_⟩;cases e;obtain⟨o,n,e,c,L,_⟩:=pl;exact⟨o,e,L⟩
  .refine ⟨⟨o,I.kIn p o Z,B⟩,λa e=>?_⟩
   cases e;exact⟨o,I.kIn _ o Z,L⟩
  .have z:∃o,s.heap.get? p=some o/\o.ExactDict:=by
    rcases Z with⟨G,Z⟩|⟨G,Z⟩
    .obtain ⟨_,_,_,_,o,_,_,e,J,_⟩:=I.hok p _ Z
     exact⟨o,e,J⟩
    .obtain ⟨_,_,_,_,o,_,_,e,J,_⟩:=I.hok p _ Z
     exact⟨o,e,J⟩
   obtain⟨o,e,J⟩:=z;refine⟨⟨o,e,J.1⟩,λa M=>?_⟩;cases M;exact⟨o,e,J.2.1⟩
  .obtain ⟨o,_,_,_,e,J,_⟩:=I.hok p _ Z
   refine⟨⟨o,e,J.1⟩,λa M=>?_⟩;cases M;exact⟨o,e,J.2.1⟩
 |_=>exact False.elim ty
def zy(K:W.Frag)(T:String)(r:V->List V->Hp->VK->Prop)(to:TE):TE:=λU H Q=>to U H λx Z=>tyV K T x Z/\r x [] Z Q
def tBM(K:W.Frag)(T:String)(r:V->List V->Hp->VK->Prop)(to:TE)(t:TA):TE:=λU H Q=>to U H λx Z=>tyV K T x Z/\t U Z λJ G=>r x J G Q
variable{T id:String}
def Sl(B:PlainAttrs T)(slot:Slot T name id)(L:typeOf (.builtin id)=pure (.type "method_descriptor"))(E:MtR X id r)(D:PE X o to)(G:attributeBase o name X.env (eval o X.env)=eval o X.env:=by rfl)(J:(apos.endLine==cpos.line)=true:=by rfl):PE X (.Call (.Attribute o name apos) [] [] cpos) (zy X.K T r to):=by
 intro Z s U H Q I h;refine wpAny_Call_method0_late G J<|thn (D Z s U H _ I h) λv O ⟨x,S,N,M,ty,R⟩=>?_;obtain⟨A,F⟩:=Fx N M ty;exact⟨T,id,B,slot,L,A,F,Calls.callWith_builtin Y (PySem.evalArgs_none<|E Z O U S x [] v [] Q N M .nil R)⟩
def Js(y:PlainAttrs T)(slot:Slot T name id)(O:typeOf (.builtin id)=pure (.type "method_descriptor"))(m:MtR X id r)(q:PE X o to)(g:PA X (e::M) t)(L:attributeBase o name X.env (eval o X.env)=eval o X.env:=by rfl)(N:((backTo cpos<|starEach (e::M) X.env).all (λx=>!x.1) && (backToKw cpos<|keywordEach [] X.env).all (λx=>x.1.isSome)
   && decide ((e::M).length+([]:List Keyword).length+(if([]:List Keyword).isEmpty then 0 else 1)<30))=true:=by rfl)(G:(apos.endLine==cpos.line)=true:=by rfl)(z:starEach (e::M) X.env=(false,eval e X.env)::starEach M X.env:=by rfl)(J:(backTo cpos<|starEach M X.env).any (·.1)=false:=by rfl):
  PE X (.Call (.Attribute o name apos) (e::M) [] cpos) (tBM X.K T r to t):=by
 intro Z s U H Q I h;refine wpAny_Call_method_late L N G Y (thn (q Z s U H _ I h) λv S ⟨x,f,D,R,ty,j⟩=>?_);obtain⟨p,k⟩:=Fx D R ty;exists T,id,y,slot,O,p,k;have B:=g cpos Z S U f _ D j;rw[z]at B |-;refine Calls.callWith_builtin (by show(false || (backTo cpos<|starEach M X.env).any (·.1))=false;rw[J] <;> rfl)<|Calls.evalArgs_plain ?_;exact thn B λF A ⟨E,d,c,C,P⟩=>m Z A U d x E v F Q c R C P
end
def MtM(X:Cx)(id:String)(r:V->List V->Hp->VK->Prop):Prop:=
 ∀(Z:kU)(s:Shared)(U:St)(H:Hp)(x:V)(J:px)(v:Value)(G:kX)(Q:VK),Inv X Z U H s->RelV x v->Vals J G->r x J H Q->
  wpAny (model X.prog X.w) X.A (call (.builtin id) (v::G)) (EP X Z U Q) X.xe s
theorem Vals.one:∀{x:V}{Z:kX},Vals [x] Z->∃u,Z=[u]/\RelV x u
 |_,_,.cons r .nil=>⟨_,rfl,r⟩
theorem Vals.zero:∀{Z:kX},Vals [] Z->Z=[]
 |_,.nil=>rfl
def Vals.dropLast(h:Vals Z J):Vals Z.dropLast J.dropLast:=by
 induction h with
 |nil=>exact .nil
 |cons r t ih=>
  cases t with
  |nil=>exact .nil
  |cons q G=>exact .cons r ih
theorem Vals.eraseIdx:∀{Z:px}{J:kX}(i:Nat),Vals Z J->Vals (Z.eraseIdx i) (J.eraseIdx i)
 |_,_,_,.nil=>.nil
 |_,_,0,.cons _ t=>t
 |_,_,i+1,.cons r t=>.cons r<|Vals.eraseIdx i t
theorem Vals.rep(h:Vals Z J):∀k:Nat,Vals (List.replicate k Z).flatten (List.replicate k J).flatten
 |0=>.nil
 |k+1=>by
  rw[ji,ji,qb,qb];exact Vals.append h<|Vals.rep h k
def De(l:List α):l.eraseIdx (l.length-1)=l.dropLast:=by
 induction l with
 |nil=>rfl
 |cons a r ih=>
  cases r with
  |nil=>rfl
  |cons b r=>
   have e:(a::b::r).length-1=((b::r).length-1)+1:=by
    have J:(a::b::r).length=r.length+2:=rfl;have Z:(b::r).length=r.length+1:=rfl;omega
   rw[e,List.eraseIdx_cons_succ,ih]
   all_goals rfl
theorem Tx:∀(l:List α)(i:Nat),(l.eraseIdx i).length<=l.length
 |[],_=>ZG _
 |_::_,0=>jK _
 |_::r,i+1=>qp<|Tx r i
theorem foldl_rep(Z:kX):∀(k:Nat)(J:kX),
  List.foldl (λL G=>L++ G) J.toArray (List.replicate k Z.toArray)=(J++ (List.replicate k Z).flatten).toArray
 |0,J=>by simp
 |k+1,J=>by
  have e:J.toArray++ Z.toArray=(J++ Z).toArray:=by simp
  have M:(J++ Z)++ (List.replicate k Z).flatten=J++ (List.replicate (k+1) Z).flatten:=by
   rw[ji,qb,qc]
  rw[<-M,<-foldl_rep Z k (J++ Z),<-e,ji,je]
section
def Inv.lset{J its':kX}(I:Inv X Z U H s)(T:H l=some (.lst B))(e:s.heap.get? l=some {cls:=.type "list",data:=.seq J.toArray n})(O:f J.toArray=its'.toArray)(M:Vals G its')(L:G.length<=sizeLine):
  Inv X Z U (upd H l<|.lst G) {s with heap:=s.heap.update l<|Obj.mapSeq f,toks:=D}:=by
 have q:=PySem.IsL.update e f;rw[O]at q;refine I.write (x:=l) (e:=l) (by rw[T];exact trivial) (.inl Y) (λE u R N=>(Heap.get?_update_other s.heap (Obj.mapSeq f)<|Zs R).trans N) ⟨_,q⟩ ?_;exact⟨L,its',_,M,q⟩
def Inv.lnew(I:Inv X Z U H s)(M:Vals G J)(L:G.length<=sizeLine):
  Inv X Z U (upd H s.heap.objs.size<|.lst G) {s with heap:=s.heap.push {cls:=.type "list",data:=.seq J.toArray},toks:=t'}:=
 I.laid (λ_ _ q=>ZE _ q) (ZG _) ⟨L,J,0,M,ZY _ rfl⟩
def Inv.fresh(I:Inv X Z U H s):H s.heap.objs.size=none:=I.hok.fresh<|ZG _
def Inv.lstM(I:Inv X G U H s)(L:H l=some (.lst J)):J.length<=sizeLine/\∃(Z:kX)(n:Nat),Vals J Z/\J.length=Z.length/\s.heap.get? l=some {cls:=.type "list",data:=.seq Z.toArray n}:=by
 obtain⟨z,Z,n,r,e⟩:=I.hok l _ L;exact⟨z,Z,n,r,r.length,e⟩
def Kn(h:n<=sizeLine):Builtin.List.listTooLong n=false:=by
 unfold Builtin.List.listTooLong;exact Zy<|by omega
end
section
def Oc:V->List V->Hp->VK->Prop:=λx J H Q=>∃l Z y,x=.ref l/\J=[y]/\H l=some (.lst Z)/\Z.length<sizeLine/\Q .non (upd H l<|.lst<|Z++[y])
def Vn:MtM X "list.append" Oc:=by
 intro J s U H x R v T Q I L M h;obtain⟨l,O,y,rfl,rfl,G,B,q⟩:=h;cases L;obtain⟨u,rfl,N⟩:=M.one;obtain⟨z,Z,n,r,D,e⟩:=I.lstM G;refine j7 F.slot_list_append ⟨_,e,Y⟩ F.entry_list_append (F.args_list_append_2 _ _) (PySem.list_append l Z.toArray n u (by rw[ZO];omega)) ⟨e,?_⟩;refine⟨.non,_,I.lset (its':=Z++[u]) G e (by simp) (r.append<|.cons N .nil) ?_,rfl,q⟩;rw[ZL,vc];omega
def yW:V->List V->Hp->VK->Prop:=λx J H Q=>∃l Z y,x=.ref l/\J=[]/\H l=some (.lst Z)/\Z[Z.length-1]?=some y/\Q y (upd H l<|.lst Z.dropLast)
def AG:MtM X "list.pop" yW:=by
 intro L s U H x A v S Q I N O h;obtain⟨l,E,y,rfl,rfl,M,T,q⟩:=h;cases N;have G:=O.zero;subst G;obtain⟨z,Z,n,r,D,e⟩:=I.lstM M;obtain⟨u,B,R⟩:=r.get T
 have J:Z.toArray[Z.toArray.size-1]?=some u:=by
  show Z.toArray[Z.length-1]?=some u;rw[<-jT,<-D];exact B
 refine j7 F.slot_list_pop ⟨_,e,Y⟩ F.entry_list_pop (F.args_list_pop_1 _) (MeetsSeq.list_pop_last l Z.toArray n u J (by rw[ZO];omega)) ⟨e,?_⟩;refine⟨y,_,I.lset (its':=Z.dropLast) M e ?_ r.dropLast ?_,R,q⟩
 .show Z.toArray.eraseIdxIfInBounds (Z.toArray.size-1)=Z.dropLast.toArray
  rw[ZO,kO,De]
 .rw [qJ]
  omega
def Sa:V->List V->Hp->VK->Prop:=λx J H Q=>∃l Z i k y,x=.ref l/\J=[.int i]/\H l=some (.lst Z)/\ -(2 ^ 63)<=i/\i<2 ^ 63/\seqIndex? i Z.length=some k/\Z[k]?=some y/\Q y (upd H l<|.lst<|Z.eraseIdx k)
def Ks:MtM X "list.pop" Sa:=by
 intro G s U H x C v P Q I N O h;obtain⟨l,M,i,k,y,rfl,rfl,L,S,A,E,T,q⟩:=h;cases N;obtain⟨u,rfl,R⟩:=O.one;obtain⟨t,rfl⟩:=R;obtain⟨z,Z,n,r,D,e⟩:=I.lstM L;obtain⟨w,B,J⟩:=r.get T;refine j7 F.slot_list_pop ⟨_,e,Y⟩ F.entry_list_pop (F.args_list_pop_2 _ _)
  (MeetsSeq.list_pop_at l Z.toArray n i t k w (fitsIndex_both S A) (by rw[ZO,<-D];exact E) (by rw[<-jT];exact B) (by rw[ZO];omega)) ⟨e,?_⟩
 refine⟨y,_,I.lset (its':=Z.eraseIdx k) L e ?_ (r.eraseIdx k) ?_,J,q⟩
 .show Z.toArray.eraseIdxIfInBounds k=(Z.eraseIdx k).toArray
  rw[kO]
 .have:=Tx M k
  omega
def ya:R2:=λx y H Q=>∃l b J Z,x=.ref l/\y=.ref b/\H l=some (.lst J)/\H b=some (.lst Z)/\J.length+Z.length<=sizeLine/\∀p,H p=none->Q (.ref p) (upd H p<|.lst<|J++ Z)
def KO:OpR X (binaryOp .Add) ya:=by
 intro G s U H x y v u Q I M L h;obtain⟨l,b,A,E,rfl,rfl,R,T,C,q⟩:=h;cases M;cases L;obtain⟨z,J,n,r,P,e⟩:=I.lstM R;obtain⟨F,Z,S,N,O,D⟩:=I.lstM T;refine PySem.P.add_list e D ?_ (by rw[ZO,ZO];omega);have B:J.toArray++ Z.toArray=(J++ Z).toArray:=by simp
 rw[B];exact⟨.ref _,_,I.lnew (t':=s.toks) (r.append N) (by rw[ZL];omega),Y,q _ I.fresh⟩
def yV:R2:=λx y H Q=>∃l k Z,x=.ref l/\y=.int k/\H l=some (.lst Z)/\ -(2 ^ 63)<=k/\k<2 ^ 63/\Z.length*k.toNat<=sizeLine/\
 ∀p,H p=none->Q (.ref p) (upd H p<|.lst (List.replicate k.toNat Z).flatten)
def len_rep(Z:List α)(k:Nat):(List.replicate k Z).flatten.length=k*Z.length:=by
 induction k with
 |zero=>simp
 |succ k ih=>rw[ji,qb,ZL,ih,qx,Nat.add_comm]
def Su:OpR X (binaryOp .Mult) yV:=by
 intro B s U H x y v u Q I S A h;obtain⟨l,k,c,rfl,rfl,P,g,j,D,q⟩:=h;cases S;obtain⟨t,rfl⟩:=A;obtain⟨z,Z,n,r,C,e⟩:=I.lstM P;have L:Z.toArray.size*k.toNat<=sizeLine:=by rw[ZO,<-C];exact D
 have N:¬Z.toArray.size*k.toNat > (2 ^ 63-1) / 8:=by
  have:(sizeLine:Nat)<=(2 ^ 63-1) / 8:=by decide
  omega
 have M:¬(!Builtin.List.listFitsIndex k)=true:=by
  rw[fitsIndex_both g j];exact Zi
 have J:¬Builtin.List.listTooLong (Z.toArray.size*k.toNat)=true:=by
  rw[Kn L];exact Zi
 have G:List.foldl (λR O=>R++ O) #[] (List.replicate (if Z.toArray.isEmpty=true then 0 else k.toNat) Z.toArray)=(List.replicate k.toNat Z).flatten.toArray:=by
  have p:∀m:Nat,List.foldl (λR O=>R++ O) #[] (List.replicate m Z.toArray)=(List.replicate m Z).flatten.toArray:=λm=>by
   have:=foldl_rep Z m [];rw[List.nil_append]at this;exact this
  rw[p]
  cases Z with
  |nil=>simp
  |cons a d=>rw[Zq (by simp)]
 refine wpAny_binaryOp_repeat_ref (T:="list") (U:="int") (by decide) ⟨_,e,Y⟩ (λE=>typeIs_int E k t) noFill_list_mul F.fills_int_mul F.slot_int_rmul repeat_list F.slot_int_index.lookup
  (j7 F.slot_int_rmul (typeIs_int s k t) F.entry_int_rmul (F.args_int_rmul_2 _ _) (int___rmul___int_list k t l Z.toArray n)
   ⟨e,rfl,⟨_,e,rfl⟩,j7 F.slot_list_mul ⟨_,e,rfl⟩ F.entry_list_mul (F.args_list_mul_2 _ _) (AutoListH.list___mul___list_int_3 l Z.toArray n k t M N J) ⟨e,?_⟩⟩)
 rw[G];exact⟨.ref _,_,I.lnew (t':=s.toks) (r.rep k.toNat) (by rw[len_rep,Nat.mul_comm];exact D),Y,q _ I.fresh⟩
end
section
set_option maxRecDepth 100000 in
end
section
variable{κ:Type}[DecidableEq κ]
def VB(kvs:List (κ×V))(k:κ):pD:=(kvs.find? λZ=>decide<|Z.1=k).map (·.2)
def putK(kvs:List (κ×V))(k:κ)(v:V):List (κ×V):=
 if(kvs.any λZ=>decide<|Z.1=k)=true then kvs.map (λZ=>if Z.1=k then(Z.1,v)else Z)else kvs++[(k,v)]
def Vx{p:κ×V}(e:p.1=k):VB (p::r) k=some p.2:=by simp[VB,vL,e]
def V3{p:κ×V}(e:¬p.1=k):VB (p::r) k=VB r k:=by simp[VB,vL,e]
theorem JW(k:κ):∀Z:List (κ×V),(Z.any λJ=>decide<|J.1=k)=(VB Z k).isSome
 |[]=>rfl
 |p::r=>by
  rw[ql]
  by_cases e:p.1=k
  .simp only[Vx e,decide_eq_true e,Bool.true_or,Option.isSome_some]
  .rw [V3 e,Zy e,Bool.false_or];exact JW k r
theorem Mt(k j:κ)(y:V):∀Z:List (κ×V),VB (Z.map λJ=>if J.1=k then(J.1,y)else J) j=(VB Z j).map λx=>if j=k then y else x
 |[]=>rfl
 |p::r=>by
  have ih:=Mt k j y r;rw[ZV]
  by_cases h:p.1=k
  .rw [Zp h]
   by_cases e:p.1=j
   .rw [Vx (p:=(p.1,y)) e,Vx e,qB,Zp (e.symm.trans h)]
   .rw [V3 (p:=(p.1,y)) e,V3 e,ih]
  .rw [Zq h]
   by_cases e:p.1=j
   .rw [Vx (p:=p) e,Vx e,qB,Zq (λz=>h<|e.trans z)]
   .rw [V3 (p:=p) e,V3 e,ih]
theorem Tp(k j:κ)(y:V):∀Z:List (κ×V),VB Z k=none->VB (Z++[(k,y)]) j=if j=k then some y else VB Z j
 |[],_=>by
  by_cases e:k=j
  .rw [Zp e.symm];exact Vx (p:=(k,y)) e
  .rw [Zq (λz=>e z.symm)];exact V3 (p:=(k,y)) e
 |p::r,hn=>by
  rw[kP];have J:¬p.1=k:=λz=>by rw[Vx z]at hn;cases hn
  rw[V3 J]at hn;have ih:=Tp k j y r hn
  by_cases e:p.1=j
  .rw [Vx e,Vx e,Zq (λz=>J<|e.trans z)]
  .rw [V3 e,V3 e,ih]
def V8(Z:List (κ×V))(k j:κ)(y:V):VB (putK Z k y) j=if j=k then some y else VB Z j:=by
 unfold putK
 by_cases a:(Z.any λJ=>decide<|J.1=k)=true
 .rw [Zp a,Mt]
  rw[JW]at a
  by_cases e:j=k
  .obtain ⟨x,hx⟩:=qj.mp a
   rw[Zp e,e,hx,qB,Zp rfl]
  .rw [Zq e]
   cases VB Z j with
   |none=>rfl
   |some x=>rw[qB,Zq e]
 .rw [Zq a]
  refine Tp k j y Z ?_;rw[JW]at a
  cases q:VB Z k with
  |none=>rfl
  |some x=>rw[q]at a;exact(a rfl).elim
def Vd(Z:List (κ×V))(k:κ)(v:V):(putK Z k v).length<=Z.length+1:=by
 unfold putK
 split
 .rw [ZA];omega
 .rw [ZL,Zf,qC];omega
def putK_new{Z:List (κ×V)}(v:V)(h:VB Z k=none):putK Z k v=Z++[(k,v)]:=by
 unfold putK;rw[JW,h];exact Zq<|by decide
def UT.isSome_eq(r:UT o u):o.isSome=u.isSome:=by
 cases o with
 |none=>cases u with
  |none=>rfl
  |some _=>exact(show False from r).elim
 |some _=>cases u with
  |none=>exact(show False from r).elim
  |some _=>rfl
def UT.getD(r:UT o u)(Z:RelV d d'):RelV (o.getD d) (u.getD d'):=by
 cases o with
 |none=>cases u with
  |none=>exact Z
  |some _=>exact(show False from r).elim
 |some _=>cases u with
  |none=>exact(show False from r).elim
  |some _=>exact r
def KV.val(r:KV J L)(k:κ):UT (VB J k) (valueAt L k):=by
 unfold KV at r
 induction r with
 |nil=>exact True.intro
 | @cons p q N Z h t ih=>
  obtain⟨G,M⟩:=h
  by_cases e:p.1=k
  .have e':q.1=k:=G.symm.trans e
   have b:valueAt (q::Z) k=some q.2:=by simp[valueAt,vL,e']
   rw[Vx e,b];exact M
  .have e':¬q.1=k:=λz=>e<|G.trans z
   have b:valueAt (q::Z) k=valueAt Z k:=by simp[valueAt,vL,e']
   rw[V3 e,b];exact ih
def KV.any(r:KV Z G)(k:κ):(Z.any λJ=>decide<|J.1=k)=G.any λJ=>decide (J.1=k):=by
 unfold KV at r
 induction r with
 |nil=>rfl
 |cons h t ih=>rw[ql,ql,ih,h.1]
def KV.repl(r:KV G L)(k:κ)(M:RelV y u):
  KV (G.map λZ=>if Z.1=k then(Z.1,y)else Z) (L.map λZ=>if Z.1=k then(Z.1,u)else Z):=by
 unfold KV at r |-
 induction r with
 |nil=>exact .nil
 | @cons p q R O h t ih=>
  rw[ZV,ZV];refine .cons ?_ ih;obtain⟨J,N⟩:=h
  by_cases e:p.1=k
  .rw [Zp e,Zp (J.symm.trans e)];exact⟨J,M⟩
  .rw [Zq e,Zq (λz=>e<|J.trans z)];exact⟨J,N⟩
def KV.put(r:KV Z J)(k:κ)(G:RelV y u):KV (putK Z k y) (stored J k u):=by
 unfold putK stored;rw[r.any k]
 by_cases e:(J.any λL=>decide<|L.1=k)=true
 .rw [Zp e,Zp e];exact r.repl k G
 .rw [Zq e,Zq e];exact Paired.snoc r ⟨Y,G⟩
def KV.keys{Z:List (κ×V)}(r:KV Z J):Z.map (·.1)=J.map (·.1):=by
 unfold KV at r
 induction r with
 |nil=>rfl
 |cons h t ih=>rw[ZV,ZV,ih,h.1]
def KV.length(r:KV Z J):Z.length=J.length:=Paired.length r
end
def U2(r:RelV (kV k) u):(Y7 P w).is k u=true:=by
 cases k with
 |inl i=>obtain⟨t,e⟩:=(show ∃t,u=Value.int i t from r);subst e;exact NN P w i t
 |inr x=>obtain⟨t,e⟩:=(show ∃t,u=Value.str x t from r);subst e;exact NM P w x t
theorem RC:∀{Z:List Key}{J:kX},Vals (Z.map kV) J->ItemsAre (Y7 P w) Z J
 |[],_,r=>by rw[jh]at r;cases r;exact .nil
 |k::Z,_,r=>by
  rw[ZV]at r
  cases r with
  |cons h t=>exact .cons (U2 h)<|RC t
abbrev KT(H:Hp):List (List Key×V)->List (List Key×Addr×Value)->Prop:=Paired λp q=>p.1=q.1/\H q.2.1=some (.tup (p.1.map kV))/\RelV p.2 q.2.2
def KT.val(r:KT H J L)(k:List Key):UT (VB J k) ((atKey L k).map (·.2)):=by
 induction r with
 |nil=>exact True.intro
 | @cons p q N Z h t ih=>
  obtain⟨G,_,M⟩:=h
  by_cases e:p.1=k
  .have e':q.1=k:=G.symm.trans e
   have b:atKey (q::Z) k=some q.2:=by simp[atKey,vL,e']
   rw[Vx e,b];exact M
  .have e':¬q.1=k:=λz=>e<|G.trans z
   have b:atKey (q::Z) k=atKey Z k:=by simp[atKey,vL,e']
   rw[V3 e,b];exact ih
def KT.repl(r:KT H J M)(k:List Key)(N:RelV y u):
  KT H (J.map λG=>if G.1=k then(G.1,y)else G) (M.map<|putAt k u):=by
 induction r with
 |nil=>exact .nil
 | @cons p q T R h t ih=>
  rw[ZV,ZV];refine .cons ?_ ih;obtain⟨Z,L,O⟩:=h;unfold putAt
  by_cases e:p.1=k
  .rw [Zp e,Zp (Z.symm.trans e)];exact⟨Z,L,N⟩
  .rw [Zq e,Zq (λz=>e<|Z.trans z)];exact⟨Z,L,O⟩
def KT.put(r:KT H Z J)(k:List Key)(M:H b=some (.tup<|k.map kV))(G:RelV y u):
  KT H (putK Z k y) (storedH J k b u):=by
 have e:(Z.any λL=>decide<|L.1=k)=(atKey J k).isSome:=by
  rw[JW,(r.val k).isSome_eq,jL]
 unfold putK storedH;rw[e]
 by_cases q:(atKey J k).isSome=true
 .rw [Zp q,Zp q];exact r.repl k G
 .rw [Zq q,Zq q];exact Paired.snoc r ⟨Y,M,G⟩
def KT.keeps(r:KT H Z G)(L:∀b J,H b=some (.tup J)->M b=some (.tup J)):KT M Z G:=
 Paired.mapP r λ_ _ z=>⟨z.1,L _ _ z.2.1,z.2.2⟩
section
def QK(Z:HOk P w H h)(e:Rd H a u):VQ P w H h a u:=e.ok Z
def Xy(G:HOk P w H h)(e:Rd H a (.dK Z)):Z.length<=sizeLine/\(a==sysModules)=false/\∃J,KV Z J/\h.DictOf (Y7 P w) a J:=
 show VQ P w H h a (.dK Z)from QK G e
def Nc(G:HOk P w H h)(e:H a=some (.dK Z)):Z.length<=sizeLine/\(a==sysModules)=false/\∃J,KV Z J/\h.DictOf (Y7 P w) a J:=Xy G<|.inl e
def Wb(G:HOk P w H h)(e:H a=some (.tup<|J.map kV)):(tupleKind<|Y7 P w).is h J a:=by
 obtain⟨_,Z,r,o,N,_,M,n,L⟩:=(show VQ P w H h a (.tup<|J.map kV)from G a _ e);exact⟨o,Z.toArray,n,N,M,L,by simpa using RC r⟩
def TQ(M:HOk P w H h)(e:Rd H a (.dT Z)):Z.length<=sizeLine/\(a==sysModules)=false/\
  ∃G,KT H Z G/\h.DictOfH (tupleKind<|Y7 P w) a G:=by
 obtain⟨z,y,G,r,o,E,F,D,B,T,R,O⟩:=(show VQ P w H h a (.dT Z)from QK M e);refine⟨z,y,G,r,o,E,F,D,B,T,R,λx J=>?_,O⟩
 have L:∀{l:List (List Key×V)}{m:List (List Key×Addr×Value)},KT H l m->∀x∈m,(tupleKind<|Y7 P w).is h x.1 x.2.1:=by
  intro l m q
  induction q with
  |nil=>intro x J;exact nomatch J
  | @cons p q I A N t ih=>
   intro x J;rcases Zd.mp J with e|J
   .subst e
    exact Wb M (by rw[<-N.1];exact N.2.1)
   .exact ih x J
 exact L r x J
def zR(G:HOk P w H h)(e:H a=some (.dT Z)):Z.length<=sizeLine/\(a==sysModules)=false/\
  ∃J,KT H Z J/\h.DictOfH (tupleKind<|Y7 P w) a J:=TQ G<|.inl e
end
def Vi(H:Hp)(a:Addr)(y:V)(r:pD):Prop:=
 (∃Z k,Rd H a (.dK Z)/\y=kV k/\r=VB Z k) \/ ∃Z k b,Rd H a (.dT Z)/\y=.ref b/\H b=some (.tup<|k.map kV)/\r=VB Z k
def UU(H:Hp)(a:Addr)(y v:V)(H':Hp):Prop:=
 (∃Z k,H a=some (.dK Z)/\y=kV k/\Z.length<sizeLine/\H'=upd H a (.dK<|putK Z k v)) \/
 ∃Z k b,H a=some (.dT Z)/\y=.ref b/\H b=some (.tup<|k.map kV)/\Z.length<sizeLine/\H'=upd H a (.dT<|putK Z k v)
def Vi.k{k:Key}(e:H a=some (.dK Z)):Vi H a (kV k) (VB Z k):=.inl ⟨Z,k,.inl e,rfl,rfl⟩
def Vi.t{k:List Key}(e:H a=some (.dT Z))(J:H b=some (.tup<|k.map kV)):Vi H a (.ref b) (VB Z k):=.inr ⟨Z,k,b,.inl e,rfl,J,rfl⟩
def UU.k{k:Key}(e:H a=some (.dK Z))(J:Z.length<sizeLine):UU H a (kV k) v (upd H a<|.dK<|putK Z k v):=.inl ⟨Z,k,e,rfl,J,rfl⟩
section
def Inv.big(I:Inv X Z U H s):sysModules<s.heap.objs.size:=by
 have h:mainGlobals<s.heap.objs.size:=(I.mod.glob.keeps I.bk).lt;exact kh (by decide) h
def Fd(C:A.units+1<cLine)(I:Inv X L U H s)(g:Vi H a y (some v))(D:RelV y u)(h:∀G B,Inv X L U H B->RelV v G->Q G B):
  wpAny (model X.prog X.w) A (getItem (.ref a) u) Q E s:=by
 rcases g with⟨M,k,e,R,l⟩|⟨M,k,b,e,R,q,l⟩
 .subst R
  obtain⟨z,j,S,J,T⟩:=Xy I.hok e;obtain⟨G,N,Z⟩:=UT.some_of (v:=v) (o:=valueAt S k) (by rw[l];exact J.val k);exact wpAny_getItem_of (U2 D) T.mapOf N<|h G _ (I.tok _) Z
 .subst R
  cases(show u=Value.ref b from D);obtain⟨z,j,F,J,T⟩:=TQ I.hok e;obtain⟨G,N,Z⟩:=UT.some_of (v:=v) (o:=(atKey F k).map (·.2)) (by rw[l];exact J.val k);obtain⟨p,P,O⟩:=Zj.mp N;refine wpAny_getItem_heap (jS C) (Wb I.hok q) T P ?_;rw[O];exact h G _ (I.tok _) Z
def vD(T:A.units+1<cLine)(I:Inv X J U H s)(g:Vi H a y o)(R:RelV y u)(h:∀O,Inv X J U H O->Q (.bool o.isSome) O):
  wpAny (model X.prog X.w) A (compareOp .In u<|.ref a) Q E s:=by
 rcases g with⟨G,k,e,M,l⟩|⟨G,k,b,e,M,B,l⟩
 .subst M
  obtain⟨z,L,F,Z,N⟩:=Xy I.hok e;refine wpAny_in_of (U2 R) L N.mapOf ?_;rw[<-(Z.val k).isSome_eq,<-l];exact h _<|I.tok _
 .subst M
  cases(show u=Value.ref b from R);obtain⟨z,L,D,Z,N⟩:=TQ I.hok e;refine wpAny_in_heap (jS T) (Wb I.hok B) L N ?_;have q:=(Z.val k).isSome_eq;rw[jL]at q;rw[<-q,<-l];exact h _<|I.tok _
def Pt(T:A.units+1<cLine)(I:Inv X J U H s)(g:Vi H a y o)(R:RelV y u)(h:∀O,Inv X J U H O->Q (.bool<|!o.isSome) O):
  wpAny (model X.prog X.w) A (compareOp .NotIn u<|.ref a) Q E s:=by
 rcases g with⟨G,k,e,M,l⟩|⟨G,k,b,e,M,B,l⟩
 .subst M
  obtain⟨z,L,F,Z,N⟩:=Xy I.hok e;refine wpAny_notIn_of (U2 R) L N.mapOf ?_;rw[<-(Z.val k).isSome_eq,<-l];exact h _<|I.tok _
 .subst M
  cases(show u=Value.ref b from R);obtain⟨z,L,D,Z,N⟩:=TQ I.hok e;refine wpAny_notIn_heap (jS T) (Wb I.hok B) L N ?_;have q:=(Z.val k).isSome_eq;rw[jL]at q;rw[<-q,<-l];exact h _<|I.tok _
def X2(I:Inv X Z U H s)(L:Mut (H a))(M:Heap.SameBut a s.heap G)(N:∃q,G.get? a=some q)(J:VQ X.prog X.w (upd H a ob) G a ob):
  Inv X Z U (upd H a ob) {s with heap:=G,toks:=R}:=
 I.write (x:=a) (e:=a) L (.inl rfl) (λb q O z=>(M.2 b O).trans z) N J
def Xf(z:Z.length<=sizeLine)(L:(a==sysModules)=false)(J:KV Z G)(N:M.DictOf (Y7 P w) a G):
  VQ P w O M a (.dK Z):=⟨z,L,G,J,N⟩
def Fc(f:A.units+1<cLine)(I:Inv X L U H s)(g:UU H a y v H')(C:RelV y u)(P:RelV v r)(h:∀S,Inv X L U H' S->Q () S):
  wpAny (model X.prog X.w) A (setItem (.ref a) u r) Q E s:=by
 rcases g with⟨J,k,e,B,l,D⟩|⟨J,k,b,e,B,m,l,D⟩
 .subst B D
  obtain⟨z,T,d,Z,F⟩:=Nc I.hok e;have N:d.length<=sizeLine:=by rw[<-Z.length];exact z
  have R:(putK J k v).length<=sizeLine:=by have:=Vd J k v;omega
  refine wpAny_setItem_pairs (hsz:=N) (U2 C) F λj G O=>h _ ?_;have w:∃q,j.get? a=some q:=let⟨q,_,_,M,_⟩:=G;⟨q,M⟩
  exact X2 I (by rw[e];exact True.intro) O w<|Xf R T (Z.put k P) G
 .subst B D
  cases(show u=Value.ref b from C);obtain⟨z,T,p,Z,F⟩:=zR I.hok e;have N:p.length<=sizeLine:=by rw[<-Paired.length Z];exact z
  have R:(putK J k v).length<=sizeLine:=by have:=Vd J k v;omega
  refine wpAny_setItem_heap (hsz:=N) (jS f) (Wb I.hok m) F λj G O=>h _ ?_;obtain⟨q,es,ep,M,x,n,i,_,o⟩:=G;refine X2 I (by rw[e];exact True.intro) O ⟨q,M⟩ ⟨R,T,_,(Z.put k m P).keeps λc ys t=>?_,q,es,ep,M,x,n,i,o⟩;rw[Yg (Jc t e λz=>nomatch z)];exact t
end
def P6(i:Expr):Prop:=∀Z J,subscripted i false Z J=operate [Z,J] (getItem Z J)
def Rb{T B:String}(F:typeLookup (.type T) "__getitem__"=pure (some<|.builtin B))(D:P6 slice)(h:wpAny (model prog w) A (eval value env) (λo L=>wpAny (model prog w) A (eval slice env) (λi Z=>Z.TypeIs o T/\wpAny (model prog w) A (getItem o i) Q E Z) E L) E s):
  wpAny (model prog w) A (eval (.Subscript value slice pos) env) Q E s:=by
 refine Subscript_<|Zn h (λo L O=>Zn O (λi Z J=>?_) λ_ _ x=>x) λ_ _ x=>x;obtain⟨R,J⟩:=J;unfold subscriptTail;refine Zl ?_;rw[getitemInPython_of_ne R.not_modules];refine Zl<|jP R F ?_
 have M:wpAny (model prog w) A (subscripted slice false o i) (λr G=>wpAny (model prog w) A (letTemporaryGo value o r >>=λ_=>pure r) Q E G) E Z:=by
  rw[D o i];exact wpAny_operating (Zn J (λr G N=>Zl<|wpAny_letTemporaryGo<|Zm N) λ_ _ x=>x)
 first
  |exact Zm<|Zl M
  |exact Zl<|Zm<|Zl M
  |exact Zl M
def Nd(I:Inv X J U H s)(g:Vi H a y o):s.TypeIs (.ref a) "dict":=by
 rcases g with⟨Z,k,e,_,_⟩|⟨Z,k,b,e,_,_,_⟩
 .obtain ⟨_,_,vs,_,dd⟩:=Xy I.hok e
  exact dd.typeIs
 .obtain ⟨_,_,xs,_,dd⟩:=TQ I.hok e
  exact dd.typeIs
def A6(td ty:TE):TE:=λU H Q=>td U H λx J=>ty U J λy Z=>V9 x λa=>∃v,Vi Z a y (some v)/\Q v Z
def zw(ty td:TE):TE:=λU H Q=>ty U H λy J=>td U J λx Z=>V9 x λa=>∃o,Vi Z a y o/\Q (.bl o.isSome) Z
def OE(ty td:TE):TE:=λU H Q=>ty U H λy J=>td U J λx Z=>V9 x λa=>∃o,Vi Z a y o/\Q (.bl<|!o.isSome) Z
def CN(td ty tv:TE):TS:=λD U H=>tv U H λv L=>td U L λx G=>ty U G λy J=>V9 x λa=>∃Z,UU J a y v Z/\D.nx U Z
section
def Vt(T:X.A.units+1<cLine)(D:PE X o td)(E:PE X i ty)(B:P6 i):PE X (.Subscript o i pos) (A6 td ty):=by
 intro Z s U H Q I h;refine Rb PySem.F.slot_dict_getitem.lookup B<|thn (D Z s U H _ I h) λu M ⟨x,P,S,O,R⟩=>thn (E Z M U P _ S R) λt q ⟨y,C,L,N,J⟩=>?_;replace J:=V9.old J;obtain⟨a,F,v,g,J⟩:=J;subst F;obtain rfl:u=Value.ref a:=O;exact⟨Nd L g,Fd T L g N λj z A G=>⟨v,C,A,G,J⟩⟩
def U0(R:X.A.units+1<cLine)(B:PE X i ty)(T:PE X o td):PC X .In i o (zw ty td):=by
 intro Z s U H Q I h;refine thn (B Z s U H _ I h) λz G ⟨y,C,A,L,N⟩=>thn (T Z G U C _ A N) λu j ⟨x,S,F,M,J⟩=>?_;replace J:=V9.old J;obtain⟨a,D,O,g,J⟩:=J;subst D;obtain rfl:u=Value.ref a:=M;exact vD R F g L λP E=>⟨.bl O.isSome,S,E,Y,J⟩
def XE(R:X.A.units+1<cLine)(B:PE X i ty)(T:PE X o td):PC X .NotIn i o (OE ty td):=by
 intro Z s U H Q I h;refine thn (B Z s U H _ I h) λz G ⟨y,C,A,L,N⟩=>thn (T Z G U C _ A N) λu j ⟨x,S,F,M,J⟩=>?_;replace J:=V9.old J;obtain⟨a,D,O,g,J⟩:=J;subst D;obtain rfl:u=Value.ref a:=M;exact Pt R F g L λP E=>⟨.bl<|!O.isSome,S,E,rfl,J⟩
def Vs(E:X.A.units+1<cLine)(A:PE X o td)(S:PE X i ty)(B:PE X value tv)(F:swapsWith value (some<|.Subscript o i pos') pos.line X.env=pure false):
  PS X (.Assign [.Subscript o i pos'] value pos) (CN td ty tv):=by
 intro Z s U H D I h;refine wpAny_Assign_Subscript (thn (B Z s U H _ I h) λr L ⟨v,m,z,O,T⟩=>thn (A Z L U m _ z T) λu G ⟨x,t,j,N,R⟩=>thn (S Z G U t _ j R) λc p ⟨y,d,Q,M,J⟩=>?_) F;replace J:=V9.old J;obtain⟨a,C,q,g,J⟩:=J;subst C;obtain rfl:u=Value.ref a:=N;exact Fc E Q g M O λk P=>⟨U,q,P,J⟩
end
def TU(h:Heap)(Z:sysModules<h.objs.size):VQ P w H (h.push {cls:=.type "dict",data:=.dict #[]}) h.objs.size (.dK []):=
 ⟨Zc _,beq_eq_false_iff_ne.mpr<|Zs<|Ze Z,[],.nil,Heap.DictOf.new h⟩
def LZ(h:Heap)(Z:sysModules<h.objs.size):VQ P w H (h.push {cls:=.type "dict",data:=.dict #[]}) h.objs.size (.dT []):=
 ⟨Zc _,beq_eq_false_iff_ne.mpr<|Zs<|Ze Z,[],.nil,_,#[],0,ZY _ rfl,⟨rfl,rfl,rfl⟩,rfl,rfl,jM⟩
def Qq:TE:=λ_ H Q=>∀p,H p=none->Q (.ref p) (upd H p<|.dK [])
def Qp:TE:=λ_ H Q=>∀p,H p=none->Q (.ref p) (upd H p<|.dT [])
section
def Vp:PE X (.Dict [] [] pos) Qq:=λZ s U H Q I h=>
 wpAny_Dict_empty ⟨.ref s.heap.objs.size,_,I.laid (a:=s.heap.objs.size) (o:=.dK []) (t':=s.toks) (λ_ _ q=>ZE _ q) (ZG _)<|TU s.heap I.big,rfl,h _<|I.hok.fresh<|ZG _⟩
def Iy:PE X (.Dict [] [] pos) Qp:=λZ s U H Q I h=>
 wpAny_Dict_empty ⟨.ref s.heap.objs.size,_,I.laid (a:=s.heap.objs.size) (o:=.dT []) (t':=s.toks) (λ_ _ q=>ZE _ q) (ZG _)<|LZ s.heap I.big,rfl,h _<|I.hok.fresh<|ZG _⟩
end
def BE:List (TE×TE)->St->Hp->(List (V×V)->Hp->Prop)->Prop
 |[],_,H,Q=>Q [] H
 |(tk,tv)::r,U,H,Q=>tk U H λx H1=>tv U H1 λy H2=>BE r U H2 λps H3=>Q ((x,y)::ps) H3
abbrev VV:List (V×V)->List (Value×Value)->Prop:=Paired λp q=>RelV p.1 q.1/\RelV p.2 q.2
def PPs(X:Cx)(pos:Pos)(keys:List (Option Expr))(values:pI)(trs:List (TE×TE)):Prop:=
 ∀(Z:kU)(s:Shared)(U:St)(H:Hp)(Q:List (V×V)->Hp->Prop),Inv X Z U H s->BE trs U H Q->
  wpAny (model X.prog X.w) X.A (evalPairs<|pairTrees keys values X.env pos) (λL M=>∃J G,Inv X Z U G M/\VV J L/\Q J G) X.xe s
def Oh:PPs X pos [] [] []:=λZ s U H Q I h=>pairTrees_nil_walk ⟨[],H,I,.nil,h⟩
def Iu(S:PE X k tk)(F:PE X v tv)(A:PPs X pos E G trs):
  PPs X pos (some k::E) (v::G) ((tk,tv)::trs):=λZ s U H Q I h=>
 pairTrees_cons_walk (thn (S Z s U H _ I h) λu M ⟨x,t,j,O,B⟩=>thn (F Z M U t _ j B) λg L ⟨y,q,P,N,T⟩=>
  thn (A Z L U q _ P T) λm p ⟨D,z,C,J,R⟩=>⟨(x,y)::D,z,C,.cons ⟨O,N⟩ J,R⟩)
def Gy(kvs more:pj):pj:=more.foldl (λZ J=>putK Z J.1 J.2) kvs
def KV.merge:∀{more:pj}{G:List (Key×Value)}{Z:pj}{J:List (Key×Value)},KV more G->KV Z J->KV (Gy Z more) (merged J G):=by
 intro more G Z J r;unfold KV at r
 induction r generalizing Z J with
 |nil=>intro q;exact q
 | @cons p q N M h t ih=>
  intro L
  have e:KV (putK Z p.1 p.2) (stored J q.1 q.2):=by
   have:=L.put p.1 h.2;rw[<-h.1];exact this
  exact ih e
theorem XR:∀(more Z:pj),(Gy Z more).length<=Z.length+more.length
 |[],Z=>by show Z.length<=Z.length+0;omega
 |p::r,Z=>by
  have G:=XR r<|putK Z p.1 p.2;have J:=Vd Z p.1 p.2;show(Gy (putK Z p.1 p.2) r).length<=_;rw[Zf];omega
theorem Ta:∀{Z:pj}{G:List (Value×Value)},VV (Z.map λL=>(kV L.1,L.2)) G->∃J,Carries (Y7 P w) G J/\KV Z J
 |[],_,r=>by rw[jh]at r;cases r;exact⟨[],True.intro,.nil⟩
 |p::Z,_,r=>by
  rw[ZV]at r
  cases r with
  | @cons a b R N h t=>
   obtain⟨J,c,q⟩:=Ta (P:=P) (w:=w) t;obtain⟨O,M⟩:=b;exact⟨(p.1,M)::J,⟨U2 h.1,Y,c⟩,.cons ⟨Y,h.2⟩ q⟩
def A5(trs:List (TE×TE)):TE:=λU H Q=>∀p,H p=none->BE trs U (upd H p<|.dK []) λL G=>G p=some (.dK [])/\∃Z:pj,L=Z.map (λJ=>(kV J.1,J.2))/\Z.length<=15/\Q (.ref p) (upd G p<|.dK<|Gy [] Z)
def On(h:PPs X pos keys values trs)(G:keys.all (·.isSome)=true)(j:keys.length=values.length)(g:keys≠[])(N:keys.length<=15):PE X (.Dict keys values pos) (A5 trs):=by
 intro Z s U H Q I q;have C:=I.hok.fresh<|ZG s.heap.objs.size;have d:=I.laid (a:=s.heap.objs.size) (o:=.dK []) (h':=s.heap.push {cls:=.type "dict",data:=.dict #[]}) (t':=s.toks) (λ_ _ q=>ZE _ q) (ZG _)<|TU s.heap I.big;refine wpAny_Dict_walk (knd:=Y7 X.prog X.w) G j g N<|thn (h Z _ U _ _ d<|q _ C) λf u ⟨v,l,O,M,e,J,k,r,E⟩=>?_;subst k;obtain⟨T,c,B⟩:=Ta (P:=X.prog) (w:=X.w) M;obtain⟨z,t,R,D,p⟩:=Nc O.hok e;cases D;refine⟨T,c,p,λh' L A=>⟨.ref s.heap.objs.size,_,?_,Y,E⟩⟩
 have F:(Gy [] J).length<=sizeLine:=by
  have m:=XR J [];rw[qC]at m;rw[q0];omega
 have y:∃q,h'.get? s.heap.objs.size=some q:=let⟨q,_,_,S,_⟩:=L;⟨q,S⟩
 exact X2 O (by rw[e];exact True.intro) A y<|Xf F t (B.merge .nil) L
structure M1(X:Cx)(o:Expr)(m:Str)(apos:Pos)(e:Expr)(cpos:Pos):Prop where
 base:attributeBase o m X.env (eval o X.env)=eval o X.env
 few:((backTo cpos (starEach [e] X.env)).all (λx=>!x.1) && (backToKw cpos (keywordEach [] X.env)).all (λx=>x.1.isSome)
  && decide (([e]:List Expr).length+([]:List Keyword).length+(if([]:List Keyword).isEmpty then 0 else 1)<30))=true
 line:(apos.endLine==cpos.line)=true
 trees:backTo cpos (starEach [e] X.env)=[(false,eval e X.env)]
def IsD(H:Hp)(a:Addr):Prop:=(∃Z,Rd H a<|.dK Z) \/ ∃Z,Rd H a<|.dT Z
def AQ(I:Inv X M U H s)(d:IsD H a):
  s.TypeIs (.ref a) "dict" /\(∀b,Value.ref a=.ref b->∃Z,s.heap.get? b=some Z/\Z.dict=none)/\(a==sysModules)=false:=by
 rcases d with⟨J,e⟩|⟨J,e⟩
 .obtain ⟨_,hd,vs,_,dd⟩:=Xy I.hok e
  refine⟨dd.typeIs,λb q=>?_,hd⟩;cases q;obtain⟨Z,_,_,L,G,_⟩:=dd;exact⟨Z,L,G.2.1⟩
 .obtain ⟨_,hd,xs,_,dd⟩:=TQ I.hok e
  refine⟨dd.typeIs,λb q=>?_,hd⟩;cases q;obtain⟨Z,_,_,L,G,_⟩:=dd;exact⟨Z,L,G.2.1⟩
section
def Af(D:A.units+1<cLine)(I:Inv X J U H s)(g:Vi H a y o)(T:RelV y u)(h:∀O R,Inv X J U H R->RelV (o.getD .non) O->Q O R):
  wpAny (model X.prog X.w) A (call (.builtin "dict.get") [.ref a,u]) Q E s:=by
 rcases g with⟨L,k,e,N,l⟩|⟨L,k,b,e,N,F,l⟩
 .subst N
  obtain⟨z,M,S,Z,G⟩:=Xy I.hok e;refine call_meetsIn qG G.typeIs PySem.F.entry_dict_get (PySem.F.args_dict_get_2 _ _) (meets_dict_get (Y7 X.prog X.w) a (U2 T) M) ⟨_,G.mapOf,h _ _ (I.tok _) ?_⟩;rw[l];exact(Z.val k).getD rfl
 .subst N
  cases(show u=Value.ref b from T);obtain⟨z,M,B,Z,G⟩:=TQ I.hok e;refine call_meetsIn qG G.typeIs PySem.F.entry_dict_get (PySem.F.args_dict_get_2 _ _) (meetsH_dict_get (tupleKind<|Y7 X.prog X.w) a b M) ⟨jS D,k,B,Wb I.hok F,G,h _ _ (I.tok _) ?_⟩;rw[l];exact(Z.val k).getD rfl
end
def Qt(td ty:TE):TE:=λU H Q=>td U H λx J=>V9 x λa=>IsD J a/\ty U J λy Z=>∃o,Vi Z a y o/\Q (o.getD .non) Z
section
def Gq(D:X.A.units+1<cLine)(E:PE X o td)(F:PE X e ty)(m:M1 X o "get" apos e cpos):PE X (.Call (.Attribute o "get" apos) [e] [] cpos) (Qt td ty):=by
 intro Z s U H Q I h;refine wpAny_Call_method m.base m.few m.line PySem.F.plainAttrs_dict qG PySem.F.type_dict_get<|thn (E Z s U H _ I h) λu O ⟨x,j,L,T,J⟩=>?_;replace J:=V9.old J;obtain⟨a,A,d,J⟩:=J;subst A;obtain rfl:u=Value.ref a:=T;obtain⟨N,M,_⟩:=AQ L d;exists N,M;rw[m.trees];refine Calls.callWith_builtin Y (Calls.evalArgs_plain<|Calls.spliced_cons<|thn (F Z O U j _ L J) λp t ⟨y,P,C,R,k,g,B⟩=>Calls.spliced_nil ?_);exact Af D C g R λz q S G=>⟨_,P,S,G,B⟩
end
end L2
namespace Att
open PySem PySem.W PySem.Calls PyProof.Rows
def Wp:∀(Z:List Int)(J:List Value),WellAll P h J (Z.map WData.int)->IntsAre J Z:=by
 intro Z
 induction Z with
 |nil=>
  intro J w;rw[jh]at w;cases w;exact .nil
 |cons n Z ih=>
  intro J w;rw[ZV]at w
  cases w with
  |cons a b=>
   cases a;exact .cons _ _<|ih _ b
def E7{l:OpenLaw}(I:l.most=some n)(J:l.row.toRowW.claim.pre args=true)(O:WellAll P h vals args):
  ∃a T Z,vals=[Value.ref a]/\args=[WData.list (Z.map WData.int)]/\h.get? a=some {cls:=.type "list",data:=.seq T.toArray}/\IntsAre T Z/\Z.length<=n:=by
 have R:WShape.hasAll [] args [.list .int]=true:=(pre_splitW J).1;have B:l.pre.holds [] {args:=args}=true:=(pre_splitW J).2;obtain⟨d,r,rfl,C,U⟩:=hasAllW_cons R;obtain rfl:=hasAllW_nil U;obtain⟨X,rfl,S⟩:=hasW_list C;obtain⟨Z,rfl⟩:=items_int S
 have G:Z.length<=n:=by
  unfold OpenLaw.pre at B
  have N:(WTm.not<|.lt (.lit<|.int (n:Int))<|.len<|.arg 0).holds [] {args:=[.list (Z.map .int)]}=true:=by
   have N:=(holds_andW B).1;rw[I]at N;exact N
  have M:=condW_of N<|w_not<|w_lt w_lit<|w_len_list<|w_arg rfl;rw[ZA]at M;refine jA λq=>?_;have F:(n:Int)<((Z.length:Nat):Int):=by omega
  first
   |(rw[decide_eq_true F]at M;exact Zr M<|by decide)
   |(simp at M;omega)
 cases O with
 |cons E D=>
  cases D
  cases E with
  |list A L=>exact⟨_,_,Z,Y,Y,A,Wp Z _ L,G⟩
def FE(l:OpenLaw)(args:List WData):l.row.toRowW.claim.post args (.bool true) args=true:=
 postW_of (r:=l.row.toRowW) (X:=(true==true))
  (show WShape.has [] (.bool true) .bool=true by first|rfl|decide|simp[WShape.has,WShape.arms,WShape.armsAll])
  (show(WTm.eq .res<|.lit<|.bool true).value [] {args:=args,res:=some<|.bool true,after:=args}=some (.bool<|true==true)from w_eq_bool (w_res rfl) w_lit) rfl
theorem attach_call{l:OpenLaw}(g:l.most=some n)(X:d.params.defaults=[])(call:∀(w:World)(J Z:Shared)(F S:Str->Option Value)(B:Addr)(o:Obj)(I A M:Value)(a:Addr)(N:List Value)(E:List Int),
   Ground q loose [] XP w J F S Z.heap->YP w Z.heap->
   Z.heap.get? B=some o->o.data=.func (docDef d.name d.params d.body d.scope I A M)->Z.heap.CodeRec A d.name->F d.name=some (.ref B)->
   Z.heap.get? a=some {cls:=.type "list",data:=.seq N.toArray}->IntsAre N E->E.length<=n->Z.gens= #[]->
   codeAny (model l.prog w) callerA (.call (.ref B) ⟨[.ref a],[]⟩) (λr D=>r=.ok (.ret<|.bool true)/\OldK Z.heap D.heap/\D.os=Z.os/\AllBare D.gens) Z):
  WalkO q loose XP YP l.row.toRowW d [] (λf N=>PySem.call f N):=by
 intro w J Z F S G Y B o I A M i kV m u P y C c args Q s O j z U p;obtain rfl:i=.none:=Dflts.none y X;obtain rfl:kV=.none:=Dflts.noKw y;obtain⟨a,N,E,rfl,rfl,R,L,T⟩:=E7 g O U;refine enter_call<|qO (call w J Z F S B o I A M a N E G Y m (fd_plain u) P C R L T c) λr D t=>?_;obtain⟨rfl,e,b,v⟩:=t;exact⟨.inl ⟨.bool true,.bool true,[],rfl,λ_=>rfl,.bool true,FE l _,λ_=>⟨List.Pairwise.nil,λ_ k=>(nomatch k)⟩⟩,e,b,v⟩
end Att
namespace L2
open PySem PySem.Spec PyProof.Rows
theorem To:∀{Z:kX}{J:pe},IntsAre Z J->Vals (J.map V.int) Z
 |_,_,.nil=>.nil
 |_,_,.cons n t h=>.cons ⟨t,rfl⟩<|To h
def Am(H:Hp):Prop:=∀b,H b=none \/ ∃o Z,H b=some (.frz o<|.lst Z)
def Kx{K:W.Frag}(KX:K.In s₁.heap)(D:s₁.heap.Ns mainGlobals C)(J:s₁.heap.Ns builtinsNs mb)(y:∀x:Str,x≠"__name__" ->mb x=bootBuiltins x)(E:s₁.heap.NoLimit)(hg:s₁.gens= #[])(X:s₁.heap.get? a=some {cls:=.type "list",data:=.seq N.toArray})(l:IntsAre N U)(f:U.length<=sizeLine)(hr:Vr k callerA)(F:∀base:Heap,K.In base->base.Ns mainGlobals C->Yf P w K C base CX k fa fd [x] sp)(M:∀(s:Shared)(u:Value),BindsTo s fd ⟨[u],[]⟩ [(x,u)])(j:∀H:Hp,Am H->SqL K H a (U.map V.int)->sp [.ref a] H (λv _=>v=.bl true) λ_ _ _=>False)(t:∀H e G,CX [] H s₁ (λ_ _ _=>False) e G->False):
  codeAny (model P w) callerA (.call (.ref fa) ⟨[.ref a],[]⟩) (λr G=>r=.ok (.ret<|.bool true)/\OldK s₁.heap G.heap/\G.os=s₁.os/\AllBare G.gens) s₁:=by
 have c:=To l;have R:=l.length;have core:∀H:Hp,Am H->SqL K H a (U.map V.int)->HOk P w H s₁.heap->(∀b,H b≠none->b=a)->(H a≠none->K.lookup a=none)->
   codeAny (model P w) callerA (.call (.ref fa) ⟨[.ref a],[]⟩) (λr G=>r=.ok (.ret<|.bool true)/\OldK s₁.heap G.heap/\G.os=s₁.os/\AllBare G.gens) s₁:=by
  intro H i hS B hA hK;have Z:∀{b:Addr}{o:Obj},s₁.heap.get? b=some o->H b=none->(MN s₁.heap H).get? b=some o:=λe n=>LA e n
  have Q:∀{b:Addr}{o:Obj}{I:Array DictEntry}{S:Nat},s₁.heap.get? b=some o->o.data=.dict I S->H b=none:=λ{b o I S} e d=>by
   cases q:H b with
   |none=>rfl
   |some u=>
    have g:b=a:=hA b (by rw[q];simp);subst g;rw[X]at e;cases e;have d':Data.seq N.toArray _=Data.dict I S:=d;cases d'
  have L:∀{b:Addr}{m:Str->Option Value},s₁.heap.Ns b m->(MN s₁.heap H).Ns b m:=λ{b m} ⟨o,I,S,e,d,r⟩=>⟨o,I,S,Z e<|Q e d,d,r⟩
  have A:K.In (MN s₁.heap H):=λb o e=>Z (KX b o e) (by
   cases q:H b with
   |none=>rfl
   |some u=>
    have g:b=a:=hA b (by rw[q];simp);subst g;rw[hK (by rw[q];simp)]at e;cases e)
  have hM:Mod K C (MN s₁.heap H):=⟨A,L D,⟨mb,L J,y⟩,let⟨mc,h1,h2⟩:=E;⟨mc,L h1,h2⟩⟩;have e0:Dv P w K C (MN s₁.heap H) callerA [] s₁ H:=⟨rfl,hM,λb o e=>PH e,qv<|FU _ _,trivial,λb J=>Zr (show b∈([]:pf)from J) (by simp),B,.of_eq hg⟩;refine qO ((F _ A<|L D).run callerA [] s₁ H ⟨[.ref a],[]⟩ [.ref a] [.ref a] _ _ hr e0 (M s₁<|.ref a) (.cons rfl .nil)<|j H i hS) λr G h=>?_
  cases r with
  |error e=>exact(t H e G h).elim
  |ok fl=>
   cases fl with
   |next=>exact False.elim h
   |brk=>exact False.elim h
   |cont=>exact False.elim h
   |ret u=>
    obtain⟨v,H',os,bare,p,T,r',q⟩:=h;have q':v=.bl true:=q;subst q';obtain rfl:u=Value.bool true:=r';refine⟨Y,OldK.of_keep λb o e=>?_,os,bare⟩
    cases q:H b with
    |none=>exact p.keep b o e q (by intro z;exact Zr (show b∈([]:pf)from z)<|by simp)<|by simp
    |some u=>
     rcases i b with z|⟨ob,xs,z⟩
     .rw [q]at z;cases z
     .have z2:=p.frzs b ob _ z
      obtain⟨e1,_⟩:=B b _ z;obtain⟨e2,_⟩:=T b _ z2;rw[e]at e1;cases e1;exact e2
 cases hk:K.lookup a with
 |some o=>
  have e:=KX a o hk;rw[X]at e;cases e;refine core (λ_=>none) (λ_=>.inl Y) (.inr ⟨_,N.toArray,_,hk,Y,Y,Y,by rw[ZO,R];exact f,by simpa using c⟩) (λb u z=>by have O:(none:Option HO)=some u:=z;cases O) (λb z=>Zr Y z) λz=>Zr Y z
 |none=>
  refine core (λb=>if b=a then some (.frz {cls:=.type "list",data:=.seq N.toArray}<|.lst<|U.map V.int)else none) (λb=>?_) (.inl<|.inr ⟨{cls:=.type "list",data:=.seq N.toArray},Zp rfl⟩) (λb u z=>?_) (λb z=>?_) λ_=>hk
  .by_cases J:b=a
   .exact .inr ⟨_,_,Zp J⟩
   .exact .inl (Zq J)
  .by_cases J:b=a
   .have O:=(Zp J).symm.trans z
    cases O;subst J;exact⟨X,by rw[ZA];exact f,N,_,c,X⟩
   .have O:=(Zq J).symm.trans z
    cases O
  .by_cases J:b=a
   .exact J
   .exact Zr (Zq J) z
theorem walk_of{l:W.OpenLaw}{K:Params->W.Frag}{CX:World->CXT}{sp:World->Sp}(Q:l.most=some n)(D:n<=sizeLine)(A:d.params.defaults=[])(P:Vr k callerA)(t:∀(w:World)(h:Heap),YP w h->(K w.params).In h)(F:∀(w:World)(L:Str->Option Value)(R:Addr)(h:Heap),(K w.params).In h->h.Ns mainGlobals L->L d.name=some (.ref R)->
   ∃S:FuncData,(∀(s:Shared)(u:Value),BindsTo s S ⟨[u],[]⟩ [(x,u)])/\
    ∀base:Heap,(K w.params).In base->base.Ns mainGlobals L->Yf l.prog w (K w.params) L base (CX w) k R S [x] (sp w))(B:∀(w:World)(H:Hp)(a:Addr)(O:pe),O.length<=n->Am H->SqL (K w.params) H a (O.map V.int)->sp w [.ref a] H (λv _=>v=.bl true) λ_ _ _=>False)(I:∀(w:World)(H:Hp)(s:Shared)(e:Value)(T:Shared),CX w [] H s (λ_ _ _=>False) e T->False):
  W.WalkO q loose XP YP l.row.toRowW d [] (λf U=>PySem.call f U):=by
 refine Att.attach_call Q A λw C M L b R o r cd c a U O G Y i hd y E N J Z j=>?_;have X:=t w _ Y;obtain⟨S,z,p⟩:=F w L R _ X G.T.g E;exact Kx X G.T.g G.T.b G.T.builtins G.T.nolimit j N J (Zb Z D) P p z (λH g m=>B w H a O Z g m) λH e T=>I w H M e T
def inClass(s:Stmt)(j:Nat):Stmt:=match s with
 |.ClassDef _ _ _ body _ _ _ _ _ _ _=>body.getD j<|.Pass ⟨0,0,0,0⟩
 |_=>.Pass ⟨0,0,0,0⟩
def JO(s:Stmt):Arguments:=match s with
 |.FunctionDef _ a _ _ _ _ _ _ _ _=>a
 |_=>{posonlyargs:=[],args:=[],vararg:=none,kwonlyargs:=[],kw_defaults:=[],kwarg:=none,defaults:=[]}
def Vw(s:Stmt):List Stmt:=match s with
 |.FunctionDef _ _ b _ _ _ _ _ _ _=>b
 |_=>[]
def Ye(s:Stmt):Scope:=match s with
 |.FunctionDef _ _ _ _ _ _ sc _ _ _=>sc
 |_=>{kind:=.function,names:=[],isGenerator:=false,isCoroutine:=false}
abbrev CX0:CXT:=λ_ _ _ _ _ _=>False
abbrev E0:XK:=λ_ _ _=>False
def Y1:Uj CX0 X E0:=λ_ _ _ _ _ _ _ h=>h.elim
structure Fun(K:W.Frag)(x qual:Str)(st:Stmt)(f:Addr)(fd:FuncData):Prop where
 ex:∃(oc:Value)(od:Option Addr)(kV doc pm:Value)(an:Option Addr)(cdv ct:Value)(osl:Array (Option Value)),
  fd=W.fnOf x qual (JO st) (Vw st) (Ye st) .none kV doc pm an cdv ct/\K.lookup f=some ⟨oc,od,.func fd,osl⟩/\W.codeIn K cdv qual=true
 kp:W.keepIn K (.ref f)=true
section
variable{K:W.Frag}
def Fun.ok{M:Stmt}(F:Fun K x qual M f j)(S:Yi N D (Ye M))(O:∀G H Q E,B G H Q E->G.length=D.length)(L:∀(J:Value)(A:Around)(Z:List Env)(s:Shared)(H:Hp)(G:px)(Q:VK)(E:XK),Vr k (A.deeper<|envOfC qual (Ye M) s.heap.objs.size f J)->B G H Q E->
   ∃t,PSs (Vh CX0 P w K U base N qual (Ye M) f J A Z s H E).nox (Vw M) t/\t {nx:=λ_ z=>Q .non z,rt:=Q} (start N G) H):Yf P w K U base CX0 (k+1) f j D B:=by
 obtain⟨p,g,kV,y,m,d,J,c,I,rfl,C,T⟩:=F.ex;refine QY C T S O λA Z s H G Q E X R=>?_;obtain⟨t,h,q⟩:=L J A Z s H G Q E X R;exact⟨t,h.nox,q⟩
def Fun.oq{L:Stmt}(F:Fun K x qual L f D)(S:Yi N T (Ye L))(J:∀(M:Value)(A:Around)(Z:List Env)(s:Shared)(H:Hp)(G:px)(Q:VK)(E:XK),Vr k (A.deeper<|envOfC qual (Ye L) s.heap.objs.size f M)->R G H Q E->
   ∃t,PSs (Vh CX0 P w K B base N qual (Ye L) f M A Z s H E).nox (Vw L) t/\t {nx:=λ_ I=>Q .non I,rt:=Q} (start N G) H)(O:∀G H Q E,R G H Q E->G.length=T.length:=by intro G H Q E h;repeat (obtain⟨e,h⟩:=h;first|(subst e;exact Y)|skip)):Yf P w K B base CX0 (k+1) f D T R:=F.ok S O J
def Fun.binds{G:Stmt}(F:Fun K x qual G f D)(h:∀(kV Z M:Value)(O:ph)(J N:Value)(L:kX),L.length=R.length->bindArgs (W.fnOf x qual (JO G) (Vw G) (Ye G) .none kV Z M O J N) ⟨L,[]⟩=pure (R.zip L)):Binds K D R []:=by
 obtain⟨A,E,kV,Z,M,O,J,N,T,rfl,I,B⟩:=F.ex;exact .all<|h kV Z M O J N
def LT{st:Stmt}{kV J G Z L:Value}(l:K.lookup f=some ⟨oc,od,.func<|W.fnOf x qual (JO st) (Vw st) (Ye st) .none kV J G an Z L,osl⟩)(c:W.codeIn K Z qual=true)(k:W.keepIn K (.ref f)=true):Fun K x qual st f (W.fnOf x qual (JO st) (Vw st) (Ye st) .none kV J G an Z L):=⟨⟨oc,od,kV,J,G,an,Z,L,osl,rfl,l,c⟩,k⟩
end
def V7(Z:Vr k A):A.units+1<cLine:=j8 (Nat.add_le_add_left (by decide:1<=64) _) Z.units
def Yv(h:n<=1000):n<sizeLine:=j8 h<|by decide
section
def pv(i:Nat)(L:X.N[i]?=some x:=by rfl)(J:Vis X.env.scope x:=by first|exact Or.inl Y|exact Or.inr (Or.inl Y)|exact Or.inr<|Or.inr rfl)(G:(x==("__debug__":Str))=false:=by decide)(Z:(x==("__classdict__":Str))=false:=by decide):PE X (.Name x pos) (BC i):=Sj L J G Z
end
def AO{c A B:Prop}[Decidable c](J:c->A)(Z:¬c->B):if c then A else B:=by
 by_cases h:c
 .rw [Zp h]
  exact J h
 .rw [Zq h]
  exact Z h
def Same(H H':Hp):Prop:=∀b o,H b=some o->H' b=some o
def Same.refl(H:Hp):Same H H:=λ_ _ h=>h
abbrev Z8:=@Same.refl
def Same.trans(a:Same H J)(b:Same J Z):Same H Z:=λc o h=>b c o<|a c o h
def Same.free(e:Same H Z)(h:Z l=Option.none):H l=Option.none:=by
 cases q:H l with
 |none=>rfl
 |some o=>
  rw[e l o q]at h;cases h
def Same.seq{K:W.Frag}(e:Same H J)(h:SqL K H a Z):SqL K J a Z:=by
 rcases h with(h|⟨o,h⟩)|h
 .exact .inl (.inl<|e _ _ h)
 .exact .inl (.inr ⟨o,e _ _ h⟩)
 .exact .inr h
end L2
namespace PySem.W
open PySem PyProof.Rows
end PySem.W
namespace L2
open PySem PySem.Spec PyProof.Rows
def Dm(O:List (Str×NameKind)):∀(Z:List (Str×Addr)),(∀x∈O,x.2=.free->∃c,env.cells.lookup x.1=some c)->
  ∃L,(forIn O Z (λ(x:Str×NameKind)(r:List (Str×Addr))=>(if(x.2==NameKind.free)=true then do let c <-cellOf env x.1;pure (ForInStep.yield ((x.1,c)::r))else pure (ForInStep.yield r):Sem (ForInStep<|List<|Str×Addr)))=pure L)/\
   (∀x c,L.lookup x=some c->env.cells.lookup x=some c\/Z.lookup x=some c)/\(∀x,(x,NameKind.free)∈O->∃c,L.lookup x=some c)/\(∀x c,Z.lookup x=some c->∃N,L.lookup x=some N):=by
 induction O with
 |nil=>intro Z _;exact⟨Z,Y,λx c h=>.inr h,λx h=>(nomatch h),λx c h=>⟨c,h⟩⟩
 |cons y r ih=>
  intro Z h;obtain⟨n,k⟩:=y
  by_cases hk:k=.free
  .subst hk
   obtain⟨c,D⟩:=h (n,.free) Za rfl;obtain⟨L,B,T,R,M⟩:=ih ((n,c)::Z) λx J=>h x<|ZM _ J;refine⟨L,?_,λx N J=>?_,λx J=>?_,λx N J=>?_⟩
   .rw [<-B]
    simp only[jF,beq_self_eq_true,if_true,cellOf,D]
    rfl
   .rcases T x N J with q|q
    .exact .inl q
    .rw [vX]at q
     cases G:x==n with
     |true=>
      rw[G]at q;have:x=n:=by simpa using G
      subst this;cases q;exact .inl D
     |false=>rw[G]at q;exact .inr q
   .rcases Zd.mp J with q|q
    .cases q
     exact M n c<|by simp[vX]
    .exact R x q
   .cases G:x==n with
    |true=>exact M x c<|by simp[vX,G]
    |false=>exact M x N<|by simp[vX,G,J]
  .obtain ⟨L,B,T,R,M⟩:=ih Z λx J=>h x<|ZM _ J
   have G:(k==NameKind.free)=false:=by simpa using hk
   refine⟨L,?_,T,λx J=>?_,M⟩
   .rw [<-B]
    simp only[jF,G,vY,if_false]
    rfl
   .rcases Zd.mp J with q|q
    .cases q;exact Zr Y hk
    .exact R x q
def TZ(h:∀x∈scope.names,x.2=.free->∃c,env.cells.lookup x.1=some c):
  ∃Z,closureFor scope env=pure Z/\(∀x c,Z.lookup x=some c->env.cells.lookup x=some c)/\(∀x,(x,NameKind.free)∈scope.names->∃c,Z.lookup x=some c):=by
 obtain⟨Z,M,L,G,_⟩:=Dm scope.names [] h;refine⟨Z,?_,λx c J=>(L x c J).resolve_right (by simp),G⟩;rw[<-bind_pure (pure Z:Sem (List<|Str×Addr)),<-M]
 rfl
theorem Ua{scope:Scope}{Z:Env}{x:Str}:∀{names:List (Str×NameKind)},(names.map λ(n,k)=>if(k==NameKind.free && Z.scope.kind==.function && Z.kindOf n==some .cell)then(n,NameKind.cell)else(n,k)).lookup x=some .cell \/
  (names.map λ(n,k)=>if(k==NameKind.free && Z.scope.kind==.function && Z.kindOf n==some .cell)then(n,NameKind.cell)else(n,k)).lookup x=some .free->(∀y∈names,y.2≠.cell)->(x,NameKind.free)∈names
 |[],h,_=>by simp at h
 |(n,k)::r,h,hc=>by
  have ih:= @Ua scope Z x r;rw[ZV]at h
  have G:∀M:NameKind,(∀J,((n,M)::(r.map λ(n,k)=>if(k==NameKind.free && Z.scope.kind==.function && Z.kindOf n==some .cell)then(n,NameKind.cell)else(n,k))).lookup x=some J->(x=n/\M=J)\/(r.map λ(n,k)=>if(k==NameKind.free && Z.scope.kind==.function && Z.kindOf n==some .cell)then(n,NameKind.cell)else(n,k)).lookup x=some J):=λM J q=>by
   rw[vX]at q
   cases hb:x==n with
   |true=>rw[hb]at q;exact .inl ⟨by simpa using hb,ZT q⟩
   |false=>rw[hb]at q;exact .inr q
  dsimp only at h
  split at h
  .rename_i hk
   have O:k=.free:=by
    cases k <;> simp at hk
    rfl
   subst O;rcases h with h|h
   .rcases G _ _ h with⟨e,_⟩|q
    .subst e;exact Za
    .exact ZM _ (ih (.inl q) λy L=>hc y<|ZM _ L)
   .rcases G _ _ h with⟨e,_⟩|q
    .subst e;exact Za
    .exact ZM _ (ih (.inr q) λy L=>hc y<|ZM _ L)
  .rcases h with h|h
   .rcases G _ _ h with⟨e,N⟩|q
    .exact Zr N (hc (n,k) Za)
    .exact ZM _ (ih (.inl q) λy L=>hc y<|ZM _ L)
   .rcases G _ _ h with⟨e,N⟩|q
    .subst e;subst N;exact Za
    .exact ZM _ (ih (.inr q) λy L=>hc y<|ZM _ L)
def Ni(I:Nat->Shared->Prop)(turn:∀n s,I n s->wpAny (model prog w) A (pyNext L) (λr G=>match r with
   |none=>R (.ok .next) G
   |some v=>wpAny (model prog w) A (letOwnedTupleGo target L v) (λ_ J=>wpAny (model prog w) A (assign target env v) (λ_ T=>wpAny (model prog w) A (eval elt env) (λx O=>
     wpAny (model prog w) A (call (.builtin "list.append") [acc,x]) (λ_ N=>∃m,m<n/\I m N) (λ_ _=>False) O)
     (λ_ _=>False) T) (λ_ _=>False) J) (λ_ _=>False) G) (λ_ _=>False) s)(n:Nat)(h:I n s):codeAny (model prog w) A
   (.compLoop (.ListComp elt [⟨target,iter,[],0⟩] scope pos) 0 L acc env) R s:=by
 refine codeAny_loop Y I (λn s D=>wpAny_noted (m:=compTurn (.ListComp elt [⟨target,iter,[],0⟩] scope pos) 0 L acc env) ?_) n h;rw[compTurn_list1];refine Zl<|vU<|Zl<|Zn (turn n s D) (λr G B=>?_) λ_ _ Z=>Z.elim
 cases r with
 |none=>exact Zm B
 |some v=>
  exact Zl (Zn B (λ_ J M=>Zl (Zn M (λ_ T S=>Zl (Zl (Zn S (λx O F=>Zl (Zn F
   (λ_ N E=>Zm<|Zm ⟨rfl,E⟩) λ_ _ Z=>Z.elim)) λ_ _ Z=>Z.elim))) λ_ _ Z=>Z.elim)) λ_ _ Z=>Z.elim)
theorem Uv{Z:Env}{x:Str}:∀{names:List (Str×NameKind)},names.lookup x=some .free->
  (names.map λ(n,k)=>if(k==NameKind.free && Z.scope.kind==.function && Z.kindOf n==some .cell)then(n,NameKind.cell)else(n,k)).lookup x≠some .local
 |[],h=>by simp at h
 |(n,k)::r,h=>by
  have ih:= @Uv Z x r;rw[ZV];dsimp only[rI0,rI,U3];rw[vX]at h
  cases hb:x==n with
  |true=>
   rw[hb]at h;have J:k=.free:=ZT h;subst J
   split <;> simp[vX,hb]
  |false=>
   rw[hb]at h
   split <;> (simp only[vX,hb];exact ih h)
def VM(X:Cx)(N':kZ)(scope:Scope)(cl:List (Str×Addr))(C:Addr)(fp:pf)(s:Shared)(H:Hp):Cx:=
 {X with N:=N',s₀:=s,H₀:=H,env:=compEnvC scope cl C X.env,outer:=X.stack,stack:=X.stack,ex:=fp,fn:=λ_=>false,pn:=[],xe:=λ_ _=>False}
def VU(X:Cx)(own:kZ)(ix:List Nat):kZ:=own++ ix.map λj=>X.N.getD j ("":Str)
def VY(k:Nat)(ix:List Nat)(U:St):St:=List.replicate k none++ ix.map λj=>U.getD j none
def GK(k:Nat)(g:TG):Prop:=∀x U H Q,g x U H Q->g x U H fun σ2 Z=>Q σ2 Z/\σ2.length=U.length/\σ2.drop k=U.drop k
def Vv(h:i<k):GK k (Vm i):=λx U H Q q=>⟨q,by simp,by rw[List.drop_set,Zp h]⟩
def GKs(k:Nat)(g:TGs):Prop:=∀x U H Q,g x U H Q->g x U H fun σ2 Z=>Q σ2 Z/\σ2.length=U.length/\σ2.drop k=U.drop k
def DY:GKs k Wr:=λx U H Q q=>by
 match x,q with
 |[],q=>exact⟨q,Y,Y⟩
def XJ(R:GK k g)(O:GKs k gs)(N:∀x U H (Q Z:pC),(∀a b,Q a b->Z a b)->g x U H Q->g x U H Z)(M:∀x U H (Q Z:pC),(∀a b,Q a b->Z a b)->gs x U H Q->gs x U H Z):GKs k (JL g gs):=λx U H Q q=>by
 match x,q with
 |v::r,q=>
  refine N _ _ _ _ _ (λa b z=>?_)<|R _ _ _ _ q;obtain⟨L,G,J⟩:=z;refine M _ _ _ _ _ (λc d y=>?_)<|O _ _ _ _ L;exact⟨y.1,y.2.1.trans G,y.2.2.trans J⟩
def DX{K:W.Frag}(h:GKs k gs):GK k (MV K n gs):=λx U H Q q=>by
 match x,q with
 |.ref a,q=>
  obtain⟨Z,G,J,q⟩:=q;exact⟨Z,G,J,h _ _ _ _ q⟩
def Te(J:It)(g:TG)(te:TE)(s0:St)(Q:VK)(H1:Hp):Prop:=∃W:Nat->Nat->List V->Hp->Prop,(∃m,W 0 m [] H1)/\∀i m Z H,W i m Z H->
 Z.length<sizeLine/\((J.stop i H/\∀p,H p=none->Q (.ref p) (upd H p<|.lst Z)) \/
  (J.go i H/\∀x L,J.yld i H x L->g x s0 L fun σ2 N=>te σ2 N λy M=>∃G,G<m/\W (i+1) G (Z++[y]) M))
def QH(k:Nat)(ix:List Nat)(wi:TI)(g:TG)(te:TE):TE:=λU H Q=>wi U H λJ Z=>Te J g te (VY k ix U) Q Z
def Inv.retrack(I:Inv X Z U H s)(O:H D=none)(f:Jj X Z H D)(L:VQ X.prog X.w (upd H D o) s.heap D o):Inv X Z U (upd H D o) s:=by
 have G:∀b u,H b=some u->b≠D:=λb u e=>Ya e O;have r:=I.step (h':=s.heap) (H':=upd H D o) (g':=s.gens) (d':=s.drawn) (t':=s.toks) (ch:=[D])
  (λb J=>by
   have e:b=D:=by simpa using J
   subst e;exact⟨f.2.2.2.1,f.2.1,f.2.2.2.2.1,f.2.2.2.2.2⟩)
  (λb o _ _ _ e _=>e) (λb o _ _ _ e _=>⟨o.slots,e⟩) (λb o J e n=>by rw[Yg (λz=>J<|by simp[z])];exact n) (λb o _ e=>⟨o,e⟩)
  (λb M e=>by rw[Yg (G _ _ e)];exact e) (λb o u e=>by rw[Yg (G _ _ e)];exact e) (λb R e=>⟨#[],by rw[Yg (G _ _ e),e];simp⟩) (λm N=>N)
  (λb u e=>by
   by_cases J:b=D
   .subst J;rw[Yh]at e;cases e;exact L
   .rw [Yg J]at e
    exact(I.hok b u e).stay (λc v _ q=>q) (λc q=>by rw[Yg (G _ _ q)];exact q) λc M q=>by rw[Yg (G _ _ q)];exact q) I.bare
 exact r
def J7(sc:Scope)(outer:List (Str×NameKind))(N:kZ)(ix:List Nat):Bool:=
 sc.names.all (λx=>(decide (x.2≠.local) || decide (sc.names.lookup x.1=some .local)) && decide (x.2≠.cell) && (decide (x.2≠.free) || decide (outer.lookup x.1=some .cell) || decide (outer.lookup x.1=some .free))) &&
  ix.all λj=>match N[j]? with
   |some y=>decide<|sc.names.lookup y=some .free
   |none=>false
def J7.all(Z:J7 sc outer N ix=true):
  (∀x∈sc.names,x.2=.local->sc.names.lookup x.1=some .local)/\(∀x∈sc.names,x.2≠.cell)/\(∀x∈sc.names,x.2=.free->outer.lookup x.1=some .cell\/outer.lookup x.1=some .free)/\∀j∈ix,∃y,N[j]?=some y/\sc.names.lookup y=some .free:=by
 unfold J7 at Z;rw[ZZ,qr,qr]at Z;have each:=λx J=>Z.1 x J;simp only[ZZ,Bool.or_eq_true,decide_eq_true_eq]at each;refine⟨λx J G=>(each x J).1.1.resolve_left λz=>z G,λx J=>(each x J).1.2,λx J M=>?_,λj L=>?_⟩
 .rcases (each x J).2 with(z|z)|z
  .exact Zr M z
  .exact .inl z
  .exact .inr z
 .have q:=Z.2 j L
  cases e:N[j]? with
  |none=>rw[e]at q;cases q
  |some y=>rw[e]at q;exact⟨y,Y,Zt q⟩
structure CB(X:Cx)(own:List Str)(ix:List Nat)(scope:Scope)(pins:List (Addr×Obj))(U:St)(tg:Expr)(cl:List (Str×Addr))(D C:Addr)(fp:List Addr)(it:Addr)(tn:Nat->Heap->Prop)(J:It)(H2:Hp)(s3:Shared):Prop where
 T:Turn X.prog X.w X.K tg J fp it tn
 ok:(VM X (VU X own ix) scope cl C (D::fp) s3 H2).Ok
 nfp:∀b∈fp,b≠D
 f2:∀b∈fp,Jj X pins H2 b
 fD:Jj X pins H2 D
 I3:Inv X pins U H2 s3
 CD:C≠D
 fC:∀H':Hp,H' C=none->Jj X pins H' C
section
def TY{rest:List Comprehension}(own:kZ)(E:List Nat)(hi:PI X tg iter wi)(M:scope.kind=.function)(T7:J7 scope X.env.scope.names X.N E=true)(hs:∀x,foldedSetIterable iter X.env x=pure x)(I:Inv X G U H s)(h:wi U H R)(loop:∀(cl:List (Str×Addr))(D C:Addr)(fp:pf)(it:Addr)(tn:Nat->Heap->Prop)(J:It)(A:Hp)(s3 s5:Shared),CB X own E scope G U tg cl D C fp it tn J A s3->R J A->Inv (VM X (VU X own E) scope cl C (D::fp) s3 A) [] (VY own.length E U) A s5->tn 0 s5.heap->s5.heap.PlainList D (List.toArray [])->
   codeAny (model X.prog X.w) X.A (.compLoop (.ListComp elt (⟨tg,iter,ifs,0⟩::rest) scope pos) 0 (.ref it) (.ref D)<|compEnvC scope cl C X.env) (compPost (model X.prog X.w) X.A X.xe use POST (.ref D) C) s5):
  wpAny (model X.prog X.w) X.A (comprehension (.ListComp elt (⟨tg,iter,ifs,0⟩::rest) scope pos) scope X.env cpos (newList []) false (eval iter X.env) use) POST X.xe s:=by
 obtain⟨G1,Q,O1,T8⟩:=J7.all T7;have G2:∀x∈scope.names,x.2=.free->∃c,X.env.cells.lookup x.1=some c:=λx hx hf=>I.ok.has x.1<|O1 x hx hf;obtain⟨cl,T9,Z,M2⟩:=TZ G2;refine wpAny_comprehension_free Y hs T9 M G1 ?_;refine thn (hi G s U H _ I h) λv s1 h1=>thn h1 λF1 w h2=>?_;obtain⟨it,fp,tn,J,A,e,O,T,R7,f2,hR⟩:=h2;subst e;refine vP<|wpAny_newFunctionEnv Q (by intro y hy;simp at hy) (λh4 J2 n=>?_) M;dsimp only at J2 n |-;generalize hh3:w.heap.push {cls:=.type "list",dict:=none,data:=.seq ([]:kX).toArray}=h3 at J2 n |-;have T0:h3.objs.size=w.heap.objs.size+1:=by rw[<-hh3,vK]
 have l:∀b u,w.heap.get? b=some u->h3.get? b=some u:=λb u q=>by rw[<-hh3];exact ZE _ q
 have D3:h3.get? w.heap.objs.size=some {cls:=.type "list",data:=.seq #[]}:=by rw[<-hh3];exact ZY _ Y
 obtain⟨D,g⟩:∃D,D=w.heap.objs.size:=⟨_,rfl⟩;obtain⟨C,hC⟩:∃C,C=h3.objs.size:=⟨_,rfl⟩;rw[<-hC]at J2 n;rw[<-g]at D3 T0;have F:C=D+1:=hC.trans T0
 let s3:Shared:={w with heap:=h3}
 have I3:Inv X G U A s3:=O.kept (t':=w.toks) l;have T6:∀b u,h3.get? b=some u->b<C:=λb u q=>by rw[hC];exact ZP q
 have L:∀b u,h3.get? b=some u->h4.get? b=some u:=λb u q=>n.extBut b u (Ze<|T6 b u q)<|ZE _ q;have D1:A D=none:=O.hok.fresh (by rw[g];exact ZG _);have D2:A C=none:=O.hok.fresh (by rw[F,g];exact jK _);have fD:Jj X G A D:=O.fpOk (by rw[g];exact ZG _) D1
 have f:∀x c,X.env.cells.lookup x=some c->c<D:=λx c e=>by
  obtain⟨v,z⟩:=O.cell x c e;rw[g];exact z.lt
 have R1:∀b∈fp,b<D:=λb N=>by
  obtain⟨o,e,_⟩:=T.obj 0 _ R7 b N;rw[g];exact ZP e
 let X':Cx:=VM X (VU X own E) scope cl C (D::fp) s3 A
 have R6:∀b∈frs X.stack,b∉D::fp:=λb N z=>by
  rcases Zd.mp z with z|z
  .have q:=O.stack
   obtain⟨_,o,e,_⟩:=q.mem N;have:=ZP e;rw[z,g]at this;exact vy _ this
  .rcases Zd.mp (O.stkSub b N)with q|q
   .exact (f2 b z).2.1 q
   .exact (f2 b z).2.2.1 q
 have T1:X'.Ok:=by
  refine⟨I.ok.mod,M,I.ok.glob,I.ok.blt,?_,λx y c h1 h2=>I.ok.inj x y c (Z x c h1)<|Z y c h2,λx hx=>M2 x<|Ua (scope:=scope) hx Q,(λx c z=>Bool.noConfusion (show false=true from z)),I.ok.hd,I.ok.frames,.inl rfl,λb N=>⟨?_,λx c h1=>?_⟩,λb o e=>?_,?_,λb o e N=>?_,λb N z=>R6 b z N,?_,λb N=>O.stkFree b N⟩
  .show h3.objs.size<=C
   rw[hC];exact ZG _
  .show b≠C
   rcases Zd.mp N with z|z
   .rw [z,F];exact Ze<|vi _
   .rw [F];exact Ze<|jN<|R1 b z
  .rcases Zd.mp N with z|z
   .rw [z];exact Ze<|f x c<|Z x c h1
   .exact (f2 b z).2.2.2.2.1 x c (Z x c h1)
  .exact I3.bs b o e
  .show X.base.objs.size<=h3.objs.size
   have:=Zb I.ok.bsz O.sz;rw[<-g]at this;rw[<-hC,F];exact qd this
  .rcases Zd.mp N with z|z
   .have:=ZP<|O.bk b o e
    rw[z,g]at this;exact vy _ this
   .rcases (f2 b z).2.2.2.1 with q|q
    .exact I.ok.noex b o e q
    .have:=Zx (ZP (I.ok.bs b o e).1) q
     exact vy _ this
  .exact I3.stack
 have T2:(VY own.length E U).length=(VU X own E).length:=by simp[VY,VU]
 have I4:∀t,Inv X' [] (VY own.length E U) A {w with heap:=h4,toks:=t}:=λt=>by
  refine⟨T1,Y,O.bare,Un.kept L,⟨_,J2,λi x v e1 e2 e3=>?_⟩,λx c e=>?_,D2,λx c e=>O.freeC x c<|Z x c e,λp hp=>Zr (show p∈([]:kU)from hp) (by simp),(I3.hok).kept L,T2⟩
  .-- a name of the def that the block reads
   have T5:own.length<=i:=by
    apply jA;intro T4;unfold VY at e2;rw[vd (by simpa using T4),jb,Zp T4]at e2;cases e2
   have d:(E.map λj=>X.N.getD j ("":Str))[i-own.length]?=some x:=by
    have z:(own++ E.map λj=>X.N.getD j ("":Str))[i]?=some x:=e1
    rwa [vb T5]at z
   have R8:(E.map λj=>U.getD j none)[i-own.length]?=some (some v):=by
    unfold VY at e2;rw[vb (by simpa using T5)]at e2;simpa using e2
   rw[ZH]at d R8
   cases hj:E[i-own.length]? with
   |none=>rw[hj]at d;cases d
   |some j=>
    rw[hj]at d R8;obtain⟨y,hy,P⟩:=T8 j<|ZJ hj
    have ex:x=y:=by
     have z:X.N.getD j ("":Str)=x:=ZT d;rw[<-z,vg,hy];rfl
    subst ex
    have ev:U[j]?=some (some v):=by
     have z:U.getD j none=some v:=ZT R8;rw[vg]at z
     cases q:U[j]? with
     |none=>rw[q]at z;cases z
     |some a=>rw[q]at z;exact congrArg some z
    have T3:=jd P;have G3:=O1 _ T3 rfl;obtain⟨m,hn,hl⟩:=O.loc;obtain⟨u,r,lk⟩:=hl j x v hy ev<|.inr G3;refine⟨u,r,.inr ⟨?_,?_⟩⟩
    .rcases e3 with z|z
     .exact Zr z (Uv P)
     .exact z
    .rcases lk with⟨k,_⟩|⟨_,c,D0,z⟩
     .rcases G3 with q|q
      .exact Zr (k.symm.trans q) (by simp)
      .exact Zr (k.symm.trans q) (by simp)
     .obtain ⟨c',hc'⟩:=M2 x T3
      have:=Z x c' hc';rw[D0]at this;cases this;obtain⟨o,ho,hd⟩:=z;exact⟨c,hc',o,L _ _<|l _ _ ho,hd⟩
  .obtain ⟨v,z⟩:=I3.cell x c<|Z x c e
   obtain⟨o,ho,hd⟩:=z;exact⟨v,o,L _ _ ho,hd⟩
 have B:CB X own E scope G U tg cl D C fp it tn J A s3:=⟨T,T1,λb N=>Ze<|R1 b N,f2,fD,I3,by rw[F];exact vM<|vi _,λH' hn=>O.fpOk (by rw[F,g];exact jK _) hn⟩;have S:=λt=>loop cl D C fp it tn J A s3 {w with heap:=h4,toks:=t} B hR (I4 t) (T.keep 0 _ _ R7 λb _ o e=>L _ _<|l _ _ e) ⟨_,L _ _ D3⟩;rw[<-hC,<-g];exact codeAny_compStart_list (S _)<|T.self _ 0 _ _ _ (T.keep 0 _ _ R7 λb _ o e=>L _ _<|l _ _ e)<|S _
def CB.stop(B:CB X own ix scope Z U tg cl D C fp P tn J S s3)(G:Inv (VM X (VU X own ix) scope cl C (D::fp) s3 S) [(D,oD)] τ H5 s6)(T:M.length<sizeLine)(R:Vals M L)(A:oD={cls:=.type "list",data:=.seq L.toArray nn}):
  Inv X Z U (upd H5 D<|.lst M) s6/\Jj X Z (upd H5 D<|.lst M) C/\(∃m,s6.heap.Ns C m)/\H5 D=none:=by
 obtain⟨m,O,_⟩:=id G.loc
 have I:Inv X Z U H5 s6:=B.I3.call' (ch:=D::fp) G.os G.base G.hok G.bare λb E=>by
  rcases Zd.mp E with z|z
  .subst z
   exact⟨B.fD.2.2.2.1,B.fD.2.1,B.fD.2.2.2.2.1,B.fD.2.2.2.2.2⟩
  .have f:=B.f2 b z
   exact⟨f.2.2.2.1,f.2.1,f.2.2.2.2.1,f.2.2.2.2.2⟩
 obtain⟨F,N,_⟩:=G.pin (D,oD) (by simp);subst A;exact⟨I.retrack (o:=.lst M) N ⟨N,B.fD.2⟩ ⟨Zh T,L,nn,R,F⟩,B.fC _ (by rw[Yg B.CD];exact G.free),⟨m,O⟩,N⟩
def AZ(R:Inv X Z U L s6)(J:Jj X Z L C)(N:∃m,s6.heap.Ns C m)(q:Q (.ref D) L):compPost (model X.prog X.w) X.A X.xe none (EP X Z U Q) (.ref D) C (.ok .next) s6:=by
 obtain⟨m,M⟩:=N;exact⟨m,M,λT G=>⟨.ref D,_,R.turned (it:=C) (t':=s6.toks) (λb o O e=>(G.2 b O).trans e) J.1 J.2.1 J.2.2.2.1 J.2.2.2.2.1 J.2.2.2.2.2,Y,q⟩⟩
def Dc{F:Ends}(j:X.N.Nodup)(T:X.N[i0]?=some x0)(N:Loc X.env.scope x0)(P:X.fn x0=true\/X.env.scope.names.lookup x0=some .local)(t:Inv X Z U M s6)(G:Jj X Z M C)(S:∃m,s6.heap.Ns C m)(q:Vm i0 (.ref D) U M F.nx):
  compPost (model X.prog X.w) X.A X.xe (some<|assign (.Name x0 py) X.env) (λ_ I=>∃E M,Inv X Z E M I/\F.nx E M) (.ref D) C (.ok .next) s6:=by
 obtain⟨m,R⟩:=S;show wpAny _ X.A (assign (.Name x0 py) X.env<|.ref D) _ _ _;refine wpAny_assign_Name<|Tq (v:=.ref D) t j T N rfl (λA y J=>?_) P;obtain⟨a,J,L⟩:=J
 have B:C≠a:=by
  rcases L with L|L
  .rw [L];exact G.2.1
  .exact λz=>G.2.2.2.2.1 x0 a L z.symm
 exact⟨m,R.sameBut J B,λg O=>⟨_,_,y.turned (it:=C) (t':=A.toks) (λb o Q e=>(O.2 b Q).trans e) G.1 G.2.1 G.2.2.2.1 G.2.2.2.2.1 G.2.2.2.2.2,q⟩⟩
def EL(J:swapsWith (.ListComp e gens scope pos) (some<|.Name x0 py) spos.line X.env=pure true)(h:wpAny (model X.prog X.w) X.A (comprehension (.ListComp e gens scope pos) scope X.env (firstIterPos gens pos) (newList []) (firstAsync gens) (firstIter gens X.env)<|some<|assign (.Name x0 py) X.env) (λ_ G=>∃L M,Inv X Z L M G/\D0.nx L M) X.xe s):
  wpAny (model X.prog X.w) X.A (exec (.Assign [.Name x0 py] (.ListComp e gens scope pos) spos) X.env) (SP X Z D0) X.xe s:=by
 rw[exec_Assign_Name_used _ _ _ _ J];refine Zl<|vU<|Zl (?_:wpAny _ X.A (do let _ <-comprehension (.ListComp e gens scope pos) scope X.env _ (newList []) _ _ (some<|assign (.Name x0 py) X.env)) _ _ s);exact Zl<|Zn h (λ_ G N=>Zm<|Zm N) λ_ _ e=>e
def CB.loop1(B:CB X own ix scope I U tg F D C M it tn J h s3)(hc:X.calm=true)(T0:GK own.length g)(hg:∀F C M s H,PG (VM X (VU X own ix) scope F C M s H) tg g)(he:∀F C M s H,PE (VM X (VU X own ix) scope F C M s H) elt te)(cw:Te J g te (VY own.length ix U) Q h)(T2:∀a A O,Inv X I U (upd A D<|.lst O) a->Jj X I (upd A D<|.lst O) C->(∃m,a.heap.Ns C m)->Q (.ref D) (upd A D<|.lst O)->Rs (.ok .next) a)(I4:Inv (VM X (VU X own ix) scope F C (D::M) s3 h) [] (VY own.length ix U) h t)(O1:tn 0 t.heap)(lD:t.heap.PlainList D (List.toArray [])):
  codeAny (model X.prog X.w) X.A (.compLoop (.ListComp elt [⟨tg,iter,[],0⟩] scope pos) 0 (.ref it) (.ref D)<|compEnvC scope F C X.env) Rs t:=by
 obtain⟨W,⟨m0,w0⟩,turn⟩:=cw;have T:=B.T;have N:=B.ok;have G1:=B.nfp
 let E:Cx:=VM X (VU X own ix) scope F C (D::M) s3 h
 have f:∀{S:Hp}{pl:kU},(∀p∈pl,p.1=D)->(∀b∈M,S b=none)->∀b∈M,Jj E pl S b:=λ{S pl} R hn b L=>
  ⟨hn b L,(N.exf b<|ZM _ L).1,N.exfs b<|ZM _ L,.inl<|ZM _ L,(N.exf b<|ZM _ L).2,λp R6 z=>G1 b L (z ▸ R p (by
   have q:p∈([]:kU)++ pl:=R6;simpa using q))⟩
 have dX:D≠E.env.locals:=(N.exf D Za).1;have dF:D∉E.fs:=N.exfs D Za;refine Ni (λn s'=>∃i O Z S,Inv E [] (VY own.length ix U) S s'/\tn i s'.heap/\(∀b∈M,S b=none)/\S D=none/\s'.heap.PlainList D (List.toArray Z)/\Vals O Z/\W i n O S) ?_ m0
  ⟨0,[],[],h,I4,O1,λb L=>(B.f2 b L).1,B.fD.1,lD,.nil,w0⟩
 rintro n t ⟨i,O,Z,A,I5,J2,G3,d5,⟨nn,l5⟩,v5,w5⟩;obtain⟨hz,c⟩:=turn i n O A w5
 let oD:Obj:={cls:=.type "list",data:=.seq Z.toArray nn}
 have G:∀p∈ [((D,oD):Addr×Obj)],p.1=D:=λp R=>by
  have e:p=(D,oD):=by simpa using R
  rw[e]
 have M2:Inv E [(D,oD)] (VY own.length ix U) A t:=I5.pins_of λp R=>by
  have e:p=(D,oD):=by simpa using R
  subst e;exact⟨l5,d5,dX,dF,λv z=>nomatch z⟩
 rcases c with⟨stop,qn⟩|⟨go,step⟩
 .refine thn (T.done E rfl rfl rfl hc i _ t _ A _ M2 (f G G3) J2 stop) λr a ⟨hr,I6⟩=>?_
  subst hr;obtain⟨z1,z2,z3,nD⟩:=B.stop I6 hz v5 rfl;exact T2 a A O z1 z2 z3<|qn D nD
 .refine thn (T.item E rfl rfl rfl hc i _ t _ A _ M2 (f G G3) J2 go) λr a ⟨u,hr,h6⟩=>?_
  subst hr;refine thn h6 λ_ s7 ⟨x,H7,I7,r7,y7,P,T1⟩=>?_;have T4:=I7.pinned (f G T1)<|T.obj _ _ P;refine thn (hg F C (D::M) s3 h _ s7 _ H7 x u _ T4 r7<|T0 _ _ _ _<|step x H7 y7) λ_ s8 ⟨σ8,H8,I8,q8,l8,k8⟩=>?_;refine thn (he F C (D::M) s3 h _ s8 σ8 H8 _ I8 q8) λyv s9 ⟨y,H9,I9,r9,m',R7,w9⟩=>?_;obtain⟨gD,nD,_⟩:=I9.pin (D,oD) (by simp);have G2:Z.length=O.length:=v5.length.symm;refine wpAny_list_append_plain (l:=D) (items:=Z.toArray) ⟨nn,gD⟩ (λh' R8 R1=>?_) (by rw[ZO,G2];exact Zh hz);have kp:∀b o,b≠D->s9.heap.get? b=some o->h'.get? b=some o:=λb o L q=>(R1.2 b L).trans q
  have T3:Inv E (Va M s7.heap) σ8 H9 s9:=I9.pins_of λp R=>I9.pin p (by
   refine ZU _<|ZU _ R)
  have k:∀p∈E.pn++ Va M s7.heap,p.1≠D:=λp R=>by
   have q:p∈([]:kU)++ Va M s7.heap:=R;exact G1 _ (WU<|by simpa using q).1
  have w:Inv E (Va M s7.heap) σ8 H9 {s9 with heap:=h',toks:=s9.toks}:=T3.turned (it:=D) kp nD dX (.inl Za) (N.exf D Za).2 k;refine⟨m',R7,i+1,O++[y],Z++[yv],H9,?_,?_,?_,nD,?_,v5.append<|.cons r9 .nil,w9⟩
  .refine Inv.weak (w.pins_of (pins':=[]) λp R=>nomatch R) (by rw[l8]) λj v hj=>?_
   by_cases hlt:j<own.length
   .unfold VY at hj
    rw[vd (by simpa using hlt),jb,Zp hlt]at hj;cases hj
   .have e:σ8[j]?=(VY own.length ix U)[j]?:=by
     have q:=congrArg (λl:List (pD)=>l[j-own.length]?) k8;simp only[qZ]at q
     rwa [qR (jA hlt)]at q
    rw[e];exact hj
  .exact T.keep _ _ _ P λb L o e=>(w.pin (b,o)<|ZU _<|V1 L e).1
  .intro b L
   obtain⟨o,e,d⟩:=T.obj _ _ P b L;exact(w.pin (b,o)<|ZU _<|V1 L e).2.1
  .have e:(Z++[yv]).toArray=Z.toArray.push yv:=by simp
   rw[e];exact R8
end
abbrev two(elt tg iter tg2 iter2:Expr)(scope:Scope)(pos:Pos):Expr:=.ListComp elt [⟨tg,iter,[],0⟩,⟨tg2,iter2,[],0⟩] scope pos
section
theorem Bx:compTurn (two elt tg iter tg2 iter2 scope pos) 0 Z acc env=(standAt iter.pos >>=λ_=>pyNext Z >>=λr=>match r with
  |none=>pure<|.done .next
  |some v=>letOwnedTupleGo tg Z v >>=λ_=>assign tg env v >>=λ_=>eval iter2 env >>=λx=>standAt iter2.pos >>=λ_=>foldedSetIterable iter2 env x >>=λx=>holding [x] (pyIter x) >>=λj=>
    runOwn (.compStart (two elt tg iter tg2 iter2 scope pos) 1 j acc env) env >>=λ_=>again<|.compLoop (two elt tg iter tg2 iter2 scope pos) 0 Z acc env):=by rfl
theorem DQ:compTurn (two elt tg iter tg2 iter2 scope pos) 1 Z acc env=(standAt iter2.pos >>=λ_=>pyNext Z >>=λr=>match r with
  |none=>pure<|.done .next
  |some v=>letOwnedTupleGo tg2 Z v >>=λ_=>assign tg2 env v >>=λ_=>(eval elt env >>=λx=>call (.builtin "list.append") [acc,x] >>=λ_=>pure ()) >>=λ_=>
    again (.compLoop (two elt tg iter tg2 iter2 scope pos) 1 Z acc env)):=by rfl
def K7(I:Nat->Shared->Prop)(turn:∀n s,I n s->wpAny (model prog w) A (pyNext J) (λr Z=>match r with
   |none=>R (.ok .next) Z
   |some v=>wpAny (model prog w) A (letOwnedTupleGo tg2 J v) (λ_ N=>wpAny (model prog w) A (assign tg2 env v) (λ_ M=>wpAny (model prog w) A (eval elt env) (λx L=>
     wpAny (model prog w) A (call (.builtin "list.append") [acc,x]) (λ_ G=>∃m,m<n/\I m G) (λ_ _=>False) L) (λ_ _=>False) M) (λ_ _=>False) N) (λ_ _=>False) Z) (λ_ _=>False) s)(n:Nat)(h:I n s):codeAny (model prog w) A (.compLoop (two elt tg iter tg2 iter2 scope pos) 1 J acc env) R s:=by
 refine codeAny_loop Y I (λn s T=>wpAny_noted (m:=compTurn (two elt tg iter tg2 iter2 scope pos) 1 J acc env) ?_) n h;rw[DQ];refine Zl<|vU<|Zl<|Zn (turn n s T) (λr Z O=>?_) λ_ _ z=>z.elim
 cases r with
 |none=>exact Zm O
 |some v=>
  exact Zl (Zn O (λ_ N F=>Zl (Zn F (λ_ M E=>Zl (Zl (Zn E (λx L D=>Zl (Zn D
   (λ_ G B=>Zm<|Zm ⟨rfl,B⟩) λ_ _ z=>z.elim)) λ_ _ z=>z.elim))) λ_ _ z=>z.elim)) λ_ _ z=>z.elim)
def NT(G:codeAny (model prog w) A (.compLoop (two elt tg iter tg2 iter2 scope pos) 1 Z acc env) R s)(h:wpAny (model prog w) A (pyIter Z) (λj J=>codeAny (model prog w) A (.compLoop (two elt tg iter tg2 iter2 scope pos) 1 j acc env) R J) (λ_ _=>False) s):
  codeAny (model prog w) A (.compStart (two elt tg iter tg2 iter2 scope pos) 1 Z acc env) R s:=by
 refine codeAny_of_tree<|wpAny_notedAt (m:=compStart (two elt tg iter tg2 iter2 scope pos) 1 Z acc env) (pos:=theWindowsPlace) ?_;simp only[compStart];refine Zl (m:=ask)<|wpAny_askSetting ?_
 split
 .exact Zl (Zm<|Zm ⟨rfl,G⟩)
 .exact Zl (jD<|Zl<|vU<|Zl<|Zn h (λj J L=>Zm ⟨rfl,L⟩) λ_ _ z=>z.elim)
def KJ(I:Nat->Shared->Prop)(turn:∀n s,I n s->wpAny (model prog w) A (pyNext J) (λr Z=>match r with
   |none=>R (.ok .next) Z
   |some v=>wpAny (model prog w) A (letOwnedTupleGo tg J v) (λ_ O=>wpAny (model prog w) A (assign tg env v) (λ_ N=>wpAny (model prog w) A (eval iter2 env) (λx M=>
     wpAny (model prog w) A (pyIter x) (λj L=>codeAny (model prog w) (A.mark none) (.compStart (two elt tg iter tg2 iter2 scope pos) 1 j acc env) (λr G=>match r with|.ok _=>∃m,m<n/\I m G|.error _=>False) L) (λ_ _=>False) M) (λ_ _=>False) N) (λ_ _=>False) O) (λ_ _=>False) Z) (λ_ _=>False) s)(D:∀x,foldedSetIterable iter2 env x=pure x)(n:Nat)(h:I n s):codeAny (model prog w) A (.compLoop (two elt tg iter tg2 iter2 scope pos) 0 J acc env) R s:=by
 refine codeAny_loop Y I (λn s E=>wpAny_noted (m:=compTurn (two elt tg iter tg2 iter2 scope pos) 0 J acc env) ?_) n h;rw[Bx];refine Zl<|vU<|Zl<|Zn (turn n s E) (λr Z B=>?_) λ_ _ z=>z.elim
 cases r with
 |none=>exact Zm B
 |some v=>
  refine Zl<|Zn B (λ_ O C=>Zl<|Zn C (λ_ N U=>Zl<|Zn U (λx M S=>Zl<|vU ?_) λ_ _ z=>z.elim) λ_ _ z=>z.elim) λ_ _ z=>z.elim;rw[D x];refine Zl<|Zm<|Zl<|wpAny_holding<|Zn S (λj L F=>Zl<|wpAny_runOwn<|qO F λr G T=>?_) λ_ _ z=>z.elim
  cases r with
  |error e=>exact T.elim
  |ok f=>exact Zm ⟨Y,T⟩
end
def In2(wi2:TI)(te:TE)(W:Nat->Nat->List V->Hp->Prop)(i m:Nat)(ys:px):pC:=λU H=>wi2 U H λN B=>∃M:Nat->Nat->List V->Hp->Prop,(∃L,M 0 L ys B)/\∀j L G J,M j L G J->
 G.length<sizeLine/\((N.stop j J/\∃O,O<m/\W (i+1) O G J) \/
  (N.go j J/\∀y R,N.yld j J y R->te (U.set 1<|some y) R λv T=>∃Z,Z<L/\M (j+1) Z (G++[v]) T))
def Dw(J:It)(wi2:TI)(te:TE)(s0:St)(Q:VK)(H1:Hp):Prop:=∃W:Nat->Nat->List V->Hp->Prop,(∃m,W 0 m [] H1)/\∀i m Z H,W i m Z H->
 Z.length<sizeLine/\((J.stop i H/\∀p,H p=none->Q (.ref p) (upd H p<|.lst Z)) \/
  (J.go i H/\∀x G,J.yld i H x G->In2 wi2 te W i m Z (s0.set 0<|some x) G))
def Qv(ix:List Nat)(wi wi2:TI)(te:TE):TE:=λU H Q=>wi U H λJ Z=>Dw J wi2 te (VY 2 ix U) Q Z
def QW(h:Vm i x U H Q):Vm i x U H fun σ2 Z=>Q σ2 Z/\σ2=U.set i (some x):=⟨h,rfl⟩
section
def CB.loop2(B:CB X [x1,x2] ix scope G1 U (.Name x1 p1) E D C Z it tn J w s3)(hc:X.calm=true)(hg:∀E C Z s H,PG (VM X (VU X [x1,x2] ix) scope E C Z s H) (.Name x1 p1)<|Vm 0)(hi2:∀E C Z s H,PI (VM X (VU X [x1,x2] ix) scope E C Z s H) (.Name x2 p2) iter2 wi2)(hg2:∀E C Z s H,PG (VM X (VU X [x1,x2] ix) scope E C Z s H) (.Name x2 p2)<|Vm 1)(he:∀E C Z s H,PE (VM X (VU X [x1,x2] ix) scope E C Z s H) elt te)(I3:∀env x,foldedSetIterable iter2 env x=pure x)(cw:Dw J wi2 te (VY 2 ix U) Q w)(fin:∀g f A,Inv X G1 U (upd f D<|.lst A) g->Jj X G1 (upd f D<|.lst A) C->(∃m,g.heap.Ns C m)->Q (.ref D) (upd f D<|.lst A)->Rs (.ok .next) g)(I4:Inv (VM X (VU X [x1,x2] ix) scope E C (D::Z) s3 w) [] (VY ([x1,x2]:kZ).length ix U) w s5)(F6:tn 0 s5.heap)(lD:s5.heap.PlainList D (List.toArray [])):
  codeAny (model X.prog X.w) X.A (.compLoop (two elt (.Name x1 p1) iter (.Name x2 p2) iter2 scope pos) 0 (.ref it) (.ref D)<|compEnvC scope E C X.env) Rs s5:=by
 have hgk:GK ([x1,x2]:kZ).length (Vm 0):=Vv (i:=0) (by simp);obtain⟨W,⟨m0,w0⟩,turn⟩:=cw;have T:=B.T;have I:=B.ok;have D0:=B.nfp
 let N:Cx:=VM X (VU X [x1,x2] ix) scope E C (D::Z) s3 w
 have T1:∀{R:Hp}{pl:kU},(∀p∈pl,p.1=D)->(∀b∈Z,R b=none)->∀b∈Z,Jj N pl R b:=λ{R pl} M hn b G=>
  ⟨hn b G,(I.exf b<|ZM _ G).1,I.exfs b<|ZM _ G,.inl<|ZM _ G,(I.exf b<|ZM _ G).2,λp y z=>D0 b G (z ▸ M p (by
   have q:p∈([]:kU)++ pl:=y;simpa using q))⟩
 have dX:D≠N.env.locals:=(I.exf D Za).1;have dF:D∉N.fs:=I.exfs D Za;refine KJ (λn s'=>∃i A L R,Inv N [] (VY ([x1,x2]:kZ).length ix U) R s'/\tn i s'.heap/\(∀b∈Z,R b=none)/\R D=none/\s'.heap.PlainList D (List.toArray L)/\Vals A L/\W i n A R) ?_ (I3 _) m0
  ⟨0,[],[],w,I4,F6,λb G=>(B.f2 b G).1,B.fD.1,lD,.nil,w0⟩
 rintro n s5 ⟨i,A,L,f,I5,T8,F2,d5,⟨nn,l5⟩,v5,w5⟩;obtain⟨hz,R8⟩:=turn i n A f w5
 let oD:Obj:={cls:=.type "list",data:=.seq L.toArray nn}
 have F:∀p∈ [((D,oD):Addr×Obj)],p.1=D:=λp M=>by
  have e:p=(D,oD):=by simpa using M
  rw[e]
 have F4:Inv N [(D,oD)] (VY ([x1,x2]:kZ).length ix U) f s5:=I5.pins_of λp M=>by
  have e:p=(D,oD):=by simpa using M
  subst e;exact⟨l5,d5,dX,dF,λv z=>nomatch z⟩
 rcases R8 with⟨stop,qn⟩|⟨go,step⟩
 .refine thn (T.done N rfl rfl rfl hc i _ s5 _ f _ F4 (T1 F F2) T8 stop) λr g ⟨hr,I6⟩=>?_
  subst hr;obtain⟨z1,z2,z3,nD⟩:=B.stop I6 hz v5 rfl;exact fin g f A z1 z2 z3<|qn D nD
 .refine thn (T.item N rfl rfl rfl hc i _ s5 _ f _ F4 (T1 F F2) T8 go) λr g ⟨u,hr,h6⟩=>?_
  subst hr;refine thn h6 λ_ O ⟨x,H7,I7,r7,y7,R6,fr7⟩=>?_;have I7':=I7.pinned (T1 F fr7)<|T.obj _ _ R6;refine thn (hg E C (D::Z) s3 w _ O _ H7 x u _ I7' r7<|hgk _ _ _ _<|QW (Q:=In2 wi2 te W i n A)<|step x H7 y7) λ_ s8 ⟨σ8,H8,I8,q8,l8,k8⟩=>?_;have e8:σ8=(VY ([x1,x2]:kZ).length ix U).set 0 (some x):=by exact q8.2
  replace q8:=q8.1;refine thn (hi2 E C (D::Z) s3 w _ s8 σ8 H8 _ I8 q8) λv9 s9 h9=>thn h9 λjv P h10=>?_;obtain⟨I1,S,G3,J2,T6,ej,T5,T2,a,T3,W2,⟨F9,F5⟩,G2⟩:=h10;subst ej;rw[Around.mark_none];obtain⟨gD0,F8,_⟩:=T5.pin (D,oD) (by simp);have D1:∀b∈S,b≠D:=λb G z=>(T3 b G).2.2.2.2.2 (D,oD) (by simp) z.symm
  have cut:∀{H9:Hp}{σ9:St}{s9:Shared}{more:kU},Inv N (([(D,oD)]++ Va Z O.heap)++ more) σ9 H9 s9->Inv N (Va Z O.heap) σ9 H9 s9:=λ{H9 σ9 s9 more} I9=>
   I9.pins_of λp M=>I9.pin p<|ZU _<|jW _<|ZU _ M
  have R7:∀p∈N.pn++ Va Z O.heap,p.1≠D:=λp M=>by
   have q:p∈([]:kU)++ Va Z O.heap:=M;exact D0 _ (WU<|by simpa using q).1
  have T0:∀{H9:Hp}{o9:Obj},(∀b∈S,H9 b=none)->∀b∈S,Jj N ([(D,o9)]++ Va Z O.heap) H9 b:=λ{H9 o9} hn b G=>by
   obtain⟨_,k1,k2,k3,k4,k5⟩:=T3 b G;refine⟨hn b G,k1,k2,k3,k4,λp M=>?_⟩
   have y:p=(D,o9)\/p∈Va Z O.heap:=by
    have q:p∈([]:kU)++ ([(D,o9)]++ Va Z O.heap):=M;simpa using q
   rcases y with rfl|y
   .exact (D1 b G).symm
   .exact k5 p (by
     show p∈([]:kU)++ ([(D,oD)]++ Va Z O.heap);simp[y])
  let R2:Result->Shared->Prop:=λr g=>match r with
   |.ok _=>∃m,m<n/\∃i A L R,Inv N [] (VY ([x1,x2]:kZ).length ix U) R g/\tn i g.heap/\(∀b∈Z,R b=none)/\R D=none/\g.heap.PlainList D (List.toArray L)/\Vals A L/\W i m A R
   |.error _=>False
  have inner:∀(sA:Shared),(Inv N (Va Z O.heap) σ8 T6 sA/\G3 0 sA.heap/\sA.heap.PlainList D (List.toArray L))->codeAny (model X.prog X.w) X.A (.compLoop (two elt (.Name x1 p1) iter (.Name x2 p2) iter2 scope pos) 1 (.ref I1) (.ref D)<|compEnvC scope E C X.env) R2 sA:=λsA hA=>by
   refine K7 (λk s'=>∃j h t R,Inv N (Va Z O.heap) σ8 R s'/\G3 j s'.heap/\(∀b∈S,R b=none)/\R D=none/\s'.heap.PlainList D (List.toArray t)/\Vals h t/\W2 j k h R) ?_ F9
    ⟨0,A,L,T6,hA.1,hA.2.1,λb G=>(T3 b G).1,F8,hA.2.2,v5,F5⟩
   rintro k sB ⟨j,h,t,HB,IB,T7,F1,dB,⟨nB,lB⟩,vB,wB⟩;obtain⟨I2,hcB⟩:=G2 j k h HB wB
   let oB:Obj:={cls:=.type "list",data:=.seq t.toArray nB}
   have F3:Inv N ([(D,oB)]++ Va Z O.heap) σ8 HB sB:=IB.pins_of λp M=>by
    rcases ZX.mp M with here|there
    .have e:p=(D,oB):=by simpa using here
     subst e;exact⟨lB,dB,dX,dF,λv z=>nomatch z⟩
    .exact IB.pin p (ZU _ there)
   rcases hcB with⟨M2,m',hm',wO⟩|⟨go2,O1⟩
   .refine thn (T2.done N rfl rfl rfl hc j _ sB _ HB _ F3 (T0 F1) T7 M2) λr sC ⟨hr,IC⟩=>?_
    subst hr
    obtain⟨gC,nC,_⟩:=IC.pin (D,oB) (by
     show(D,oB)∈([]:kU)++ ([(D,oB)]++ Va Z O.heap);simp)
    have T4:Inv N (Va Z O.heap) σ8 HB sC:=IC.pins_of λp M=>IC.pin p<|ZU _<|ZU _ M;refine⟨m',hm',i+1,h,t,HB,?_,?_,?_,nC,⟨nB,gC⟩,vB,wO⟩
    .refine Inv.weak (T4.pins_of (pins':=[]) λp M=>nomatch M) (by rw[l8]) λj v hj=>?_
     by_cases hlt:j<([x1,x2]:kZ).length
     .unfold VY at hj
      rw[vd (by simpa using hlt),jb,Zp hlt]at hj;cases hj
     .have e:σ8[j]?=(VY ([x1,x2]:kZ).length ix U)[j]?:=by
       have q:=congrArg (λl:List (pD)=>l[j-([x1,x2]:kZ).length]?) k8;simp only[qZ]at q
       rwa [qR (jA hlt)]at q
      rw[e];exact hj
    .exact T.keep _ _ _ R6 λb G o e=>(T4.pin (b,o)<|ZU _<|V1 G e).1
    .intro b G
     obtain⟨o,e,d⟩:=T.obj _ _ R6 b G;exact(T4.pin (b,o)<|ZU _<|V1 G e).2.1
   .refine thn (T2.item N rfl rfl rfl hc j _ sB _ HB _ F3 (T0 F1) T7 go2) λr sC ⟨u2,hr,hC6⟩=>?_
    subst hr;refine thn hC6 λ_ sD ⟨y2,HD,ID,rD,yD,R1,frD⟩=>?_;have ID':=ID.pinned (T0 frD)<|T2.obj _ _ R1;refine thn (hg2 E C (D::Z) s3 w _ sD _ HD y2 u2 _ ID' rD<|QW (Q:=λU H=>te U H λv H6=>∃c,c<k/\W2 (j+1) c (h++[v]) H6)<|O1 y2 HD yD) λ_ sE ⟨σE,HE,IE,qE⟩=>?_;have eE:σE=σ8.set 1 (some y2):=by exact qE.2
    replace qE:=qE.1;refine thn (he E C (D::Z) s3 w _ sE σE HE _ IE qE) λyv sF ⟨yy,HF,IF,rF,c,D2,wF⟩=>?_
    obtain⟨gD,nD,_⟩:=IF.pin (D,oB) (by
     show(D,oB)∈([]:kU)++ (([(D,oB)]++ Va Z O.heap)++ Va S sD.heap);simp)
    have D3:t.length=h.length:=vB.length.symm;refine wpAny_list_append_plain (l:=D) (items:=t.toArray) ⟨nB,gD⟩ (λh' hl' S2=>?_) (by rw[ZO,D3];exact Zh I2);have kp:∀b o,b≠D->sF.heap.get? b=some o->h'.get? b=some o:=λb o G q=>(S2.2 b G).trans q;have IF':Inv N (Va Z O.heap) σE HF sF:=IF.pins_of λp M=>IF.pin p<|ZU _<|jW _<|ZU _ M;have IG:Inv N (Va Z O.heap) σE HF {sF with heap:=h',toks:=sF.toks}:=IF'.turned (it:=D) kp nD dX (.inl Za) (I.exf D Za).2 R7
    have at2:∀b∈S,∀o,sD.heap.get? b=some o->sF.heap.get? b=some o/\HF b=none:=λb G o q=>by
     have z:=IF.pin (b,o)<|ZU _<|ZU _<|V1 G q;exact⟨z.1,z.2.1⟩
    refine⟨c,D2,j+1,h++[yy],t++[yv],HF,?_,?_,?_,nD,?_,vB.append<|.cons rF .nil,wF⟩
    .refine Inv.weak IG (by rw[eE,List.length_set]) λq v hq=>?_
     rw[eE]
     have F7:q≠1:=λz=>by
      subst z;rw[e8]at hq;simp[VY,List.getElem?_append]at hq
     rw[qI (Zs F7)];exact hq
    .exact T2.keep _ _ _ R1 λb G o q=>kp b o (D1 b G) (at2 b G o q).1
    .intro b G
     obtain⟨o,q,_⟩:=T2.obj _ _ R1 b G;exact(at2 b G o q).2
    .have e:(t++[yv]).toArray=t.toArray.push yv:=by simp
     rw[e];exact hl'
  have T9:Inv N (Va Z O.heap) σ8 T6 P/\G3 0 P.heap/\P.heap.PlainList D (List.toArray L):=⟨T5.pins_of λp M=>T5.pin p<|ZU _<|ZU _ M,a,⟨nn,gD0⟩⟩;exact NT (inner P T9)<|T2.self _ 0 _ _ _ a<|inner P T9
def JN(own:kZ)(G:List Nat)(j:PI X tg iter wi)(R:GK own.length g)(y:∀M C L s H,PG (VM X (VU X own G) scope M C L s H) tg g)(z:∀M C L s H,PE (VM X (VU X own G) scope M C L s H) elt te)(t:X.calm=true:=by rfl)(Z:scope.kind=.function:=by rfl)(O:J7 scope X.env.scope.names X.N G=true:=by rfl)(P:∀x,foldedSetIterable iter X.env x=pure x:=by intro _;rfl):
  PE X (.ListComp elt [⟨tg,iter,[],0⟩] scope pos) (QH own.length G wi g te):=by
 intro T s U H Q I h;rw[eval_ListComp];exact TY own G j Z O P I h λM D C L v c J r u f B m k N S=>B.loop1 t R y z m (λd w p A F E q=>AZ A F E q) k N S
def MD(own:kZ)(G:List Nat)(c:X.N.Nodup)(E:X.N[i0]?=some x0)(O:Loc X.env.scope x0)(z:PI X tg iter wi)(F:GK own.length g)(t:∀M C L s H,PG (VM X (VU X own G) scope M C L s H) tg g)(k:∀M C L s H,PE (VM X (VU X own G) scope M C L s H) elt te)(p:X.calm=true:=by rfl)(Z:scope.kind=.function:=by rfl)(T:J7 scope X.env.scope.names X.N G=true:=by rfl)(R:swapsWith (.ListComp elt [⟨tg,iter,[],0⟩] scope pos) (some<|.Name x0 py) spos.line X.env=pure true:=by rfl)(m:X.fn x0=true\/X.env.scope.names.lookup x0=some .local:=by first|exact .inl Y|exact .inr Y|assumption)(y:∀x,foldedSetIterable iter X.env x=pure x:=by intro _;rfl):
  PS X (.Assign [.Name x0 py] (.ListComp elt [⟨tg,iter,[],0⟩] scope pos) spos) (BF (QH own.length G wi g te)<|Vm i0):=by
 intro A s U H i I h;exact EL R<|TY own G z Z T y I h λM D C L b v J o l r B d f N j=>B.loop1 p F t k d (λw e u Q P S q=>Dc c E O m Q P S q) f N j
def Of(L:List Nat)(f:X.N.Nodup)(A:X.N[i0]?=some x0)(O:Loc X.env.scope x0)(g:PI X (.Name x1 p1) iter wi)(k:∀G C Z s H,PG (VM X (VU X [x1,x2] L) scope G C Z s H) (.Name x1 p1)<|Vm 0)(F:∀G C Z s H,PI (VM X (VU X [x1,x2] L) scope G C Z s H) (.Name x2 p2) iter2 wi2)(S:∀G C Z s H,PG (VM X (VU X [x1,x2] L) scope G C Z s H) (.Name x2 p2)<|Vm 1)(c:∀G C Z s H,PE (VM X (VU X [x1,x2] L) scope G C Z s H) elt te)(d:X.calm=true:=by rfl)(M:scope.kind=.function:=by rfl)(E:J7 scope X.env.scope.names X.N L=true:=by rfl)(R:swapsWith (.ListComp elt [⟨.Name x1 p1,iter,[],0⟩,⟨.Name x2 p2,iter2,[],0⟩] scope pos) (some<|.Name x0 py) spos.line X.env=pure true:=by rfl)(p:X.fn x0=true\/X.env.scope.names.lookup x0=some .local:=by first|exact .inl Y|exact .inr Y|assumption)(m:∀x,foldedSetIterable iter X.env x=pure x:=by intro _;rfl)(T:∀P x,foldedSetIterable iter2 P x=pure x:=by intro _ _;rfl):
  PS X (.Assign [.Name x0 py] (.ListComp elt [⟨.Name x1 p1,iter,[],0⟩,⟨.Name x2 p2,iter2,[],0⟩] scope pos) spos) (BF (Qv L wi wi2 te)<|Vm i0):=by
 intro Q s U H a I h;exact EL R<|TY [x1,x2] L g M E m I h λG D C Z o r J n e b B u v N t=>B.loop2 d k F S c T u (λl i w z y j q=>Dc f A O p z y j q) v N t
end
def Dl(n:Nat)(L:Nat->List V->Hp->Prop)(g:L 0 [] H)(T:∀i Z H,L i Z H->Z.length<sizeLine)(A:∀i Z H,i<n->L i Z H->J.go i H)(M:∀Z H,L n Z H->J.stop n H)(X:∀i Z H x F (R:List V->Hp->Prop),i<n->L i Z H->J.yld i H x F->(∀G D,L (i+1) G D->R G D)->wi2 (s0.set 0<|some x) F λS D=>∃I:Nat->Nat->List V->Hp->Prop,(∃E,I 0 E Z D)/\∀j E G B,I j E G B->
   G.length<sizeLine/\((S.stop j B/\R G B)\/(S.go j B/\∀y U,S.yld j B y U->te ((s0.set 0<|some x).set 1<|some y) U λv k=>∃O,O<E/\I (j+1) O (G++[v]) k)))(q:∀Z H p,L n Z H->H p=none->Q (.ref p) (upd H p<|.lst Z)):Dw J wi2 te s0 Q H:=by
 refine⟨λi m Z H=>m=n-i/\i<=n/\L i Z H,⟨n,by simp,Zc _,g⟩,λi m Z H z=>?_⟩;obtain⟨rfl,c,p⟩:=z;exists T i Z H p;rcases jn i n with N|P
 .exact .inr ⟨A i Z H N p,λx F y=>X i Z H x F _ N p y λG D C=>⟨n-(i+1),by omega,rfl,N,C⟩⟩
 .have e:i=n:=by omega
  subst e;exact .inl ⟨M Z H p,λb t=>q Z H b p t⟩
def K9{M:It}{S:TE}{U:St}{R:List V->Hp->Prop}(n:Nat)(J:Nat->List V->Hp->Prop)(k:J 0 X H3)(O:∀j Z H,J j Z H->Z.length<sizeLine)(A:∀j Z H,j<n->J j Z H->M.go j H)(G:∀Z H,J n Z H->M.stop n H)(q:∀j Z H y C (T:V->Hp->Prop),j<n->J j Z H->M.yld j H y C->(∀v B,J (j+1) (Z++[v]) B->T v B)->S (U.set 1<|some y) C T)(g:∀Z H,J n Z H->R Z H):
  ∃I:Nat->Nat->List V->Hp->Prop,(∃E,I 0 E X H3)/\∀j E Z D,I j E Z D->
   Z.length<sizeLine/\((M.stop j D/\R Z D)\/(M.go j D/\∀y F,M.yld j D y F->S (U.set 1<|some y) F λv B=>∃N,N<E/\I (j+1) N (Z++[v]) B)):=by
 refine⟨λj m Z H=>m=n-j/\j<=n/\J j Z H,⟨n,by simp,Zc _,k⟩,λj m Z H z=>?_⟩;obtain⟨rfl,c,p⟩:=z;exists O j Z H p;rcases jn j n with L|t
 .exact .inr ⟨A j Z H L p,λy F P=>q j Z H y F _ L p P λv B Q=>⟨n-(j+1),by omega,rfl,L,Q⟩⟩
 .have e:j=n:=by omega
  subst e;exact .inl ⟨G Z H p,g Z H p⟩
end L2
namespace L2
open PySem PySem.Spec PyProof.Rows
section
def CY(K:W.Frag):List V->Hp->VK->Prop:=λZ H Q=>∃x T t b,Z=[x,.ty T]/\Xh K H x t/\W.kitOne K t (.type T)=some b/\Q (.bl b) H
def Lp:UA X (.builtin "isinstance") (CY X.K):=by
 intro J s U H L N Q I r h;obtain⟨x,T,t,b,rfl,ty,e,q⟩:=h;obtain⟨u,M,rfl,G,Z⟩:=vals2 r;cases Z;exact FR I G ty e λO=>⟨.bl b,H,I.tok _,Y,q⟩
theorem Tn:∀{Z:kZ}{J:kX},Vals (Z.map V.str) J->StrsAre J Z
 |[],_,r=>by cases r;exact .nil
 |y::Z,_,r=>by
  cases r with
  |cons h t=>
   obtain⟨G,e⟩:=h;subst e;exact .cons _ _<|Tn t
def rJoin(K:W.Frag):V->List V->Hp->VK->Prop:=λx J H Q=>∃z p Z,x=.str z/\J=[.ref p]/\SqL K H p (Z.map V.str)/\(Z.map (·.length)).sum+Z.length*z.length<=16777216/\Q (.str<|Txt.join z Z) H
def PM:MtR X "str.join" (rJoin X.K):=by
 intro Z s U H x B v D Q I J G h;obtain⟨z,p,T,rfl,rfl,R,O,q⟩:=h;obtain⟨t,rfl⟩:=J;obtain⟨u,rfl,L⟩:=vals1 G;cases L;obtain⟨N,r,M,F⟩:=I.list R;exact join_list M.isList (by simpa using Tn r) O λE k=>⟨.str _,H,I.tok _,⟨_,Y⟩,q⟩
def Sd:V->List V->Hp->VK->Prop:=λx Z H Q=>∃z y i rest,x=.str z/\Z=[.str y]/\Builtin.Str.occurrences z y 0 z.length 1=i::rest/\Q (.int (i:Nat)) H
def Kt:MtR X "str.index" Sd:=by
 intro Z s U H x M v N Q I J G h;obtain⟨z,y,i,rest,rfl,rfl,L,q⟩:=h;obtain⟨t,rfl⟩:=J;obtain⟨u,rfl,O,rfl⟩:=vals1 G;exact SC.index L ⟨.int _,H,I.tok _,⟨_,Y⟩,q⟩
def yT:V->Option Int->Option Int->Hp->VK->Prop:=λx Z J H Q=>∃z,x=.str z/\z.length<=sizeLine/\Q (.str<|Txt.slice z Z J) H
def GZ:SlR X yT:=by
 intro J s U H x v g m E C sl Q I B S D T h;obtain⟨z,rfl,A,q⟩:=h;obtain⟨t,rfl⟩:=B;exists "str",_,F.slot_str_getitem.lookup,typeIs_str _ _ _
 have Z:∀(l u:Option (Int×Tok)),l.map (·.1)=E->u.map (·.1)=C->s.heap.IsSlice sl l u none->wpAny (model X.prog X.w) X.A (getItem (.str z t)<|.ref sl) (EP X J U Q) X.xe s:=λl u y P O=>by
  subst y;subst P;exact wpAny_getItem_str_slice O Y (post_val_or_str ⟨Zb (Txt.slice_le z (l.map (·.1))<|u.map (·.1)) A,λp k=>⟨.str _,H,I.tok _,⟨_,rfl⟩,q⟩⟩)
 obtain⟨o,M,L,G⟩:=S
 cases D with
 |none=>
  cases T with
  |none=>exact Z none none Y Y ⟨o,M,L,G⟩
  |int j N=>exact Z none (some (j,N)) Y Y ⟨o,M,L,G⟩
 |int i R=>
  cases T with
  |none=>exact Z (some (i,R)) none Y Y ⟨o,M,L,G⟩
  |int j N=>exact Z (some (i,R)) (some (j,N)) Y Y ⟨o,M,L,G⟩
theorem Wi:∀{Z:List Bool}{J:kX},Vals (Z.map V.bl) J->∀(i:Nat)(v:Value),J[i]?=some v->∃b,Z[i]?=some b/\v=.bool b
 |[],_,r,i,v,e=>by cases r;simp at e
 |b::Z,_,r,i,v,e=>by
  cases r with
  |cons h t=>
   cases i with
   |zero=>
    have G:some _=some v:=e;cases G;exact⟨b,Y,h⟩
   |succ j=>exact Wi t j v e
def all_range:∀(Z:List Bool),((List.range Z.length).all λi=>(Z[i]?).getD true)=Z.all id:=λZ=>by
 have e:((List.range Z.length).map λi=>(Z[i]?).getD true)=Z:=List.ext_getElem (by simp) λi G J=>by simp[J]
 have z:=List.all_map (l:=List.range Z.length) (f:=λi=>(Z[i]?).getD true) (p:=id);rw[e]at z;exact z.symm
def Nn(E:X.calm=true):UA X (.builtin "all") (λM H Q=>∃(p:Addr)(J:List Bool),M=[.ref p]/\SqL X.K H p (J.map V.bl)/\Q (.bl<|J.all id) H):=by
 intro O s U H M C Q I r h;obtain⟨p,J,rfl,T,q⟩:=h;obtain⟨u,rfl,R⟩:=vals1 r;cases R;obtain⟨Z,N,L,P⟩:=I.list T
 have B:p<s.heap.objs.size:=by
  obtain⟨o,n,e,_⟩:=L;exact ZP e
 have G:Z.length=J.length:=by
  have:=N.length;rw[ZA]at this;exact this.symm
 refine call_all_walk<|qA L.isList ?_;exists s.heap.objs.size,_,_,Z.toArray.size,_,_,λi=>(J[i]?).getD true,Y,Walks.list (A:=X.A.in1) (I.ok.hd E) _ p (Ze B) Z.toArray,?_,?_
 .exact ⟨⟨_,ZY _ rfl,rfl,rfl⟩,L.isList.push _⟩
 .intro i v s' Q' E' hP hQ
  obtain⟨b,e,rfl⟩:=Wi N i v (by simpa using hP);have F:(J[i]?).getD true=b:=by rw[e];rfl
  exact vJ<|F ▸ hQ
 .intro h' tk hk
  rw[ZO,G,all_range];refine⟨.bl<|J.all id,H,I.kept λb o e=>hk b o (λD=>?_)<|ZE _ e,rfl,q⟩;have S:b=s.heap.objs.size:=by simpa using D
  rw[S]at e;exact vy _<|ZP e
theorem Up:∀{Z:px}{J:kX},Z.length=J.length->(∀(j:Nat)(x:V)(u:Value),Z[j]?=some x->J[j]?=some u->RelV x u)->Vals Z J
 |[],[],_,_=>.nil
 |[],_::_,h,_=>Zr h<|by simp
 |_::_,[],h,_=>Zr h<|by simp
 |x::Z,u::J,h,hr=>.cons (hr 0 x u rfl rfl)<|Up (by simpa using h) λj a b L G=>hr (j+1) a b L G
def U5(e:X.calm=true):UA X (.type "list") (λE H Q=>∃a kvs,E=[.ref a]/\H a=some (.dK kvs)/\∀l,H l=none->Q (.ref l) (upd H l<|.lst<|kvs.map λZ=>kV Z.1)):=by
 intro S s U H E us Q I r h;obtain⟨a,kvs,rfl,n,q⟩:=h;obtain⟨u,rfl,m⟩:=vals1 r;cases m;obtain⟨C,g,F,A,b⟩:=Nc I.hok n;obtain⟨ep,R⟩:=b.dictAt;have J:=A.length;refine W.kdl_call (W.kdl_dict (knd:=Y7 X.prog X.w) (kvs:=F) (ep:=ep) g) (I.ok.hd e) R (by rw[<-J];exact C) λh' tk D c w v L=>?_;refine⟨.ref s.heap.objs.size,_,I.laid (o:=.lst<|kvs.map λZ=>kV Z.1) w (ZG _) ⟨by rw[ZA];exact C,D.toList,c,?_,by rw[Array.toArray_toList];exact v⟩,rfl,q _<|I.hok.fresh<|ZG _⟩;obtain⟨f,d⟩:=L;refine Up (by simp[f,J]) λj x u M e2=>?_;obtain⟨k,y,p,O⟩:=d j u (by rw[<-jT];exact e2);rw[ZH]at M
 cases hkv:kvs[j]? with
 |none=>rw[hkv]at M;cases M
 |some Z=>
  rw[hkv]at M;cases M;have G:=A.keys;have P:(kvs.map (·.1))[j]?=(F.map (·.1))[j]?:=by rw[G]
  rw[ZH,ZH,hkv,p]at P;have e4:Z.1=k:=ZT P;have N:JH Z.1 u=true:=by rw[e4];exact O
  rcases VO N with⟨i,t,B,T⟩|⟨z,t,B,T⟩
  .show RelV (kV Z.1) u
   rw[B,T];exact⟨t,Y⟩
  .show RelV (kV Z.1) u
   rw[B,T];exact⟨t,Y⟩
end
end L2
namespace PySem.W
open PySem PySem.Spec PyProof.Rows
end PySem.W
namespace PySem
open Sem (wp)
section
variable{prog:Program}{w:World}{A:Around}{E:Value->Shared->Prop}{h:Heap}{g:Array GenState}{d:Drawn}{t:Nat}{os:OsState}
variable{nm q:Str}{C N:Addr}{bs bm bmB:List Value}{hdct:Bool}{sn:List Str}{sub:List Value}{ab:Bool}{col:Option Bool}{dd:Option Addr}{k0 k1 k2 k3 k5:Option Value}{B newId initId:String}
end
end PySem
namespace PySem.W
open PySem PySem.Spec PyProof.Rows PySem.Builtin PySem.Builtin.ObjectAttr
end PySem.W
namespace L2
open PySem PySem.Spec PyProof.Rows
end L2
namespace PySem.W
open PySem PySem.Spec PyProof.Rows
end PySem.W
namespace PySem
section
variable{M:Model}{A:Around}{E:Value->Shared->Prop}{env:Env}
variable{nm q:Str}{C N:Addr}{bs bm:List Value}{hdct:Bool}{sn:List Str}{sub:List Value}{ab:Bool}{col:Option Bool}{dd:Option Addr}{k0 k1 k2 k3 k5:Option Value}{newId:String}
end
end PySem
namespace L2
open PySem PySem.Spec PyProof.Rows
def SI(tp:Bool)(h:Heap)(i l:Addr)(k:Nat)(xs:pi):Prop:=match tp with
 |false=>h.IsListIter i l k/\h.IsList l xs
 |true=>h.IsTupleIter i l k/\h.IsTuple l xs
def SI.to(z:SI J h i l k G)(Z:∀b o,(b=i\/b=l)->h.get? b=some o->L.get? b=some o):SI J L i l k G:=by
 cases J with
 |false=>exact⟨let⟨o,e,r⟩:=z.1;⟨o,Z _ _ (.inl Y) e,r⟩,let⟨o,e,r⟩:=z.2;⟨o,Z _ _ (.inr Y) e,r⟩⟩
 |true=>exact⟨let⟨o,e,r⟩:=z.1;⟨o,Z _ _ (.inl Y) e,r⟩,let⟨o,e,r⟩:=z.2;⟨o,Z _ _ (.inr Y) e,r⟩⟩
def SI.but(z:SI G h i l k J)(e:Heap.ExtBut b h L)(N:i≠b)(M:l≠b):SI G L i l k J:=
 z.to λc o Z q=>e c o (by rcases Z with Z|Z <;> rw[Z] <;> assumption) q
def Dy{a b:Sem α}{Q:α->Shared->Prop}(Z:c=false)(h:wpAny M A b Q E s):wpAny M A (if c=true then a else b) Q E s:=by
 subst Z
 rwa [Zq (by decide)]
section
def XB(z:SI R s.heap i l k O)(B:l≠i)(D:O[k]?=some x)(I:∀g,SI R g i l (k+1) O->Heap.SameBut i s.heap g->Q x {s with heap:=g}):wpAny (model prog w) A (Builtin.SmallTypes.nextOf<|.ref i) Q E s:=by
 cases R with
 |false=>exact wpAny_nextOf_list_item z.1 z.2 D λg a T=>I g ⟨a,z.2.extBut T.extBut B⟩ T
 |true=>
  obtain⟨G,N⟩:=z;obtain⟨C,J,M,Z⟩:=id G;obtain⟨U,L,_,X,S⟩:=id N;have sn:=F.slot_tuple_iterator_next;simp only[Builtin.SmallTypes.nextOf];refine Zl<|wpAny_callSpecial?_slot (name:=Str.ofString "__next__") G.typeIs sn<|vo sn G.typeIs F.entry_tuple_iterator_next ?_<|F.args_tuple_iterator_next_1 _;refine Zl (m:=field (.ref i) 0)<|Zo J Z (x:=.ref l) rfl (Dy (c:=Value.ref l==.none) rfl ?_);refine Zl (m:=field (.ref i) 1)<|Zo J Z (x:=.int k 0) rfl (Zl (m:=seqItems?<|.ref l)<|vN L S ?_);simp only[D,js];refine Zl<|kq J Z (by simp)<|Zm ⟨x,rfl,Zm<|I _ ⟨?_,?_⟩<|Heap.SameBut.update ..⟩
  .refine ⟨_,qY _ J<|Obj.isFreed_of_fields<|Obj.data_mapFields Z _,(Obj.cls_mapFields ..).trans M,?_⟩
   rw[Obj.data_mapFields Z];simp[rawInt]
  .exact N.extBut (Heap.SameBut.update ..).extBut B
def Rv(N:A.handled=none)(z:SI B s.heap i l k T)(M:T[k]?=none)(O:∀g e,Heap.ExtBut i s.heap g->(∃o,g.get? e=some o/\o.cls=.type "StopIteration")->E (.ref e) {s with heap:=g}):wpAny (model prog w) A (Builtin.SmallTypes.nextOf<|.ref i) Q E s:=by
 cases B with
 |false=>exact wpAny_nextOf_list_end N z.1 z.2 M O
 |true=>
  obtain⟨G,R⟩:=z;obtain⟨C,Z,S,J⟩:=id G;obtain⟨U,L,_,X,I⟩:=id R;have sn:=F.slot_tuple_iterator_next;simp only[Builtin.SmallTypes.nextOf];refine Zl<|wpAny_callSpecial?_slot (name:=Str.ofString "__next__") G.typeIs sn<|vo sn G.typeIs F.entry_tuple_iterator_next ?_<|F.args_tuple_iterator_next_1 _;refine Zl (m:=field (.ref i) 0)<|Zo Z J (x:=.ref l) rfl (Dy (c:=Value.ref l==.none) rfl ?_);refine Zl (m:=field (.ref i) 1)<|Zo Z J (x:=.int k 0) rfl (Zl (m:=seqItems?<|.ref l)<|vN L I ?_);simp only[M,js];refine Zl (jD<|Zl<|kq Z J (by simp) ?_);refine Zl (m:=newExc (.type "StopIteration") []) ?_;simp only[newExc,newTuple];refine Zl (vP (Zl (m:=firstArgMember _ _)<|wpAny_of_eq (a:=.none) (by simp only[firstArgMember];rfl)<|vP ?_<|by size_fits)<|by size_fits);have D:A.in1.handled=none:=N;simp only[raiseNew];refine Zl<|wpAny_handled<|?_;rw[D];exact Zl<|Zm<|wpAny_throw<|O _ _ (((Heap.SameBut.update ..).extBut.push _).push _) ⟨_,ZY _ rfl,rfl⟩
structure ZS(h:Heap)(z TI TO:Addr)(f0:Value)(t1:Bool)(i1 l1:Addr)(xs:Array Value)(t2:Bool)(i2 l2:Addr)(ys:Array Value)(k:Nat):Prop where
 zip:IsZip h z TI TO f0
 its:IsPair h TI (.ref i1) (.ref i2)
 out:∃a b,IsPair h TO a b
 one:SI t1 h i1 l1 k xs
 two:SI t2 h i2 l2 k ys
def Dx{z TI TO G J j I:Addr}(D:ZipApart z TI TO G J j I)(S:ZS s.heap z TI TO .none t1 G j f t2 J I X k)(hx:f[k]?=some x)(hy:X[k]?=some y)(hQ:∀g,ZS g z TI TO (rawInt s.heap.objs.size) t1 G j f t2 J I X (k+1)->IsPair g s.heap.objs.size x y->g.objs.size=s.heap.objs.size+1->
   (∀c o,c≠z->c≠TO->c≠G->c≠J->s.heap.get? c=some o->g.get? c=some o)->Q (some<|.ref s.heap.objs.size) {s with heap:=g}):wpAny (model prog w) A (pyNext<|.ref z) Q E s:=by
 have hT:s.TypeIs (.ref z) "zip":=⟨_,S.zip,rfl⟩;obtain⟨a,b,So⟩:=S.out;simp only[pyNext];refine Zl<|jy<|wpAny_callSpecial?_slot (name:=Str.ofString "__next__") hT jj<|vo jj hT qK ?_<|qD _;refine Zl (m:=field (.ref z) 2)<|Zo S.zip rfl (x:=.bool false) rfl (Zl (m:=field (.ref z) 3)<|Zo S.zip rfl (x:=.ref TI) rfl (Zl<|vN S.its rfl ?_));refine Zl (m:=Builtin.SmallTypes.ownedTupleIsFree<|.ref z)<|Zl (m:=field (.ref z) 0)<|Zo S.zip rfl (x:=.none) rfl (Zm ?_);simp only[if_true];refine Zl (jD<|Zl<|Zo S.zip rfl (x:=.ref TO) rfl (Zl<|vf S.zip (by simp) λg1 d F=>Zl ?_));replace d:IsZip g1 z TI TO .ellipsis:=d;simp only[jF,qL,List.zipIdx_cons,List.zipIdx_nil];refine Zl<|Zl<|wpAny_onRaise (?_:wpAny _ _ (Builtin.SmallTypes.nextOf (.ref G) >>=_) _ _ _);refine Zl<|XB (S.one.but F.extBut D.i1z D.l1z) D.l1i1 hx λg2 a2 B=>Zm ?_;have o2:IsPair g2 TO a b:=B.extBut _ _ D.TOi1<|F.extBut _ _ D.TOz So;refine Zl<|vN o2 rfl ?_;refine Zl<|ky o2 λg3 r T=>?_;replace r:IsPair g3 TO x b:=r;refine Zl<|kz<|Zm<|Zl<|Zl<|wpAny_onRaise (?_:wpAny _ _ (Builtin.SmallTypes.nextOf (.ref J) >>=_) _ _ _);have b3:SI t2 g3 J I k X:=((S.two.but F.extBut D.i2z D.l2z).but B.extBut D.i12.symm D.l2i1).but T.extBut D.TOi2.symm D.l2TO;refine Zl<|XB b3 D.l2i2 hy λg4 b4 R=>Zm ?_;have o4:IsPair g4 TO x b:=R.extBut _ _ D.TOi2 r;refine Zl<|vN o4 rfl ?_;refine Zl<|ky o4 λZ P O=>?_;replace P:IsPair Z TO x y:=P;refine Zl<|kz<|Zm<|Zm<|Zl<|vN P rfl (Zl<|kB ?_);have sz:Z.objs.size=s.heap.objs.size:=by rw[O.1,R.1,T.1,B.1,F.1]
 have n:IsZip Z z TI TO .ellipsis:=O.extBut _ _ D.TOz.symm<|R.extBut _ _ D.i2z.symm<|T.extBut _ _ D.TOz.symm<|B.extBut _ _ D.i1z.symm d
 have k5:∀c o,c≠z->c≠TO->c≠G->c≠J->s.heap.get? c=some o->Z.get? c=some o:=λc o c1 t h i e=>
  O.extBut _ _ t (R.extBut _ _ i<|T.extBut _ _ t<|B.extBut _ _ h<|F.extBut _ _ c1 e)
 have a5:SI t1 Z G j (k+1) f:=((a2.but T.extBut D.TOi1.symm D.l1TO).but R.extBut D.i12 D.l1i2).but O.extBut D.TOi1.symm D.l1TO;have b5:SI t2 Z J I (k+1) X:=b4.but O.extBut D.TOi2.symm D.l2TO;have L:z<Z.objs.size:=ZP n;show wpAny _ _ (Builtin.SmallTypes.ownedTupleHandOut (.ref z) (.ref Z.objs.size) >>=_) _ _ _;refine Zl ?_;simp only[Builtin.SmallTypes.ownedTupleHandOut];have z6:IsZip (Z.push {cls:=.type "tuple",data:=.seq #[x,y]}) z TI TO .ellipsis:=ZE _ n;refine Zl<|vf z6 (by simp) λg7 p v=>?_;replace p:IsZip g7 z TI TO (rawInt Z.objs.size):=p;refine vf p (by simp) λU C u=>?_;replace C:IsZip U z TI TO (rawInt Z.objs.size):=C;have M:∀c o,c≠z->Z.get? c=some o->U.get? c=some o:=λc o c1 e=>u.extBut _ _ c1<|v.extBut _ _ c1<|ZE _ e;have t8:IsPair U Z.objs.size x y:=u.extBut _ _ (vM L)<|v.extBut _ _ (vM L)<|ZY _ rfl;have N:U.objs.size=Z.objs.size+1:=by rw[u.1,v.1,vK]
 rw[sz]at C t8 N;refine Zm ⟨_,Y,Zm ?_⟩;show Q (some<|.ref Z.objs.size) _;rw[sz];refine hQ U ⟨C,M _ _ D.TIz<|k5 _ _ D.TIz D.TITO D.TIi1 D.TIi2 S.its,⟨_,_,M _ _ D.TOz P⟩,?_,?_⟩ t8 N λc o c1 t h i e=>M c o c1<|k5 c o c1 t h i e
 .exact a5.to λc o l e=>M c o (l.elim (λq=>q ▸ D.i1z) λq=>q ▸ D.l1z) e
 .exact b5.to λc o l e=>M c o (l.elim (λq=>q ▸ D.i2z) λq=>q ▸ D.l2z) e
def Fp{z TI TO O N v C:Addr}(r:A.handled=none)(D:ZipApart z TI TO O N v C)(S:ZS s.heap z TI TO .none t1 O v d t2 N C I k)(R:d[k]?=none\/I[k]?=none)(hQ:∀g,(∀c o,c≠z->c≠TO->c≠O->c≠N->s.heap.get? c=some o->g.get? c=some o)->Q none {s with heap:=g}):wpAny (model prog w) A (pyNext<|.ref z) Q E s:=by
 have l:s.TypeIs (.ref z) "zip":=⟨_,S.zip,rfl⟩;obtain⟨a,b,So⟩:=S.out;have stop:∀(g:Heap)(e:Addr),(∀c o,c≠z->c≠TO->c≠O->c≠N->s.heap.get? c=some o->g.get? c=some o)->(∃o,g.get? e=some o/\o.cls=.type "StopIteration")->
   wpAny (model prog w) A (do if(<-isInstance (.ref e) (.type "StopIteration"))then pure none else throw (.ref e):Sem (Option Value)) Q E {s with heap:=g}:=λg e n ⟨o,ho,hc⟩=>
  Zl (jI (T:="StopIteration") (b:=true) ⟨o,ho,hc⟩ kC<|Zm<|hQ g n)
 simp only[pyNext];refine Zl<|jy<|wpAny_callSpecial?_slot (name:=Str.ofString "__next__") l jj<|vo jj l qK ?_<|qD _;refine Zl (m:=field (.ref z) 2)<|Zo S.zip rfl (x:=.bool false) rfl (Zl (m:=field (.ref z) 3)<|Zo S.zip rfl (x:=.ref TI) rfl (Zl<|vN S.its rfl ?_));refine Zl (m:=Builtin.SmallTypes.ownedTupleIsFree<|.ref z)<|Zl (m:=field (.ref z) 0)<|Zo S.zip rfl (x:=.none) rfl (Zm ?_);simp only[if_true];refine Zl (jD<|Zl<|Zo S.zip rfl (x:=.ref TO) rfl (Zl<|vf S.zip (by simp) λg1 B M=>Zl ?_));replace B:IsZip g1 z TI TO .ellipsis:=B;simp only[jF,qL,List.zipIdx_cons,List.zipIdx_nil];refine Zl<|Zl<|wpAny_onRaise (?_:wpAny _ _ (Builtin.SmallTypes.nextOf (.ref O) >>=_) _ _ _)
 cases hx:d[k]? with
 |none=>
  refine Zl<|Rv r (S.one.but M.extBut D.i1z D.l1z) hx λj e h X=>?_;obtain⟨U,Z,J⟩:=X;have p:IsZip j z TI TO .ellipsis:=h _ _ D.i1z.symm B;have G:e≠z:=λq=>by subst q;rw[p]at Z;cases Z;simp at J
  refine vf p (by simp) λP _ L=>?_;exact stop P e (λc o c1 _ y _ q=>L.extBut _ _ c1<|h _ _ y<|M.extBut _ _ c1 q) ⟨U,L.extBut _ _ G Z,J⟩
 |some x=>
  have hy:I[k]?=none:=by rcases R with q|q;rw[hx]at q;cases q;exact q
  refine Zl<|XB (S.one.but M.extBut D.i1z D.l1z) D.l1i1 hx λj a2 F=>Zm ?_;have u:IsPair j TO a b:=F.extBut _ _ D.TOi1<|M.extBut _ _ D.TOz So;refine Zl<|vN u rfl ?_;refine Zl<|ky u λP o3 L=>?_;refine Zl<|kz<|Zm<|Zl<|Zl<|wpAny_onRaise (?_:wpAny _ _ (Builtin.SmallTypes.nextOf (.ref N) >>=_) _ _ _);have b3:SI t2 P N C k I:=((S.two.but M.extBut D.i2z D.l2z).but F.extBut D.i12.symm D.l2i1).but L.extBut D.TOi2.symm D.l2TO;refine Zl<|Rv r b3 hy λg4 e i X=>?_;obtain⟨U,Z,J⟩:=X;have t:IsZip g4 z TI TO .ellipsis:=i _ _ D.i2z.symm<|L.extBut _ _ D.TOz.symm<|F.extBut _ _ D.i1z.symm B;have G:e≠z:=λq=>by subst q;rw[t]at Z;cases Z;simp at J
  refine vf t (by simp) λg5 _ f=>?_;exact stop g5 e (λc o c1 c2 y c4 q=>f.extBut _ _ c1<|i _ _ c4<|L.extBut _ _ c2<|F.extBut _ _ y<|M.extBut _ _ c1 q) ⟨U,f.extBut _ _ G Z,J⟩
def Wk(tp:Bool)(h:Heap)(l:Addr)(xs:pi):Prop:=match tp with
 |false=>h.IsList l xs
 |true=>h.IsTuple l xs
def Jd(tp:Bool)(l:Addr):Obj:={cls:=.type<|if tp then "tuple_iterator" else "list_iterator",data:=.fields #[.ref l,.int 0 0]}
def Wu(h:Wk Z s.heap l J)(q:Q (.ref s.heap.objs.size) {s with heap:=s.heap.push (Jd Z l)}):wpAny (model prog w) A (pyIter<|.ref l) Q E s:=by
 cases Z with
 |false=>exact qA h q
 |true=>exact wpAny_pyIter_tuple h q
def Wk.push(z:Wk Z h l J)(o:Obj):Wk Z (h.push o) l J:=by
 cases Z with
 |false=>exact Heap.IsList.push z o
 |true=>exact Heap.IsTuple.push z o
end
abbrev zg1(h:Heap)(t1:Bool)(l1:Addr):Heap:=h.push (Jd t1 l1)
abbrev zg2(h:Heap)(t1:Bool)(l1:Addr)(t2:Bool)(l2:Addr):Heap:=(zg1 h t1 l1).push (Jd t2 l2)
abbrev zg3(h:Heap)(t1:Bool)(l1:Addr)(t2:Bool)(l2:Addr):Heap:=(zg2 h t1 l1 t2 l2).push {cls:=.type "tuple",data:=.seq #[.ref h.objs.size,.ref (zg1 h t1 l1).objs.size]}
abbrev zg4(h:Heap)(t1:Bool)(l1:Addr)(t2:Bool)(l2:Addr):Heap:=(zg3 h t1 l1 t2 l2).push {cls:=.type "tuple",data:=.seq #[.none,.none]}
abbrev zg5(h:Heap)(t1:Bool)(l1:Addr)(t2:Bool)(l2:Addr):Heap:=(zg4 h t1 l1 t2 l2).push {cls:=.type "zip",data:=.fields #[.none,.bool false,.bool false,.ref (zg2 h t1 l1 t2 l2).objs.size,.ref (zg3 h t1 l1 t2 l2).objs.size]}
def N0(J L:Bool)(Z G:Addr)(N M:pi):
  Meets (Builtin.«zip.__new__» ⟨[.type "zip",.ref Z,.ref G],[]⟩) (λ_ R s=>Wk J s.heap Z N/\Wk L s.heap G M/\
   R (.ok<|.ret<|.ref (zg4 s.heap J Z L G).objs.size) {s with heap:=zg5 s.heap J Z L G}):=
 .of_wp λT w A R s h=>by
  obtain⟨E,g,d,O,B⟩:=s;obtain⟨U,S,h⟩:=h;have D:=sub_zip;have I:Wk J (Shared.heap ⟨E,g,d,O,B⟩) Z N:=U;have F:Wk L (Shared.heap ⟨E.push<|Jd J Z,g,d,O,B⟩) G M:=Wk.push S _
  wp_walk using Wu I,Wu F
  exact⟨_,Y,h⟩
def SJ(tp:Bool)(h:Heap)(i l:Addr)(k:Nat):Prop:=match tp with
 |false=>h.IsListIter i l k
 |true=>h.IsTupleIter i l k
def SJ.si(z:SJ Z h i l k)(c:Wk Z h l J):SI Z h i l k J:=by
 cases Z <;> exact⟨z,c⟩
def SI.sj(z:SI Z h i l k J):SJ Z h i l k:=by
 cases Z <;> exact z.1
def SJ.to(z:SJ Z h i l k)(J:∀o,h.get? i=some o->G.get? i=some o):SJ Z G i l k:=by
 cases Z with
 |false=>exact let⟨o,e,r⟩:=z;⟨o,J _ e,r⟩
 |true=>exact let⟨o,e,r⟩:=z;⟨o,J _ e,r⟩
def SJ.obj(z:SJ Z h i l k):∃o,h.get? i=some o/\∀v,o.data≠.cell v:=by
 cases Z with
 |false=>obtain⟨o,e,_,d⟩:=z;exact⟨o,e,λv q=>by rw[d]at q;cases q⟩
 |true=>obtain⟨o,e,_,d⟩:=z;exact⟨o,e,λv q=>by rw[d]at q;cases q⟩
def SJ.new(Z:Bool)(h:Heap)(l:Addr):SJ Z (h.push<|Jd Z l) h.objs.size l 0:=by
 cases Z <;> exact⟨_,ZY _ Y,Y,Y⟩
structure ZR(h:Heap)(z TI TO:Addr)(t1:Bool)(i1 l1:Addr)(t2:Bool)(i2 l2:Addr)(k:Nat):Prop where
 zip:IsZip h z TI TO .none
 its:IsPair h TI (.ref i1) (.ref i2)
 out:∃a b,IsPair h TO a b
 one:SJ t1 h i1 l1 k
 two:SJ t2 h i2 l2 k
section
def Nm(U:Wk t1 s.heap l1 D)(S:Wk t2 s.heap l2 B)(h:∀g,ZR g (s.heap.objs.size+4) (s.heap.objs.size+2) (s.heap.objs.size+3) t1 s.heap.objs.size l1 t2 (s.heap.objs.size+1) l2 0->
   (∀c o,s.heap.get? c=some o->g.get? c=some o)->Q (.ref<|s.heap.objs.size+4) {s with heap:=g}):wpAny (model prog w) A (call (.type "zip") [.ref l1,.ref l2]) Q E s:=by
 refine callType_new F.called_zip (by decide) (F.typeCall_zip_2 _ _) (F.newCall_zip_2 _ _) (λJ=>F.args_object_init_3 J _ _) F.entry_zip_new (N0 t1 t2 l1 l2 D B) ⟨U,S,?_⟩;have M:(zg1 s.heap t1 l1).objs.size=s.heap.objs.size+1:=vK ..;have L:(zg2 s.heap t1 l1 t2 l2).objs.size=s.heap.objs.size+2:=by rw[vK,M]
 have G:(zg3 s.heap t1 l1 t2 l2).objs.size=s.heap.objs.size+3:=by rw[vK,L]
 have T:(zg4 s.heap t1 l1 t2 l2).objs.size=s.heap.objs.size+4:=by rw[vK,G]
 have Z:(zg5 s.heap t1 l1 t2 l2).get? (zg4 s.heap t1 l1 t2 l2).objs.size=some _:=ZY _ rfl;have N:(zg5 s.heap t1 l1 t2 l2).get? (zg3 s.heap t1 l1 t2 l2).objs.size=some _:=ZE _<|ZY _ rfl;have O:(zg5 s.heap t1 l1 t2 l2).get? (zg2 s.heap t1 l1 t2 l2).objs.size=some _:=ZE _<|ZE _<|ZY _ rfl;have R:SJ t2 (zg5 s.heap t1 l1 t2 l2) (zg1 s.heap t1 l1).objs.size l2 0:=(SJ.new t2 (zg1 s.heap t1 l1) l2).to λo q=>ZE _<|ZE _<|ZE _ q;have I:SJ t1 (zg5 s.heap t1 l1 t2 l2) s.heap.objs.size l1 0:=(SJ.new t1 s.heap l1).to λo q=>ZE _<|ZE _<|ZE _<|ZE _ q;show _/\_;rw[L,G,T]at Z;rw[M,L]at O;rw[G]at N;rw[M]at R;rw[T]
 exact⟨⟨_,Z,Y⟩,h _ ⟨Z,O,⟨_,_,N⟩,I,R⟩ λc o q=>
  ZE _ (ZE _<|ZE _<|ZE _<|ZE _ q)⟩
end
def Sq(K:W.Frag)(tp:Bool)(H:Hp)(l:Addr)(xs:px):Prop:=match tp with
 |false=>SqL K H l xs
 |true=>SqT K H l xs
def Inv.sq(I:Inv X G U H s)(h:Sq X.K J H l L):∃Z:kX,Vals L Z/\Wk J s.heap l Z.toArray:=by
 cases J with
 |false=>
  obtain⟨Z,r,p,_⟩:=I.list h;exact⟨Z,r,p.isList⟩
 |true=>
  obtain⟨Z,r,p,_⟩:=I.tuple h;exact⟨Z,r,p⟩
def Inv.sq_inj(I:Inv X J U H s)(h:Sq X.K Z H l M)(G:Sq X.K Z H l L):M=L:=by
 cases Z with
 |false=>exact I.list_inj h G
 |true=>exact I.tuple_inj h G
def Wk.lt(z:Wk Z h l J):l<h.objs.size:=by
 cases Z with
 |false=>obtain⟨_,e,_⟩:=z;exact ZP e
 |true=>obtain⟨_,e,_⟩:=z;exact ZP e
def Itz(K:W.Frag)(t1:Bool)(l1:Addr)(t2:Bool)(l2:Addr):It:=
  ⟨λi H=>∃J Z x y,Sq K t1 H l1 J/\Sq K t2 H l2 Z/\J[i]?=some x/\Z[i]?=some y,
   λi H v G=>∃p x y,v=.ref p/\H p=none/\G=upd H p (.tup [x,y])/\(∀J,Sq K t1 H l1 J->J[i]?=some x)/\∀Z,Sq K t2 H l2 Z->Z[i]?=some y,
   λi H=>∃J Z,Sq K t1 H l1 J/\Sq K t2 H l2 Z/\(J.length<=i\/Z.length<=i)⟩
def RJ:bootBuiltins "zip"=some (.type "zip"):=by decide +kernel
def Inv.turnedL{ch:pf}(I:Inv X Z U H s)(k:∀b o,b∉ch->s.heap.get? b=some o->O.get? b=some o)(f:∀b∈ch,Jj X Z H b):
  Inv X Z U H {s with heap:=O,toks:=t'}:=by
 have L:∀b u,H b=some u->b∉ch:=λb u e z=>by rw[(f b z).1]at e;cases e
 have M:X.env.locals∉ch:=λz=>(f _ z).2.1 rfl;refine I.step (g':=s.gens) (d':=s.drawn) (ch:=ch) (λb G=>⟨(f b G).2.2.2.1,(f b G).2.1,(f b G).2.2.2.2.1,(f b G).2.2.2.2.2⟩) (λb o _ _ J e _=>k b o J e) (λb o _ _ J e _=>⟨o.slots,k b o J e⟩) (λ_ _ _ _ n=>n)
  (λb o J e=>⟨o,k b o J e⟩) (λ_ _ e=>e) (λ_ _ _ e=>e) (λb R e=>⟨#[],by rw[e];simp⟩) (λm N=>?_) (λb u e=>?_) I.bare
 .obtain ⟨o,es,ep,ho,r⟩:=N
  exact⟨o,es,ep,k _ o M ho,r⟩
 .refine (I.hok b u e).stay (λc v J q=>k c v ?_ q) (λ_ q=>q) λ_ _ q=>q
  rcases J with z|z
  .rw [z];exact L b u e
  .exact L c _ z
def C9{a b c d x:Addr}(h:x∈ [a,b,c,d]):x=a\/x=b\/x=c\/x=d:=by simpa using h
def Fy{P:Program}{w:World}{K:W.Frag}{F:pI}{x1}{l:Pos}{z TI TO M L l1 l2:Addr}{t1 t2:Bool}(D:ZipApart z TI TO M L l1 l2):
  Turn P w K (.Tuple F x1 l) (Itz K t1 l1 t2 l2) [z,TO,M,L,TI] z (λi h=>ZR h z TI TO t1 M l1 t2 L l2 i) where
 mem:=by simp
 obj:=λi h Z b J=>by
  have q:b=z\/b=TO\/b=M\/b=L\/b=TI:=by simpa using J
  rcases q with q|q|q|q|q <;> rw[q]
  .exact ⟨_,Z.zip,λv e=>nomatch e⟩
  .obtain ⟨a,b,e⟩:=Z.out
   exact⟨_,e,λv e=>nomatch e⟩
  .exact Z.one.obj
  .exact Z.two.obj
  .exact ⟨_,Z.its,λv e=>nomatch e⟩
 keep:=λi h h' Z k=>⟨k z (by simp) _ Z.zip,k TI (by simp) _ Z.its,let⟨a,b,e⟩:=Z.out;⟨a,b,k TO (by simp) _ e⟩,Z.one.to λo e=>k M (by simp) o e,Z.two.to λo e=>k L (by simp) o e⟩
 item:=by
  intro X hP hw hK hc i G s U H E I Q Z hg;subst hP hw hK;obtain⟨xs,ys,x,y,C,S,hx,hy⟩:=hg;obtain⟨T,r,t⟩:=I.sq C;obtain⟨R,u,j⟩:=I.sq S;obtain⟨p,G3,d⟩:=r.get hx;obtain⟨m,G2,c⟩:=u.get hy;refine Dx D ⟨Z.zip,Z.its,Z.out,Z.one.si t,Z.two.si j⟩ (x:=p) (y:=m) (by simpa using G3) (by simpa using G2) λg A hp sz kp=>?_
  have f:∀b∈ [z,TO,M,L],Jj X G H b:=λb J=>Q b (by
   rcases C9 J with q|q|q|q <;> rw[q] <;> simp)
  have G1:∀b o,b ∉ [z,TO,M,L]->s.heap.get? b=some o->g.get? b=some o:=λb o J e=>kp b o (λq=>J<|by simp[q]) (λq=>J<|by simp[q]) (λq=>J<|by simp[q]) (λq=>J<|by simp[q]) e;have I1:Inv X G U H {s with heap:=g}:=I.turnedL (t':=s.toks) G1 f;have hn:H s.heap.objs.size=none:=I.hok.fresh<|ZG _;have O:z<s.heap.objs.size:=ZP Z.zip;exists _,Y;refine wpAny_letOwnedTupleGo_zip (s:={s with heap:=g}) A.zip λg2 z2 N=>?_
  have I2:Inv X G U H {s with heap:=g2}:=I1.turnedL (s:={s with heap:=g}) (t':=s.toks) (ch:=[z]) (λb o J e=>N.extBut b o (λq=>J<|by simp[q]) e) λb J=>by
   have q:b=z:=by simpa using J
   rw[q];exact f z<|by simp
  have n:IsPair g2 s.heap.objs.size p m:=N.extBut _ _ (vM O) hp;have I3:Inv X G U (upd H s.heap.objs.size<|.tup [x,y]) {s with heap:=g2}:=I2.retrack hn (I.fpOk (ZG _) hn) ⟨sl 2,[p,m],.cons d<|.cons c .nil,⟨_,n,rfl,rfl,_,rfl⟩⟩
  have J2:∀b∈ [z,TO,M,L,TI],b<s.heap.objs.size:=λb J=>by
   have q:b=z\/b=TO\/b=M\/b=L\/b=TI:=by simpa using J
   rcases q with q|q|q|q|q <;> rw[q]
   .exact O
   .obtain ⟨a,b,e⟩:=Z.out
    exact ZP e
   .obtain ⟨o,e,_⟩:=Z.one.obj
    exact ZP e
   .obtain ⟨o,e,_⟩:=Z.two.obj
    exact ZP e
   .exact ZP Z.its
  refine⟨.ref s.heap.objs.size,_,I3,Y,⟨_,x,y,Y,hn,Y,λzs h=>by rw[I.sq_inj h C];exact hx,λzs h=>by rw[I.sq_inj h S];exact hy⟩,?_,λb J=>?_⟩
  .refine ⟨z2,N.extBut _ _ D.TIz A.its,let⟨a,b,e⟩:=A.out;⟨a,b,N.extBut _ _ D.TOz e⟩,A.one.sj.to λo e=>N.extBut _ _ D.i1z e,A.two.sj.to λo e=>N.extBut _ _ D.i2z e⟩
  .rw [Yg (Ze<|J2 b J)]
   exact(Q b J).1
 done:=by
  intro X hP hw hK hc i G s U H E I Q Z hg;subst hP hw hK;obtain⟨xs,ys,C,S,B⟩:=hg;obtain⟨T,r,t⟩:=I.sq C;obtain⟨R,u,j⟩:=I.sq S;have e1:=r.length;have e2:=u.length;refine Fp (I.ok.hd hc) D ⟨Z.zip,Z.its,Z.out,Z.one.si t,Z.two.si j⟩ ?_ λg kp=>⟨Y,?_⟩
  .rcases B with q|q
   .exact .inl (by simp;omega)
   .exact .inr (by simp;omega)
  .refine I.turnedL (t':=s.toks) (ch:=[z,TO,M,L]) (λb o J e=>kp b o (λq=>J<|by simp[q]) (λq=>J<|by simp[q]) (λq=>J<|by simp[q]) (λq=>J<|by simp[q]) e) λb J=>Q b (by
    rcases C9 J with q|q|q|q <;> rw[q] <;> simp)
 self:=λ_ _ _ _ _ Z h=>wpAny_pyIter_zip Z.zip h
def zap(n J Z:Nat)(M:J<n)(L:Z<n):ZipApart (n+4) (n+2) (n+3) n (n+1) J Z:=by
 constructor <;> (intro q;have G:(_:Nat)=_:=q;omega)
def yi(K:W.Frag)(ta:TA):TI:=λU H R=>ta U H λN Z=>∃a b G J M L,N=[.ref a,.ref b]/\Sq K G Z a M/\Sq K J Z b L/\R (Itz K G a J b) Z
def Sg(f:Gl X "zip")(d:X.mg "zip"=none)(w:PA X [a,b] ta)(c:starEach [a,b] X.env=[(false,eval a X.env),(false,eval b X.env)]:=by rfl)(G:starEach [b] X.env=[(false,eval b X.env)]:=by rfl):PI X (.Tuple elts x1 tpos) (.Call (.Name "zip" p) [a,b] [] pos) (yi X.K ta):=by
 intro J s U H R I h;refine Call_ (J6 I f d RJ<|vq (thn (w pos J s U H _ I h) λx Z ⟨n,A,M,j,O⟩=>?_) (by rw[c,G]) (by rw[G];rfl));obtain⟨l1,l2,t1,t2,o,l,e,O,y,q⟩:=O;subst e;obtain⟨u,i,rfl,C,N⟩:=vals2 j;cases C;cases N;obtain⟨F,Q,B⟩:=M.sq O;obtain⟨E,P,T⟩:=M.sq y;have m:=B.lt;have t:=T.lt;refine Nm B T λg S k=>?_;refine wpAny_pyIter_zip (s:={Z with heap:=g}) S.zip ?_;have D:=zap _ _ _ m t;have r:Inv X J U A {Z with heap:=g}:=M.kept (t':=Z.toks) k;refine⟨_,[Z.heap.objs.size+4,Z.heap.objs.size+3,Z.heap.objs.size,Z.heap.objs.size+1,Z.heap.objs.size+2],_,_,A,Y,r,Fy D,S,λb v=>?_,q⟩
 have L:Z.heap.objs.size<=b:=by
  have z:b=Z.heap.objs.size+4\/b=Z.heap.objs.size+3\/b=Z.heap.objs.size\/b=Z.heap.objs.size+1\/b=Z.heap.objs.size+2:=by simpa using v
  rcases z with z|z|z|z|z <;> rw[z] <;> first|exact ZG _|exact vR _ _
 exact M.fpOk L<|M.hok.fresh L
inductive Dat where
 |non|bl (b:Bool)|int (i:Int)|str (x:Str)|tup (ds:List Dat)|lst (ds:List Dat)
abbrev pE:=List Dat
mutual
def Has(H:Hp):V->Dat->Prop
 |v,.non=>v=.non
 |v,.bl b=>v=.bl b
 |v,.int i=>v=.int i
 |v,.str x=>v=.str x
 |v,.tup ds=>∃a xs,v=.ref a/\H a=some (.tup xs)/\HasL H xs ds
 |v,.lst ds=>∃a xs,v=.ref a/\H a=some (.lst xs)/\HasL H xs ds
def HasL(H:Hp):List V->List Dat->Prop
 |[],[]=>True
 |x::xs,d::ds=>Has H x d/\HasL H xs ds
 |_::_,[]=>False
 |[],_::_=>False
end
mutual
theorem Has.mono{H M:Hp}(e:Same H M):∀(d:Dat){v:V},Has H v d->Has M v d
 |.non,_,h=>by unfold Has at h |-;exact h
 |.bl _,_,h=>by unfold Has at h |-;exact h
 |.int _,_,h=>by unfold Has at h |-;exact h
 |.str _,_,h=>by unfold Has at h |-;exact h
 |.tup ds,_,h=>by
  unfold Has at h |-;obtain⟨a,Z,L,G,J⟩:=h;exact⟨a,Z,L,e _ _ G,HasL.mono e ds J⟩
 |.lst ds,_,h=>by
  unfold Has at h |-;obtain⟨a,Z,L,G,J⟩:=h;exact⟨a,Z,L,e _ _ G,HasL.mono e ds J⟩
theorem HasL.mono{H G:Hp}(e:Same H G):∀(Z:pE){J:px},HasL H J Z->HasL G J Z
 |[],[],h=>by unfold HasL;trivial
 |[],_::_,h=>by unfold HasL at h;exact h.elim
 |_::_,[],h=>by unfold HasL at h;exact h.elim
 |d::Z,x::J,h=>by
  unfold HasL at h |-;exact⟨Has.mono e d h.1,HasL.mono e Z h.2⟩
end
theorem HasL.length:∀{J:pE}{Z:px},HasL H Z J->Z.length=J.length
 |[],[],h=>rfl
 |[],_::_,h=>by unfold HasL at h;exact h.elim
 |_::_,[],h=>by unfold HasL at h;exact h.elim
 |d::J,x::Z,h=>by
  unfold HasL at h;rw[Zf,Zf,HasL.length h.2]
theorem HasL.get:∀{J:pE}{Z:px}{i:Nat}{x:V},HasL H Z J->Z[i]?=some x->∃d,J[i]?=some d/\Has H x d
 |[],[],i,x,h,e=>by simp at e
 |[],_::_,_,_,h,_=>by unfold HasL at h;exact h.elim
 |_::_,[],_,_,h,_=>by unfold HasL at h;exact h.elim
 |d::J,y::Z,0,x,h,e=>by
  unfold HasL at h;have G:some y=some x:=e;cases G;exact⟨d,Y,h.1⟩
 |d::J,y::Z,i+1,x,h,e=>by
  unfold HasL at h;exact HasL.get (i:=i) h.2 e
theorem HasL.append:∀{L G:pE}{J Z:px},HasL H J L->HasL H Z G->HasL H (J++ Z) (L++ G)
 |[],_,[],_,_,h=>h
 |[],_,_::_,_,h,_=>by unfold HasL at h;exact h.elim
 |_::_,_,[],_,h,_=>by unfold HasL at h;exact h.elim
 |d::L,G,x::J,Z,h,h'=>by
  unfold HasL at h;show HasL H (x::(J++ Z)) (d::(L++ G));unfold HasL;exact⟨h.1,HasL.append h.2 h'⟩
abbrev Z7:=@HasL.append
def HasL.one(h:Has H x d):HasL H [x] [d]:=by
 unfold HasL;exact⟨h,by unfold HasL;trivial⟩
abbrev Z5:=@HasL.one
def HasL.nil:HasL H [] []:=by unfold HasL;trivial
abbrev Z6:=@HasL.nil
def HasL.cons(h:Has H x d)(t:HasL H Z J):HasL H (x::Z) (d::J):=by
 unfold HasL;exact⟨h,t⟩
abbrev Z4:=@HasL.cons
mutual
theorem Has.inj{H:Hp}:∀(d Z:Dat){v:V},Has H v d->Has H v Z->d=Z
 |.non,Z,_,h,h'=>by
  unfold Has at h;subst h;cases Z <;> unfold Has at h' <;> first|(obtain⟨_,_,q,_⟩:=h';cases q;done)|rfl|(cases h';done)
 |.bl _,Z,_,h,h'=>by
  unfold Has at h;subst h;cases Z <;> unfold Has at h' <;> first|(obtain⟨_,_,q,_⟩:=h';cases q;done)|(cases h';done)|(cases h';rfl)
 |.int _,Z,_,h,h'=>by
  unfold Has at h;subst h;cases Z <;> unfold Has at h' <;> first|(obtain⟨_,_,q,_⟩:=h';cases q;done)|(cases h';done)|(cases h';rfl)
 |.str _,Z,_,h,h'=>by
  unfold Has at h;subst h;cases Z <;> unfold Has at h' <;> first|(obtain⟨_,_,q,_⟩:=h';cases q;done)|(cases h';done)|(cases h';rfl)
 |.tup ds,Z,_,h,h'=>by
  unfold Has at h;obtain⟨a,B,T,L,R⟩:=h;subst T
  cases Z with
  |tup M=>
   unfold Has at h';obtain⟨b,O,G,J,N⟩:=h';cases G;rw[L]at J;cases J;rw[HasL.inj ds M R N]
  |lst M=>
   unfold Has at h';obtain⟨b,O,G,J,N⟩:=h';cases G;rw[L]at J;cases J
  |_=>unfold Has at h';cases h'
 |.lst ds,Z,_,h,h'=>by
  unfold Has at h;obtain⟨a,B,T,L,R⟩:=h;subst T
  cases Z with
  |lst M=>
   unfold Has at h';obtain⟨b,O,G,J,N⟩:=h';cases G;rw[L]at J;cases J;rw[HasL.inj ds M R N]
  |tup M=>
   unfold Has at h';obtain⟨b,O,G,J,N⟩:=h';cases G;rw[L]at J;cases J
  |_=>unfold Has at h';cases h'
theorem HasL.inj{H:Hp}:∀(G J:pE){Z:px},HasL H Z G->HasL H Z J->G=J
 |[],[],_,_,_=>rfl
 |[],_::_,Z,h,h'=>by
  cases Z <;> unfold HasL at h h'
  .exact h'.elim
  .exact h.elim
 |_::_,[],Z,h,h'=>by
  cases Z <;> unfold HasL at h h'
  .exact h.elim
  .exact h'.elim
 |d::G,e::J,Z,h,h'=>by
  cases Z with
  |nil=>unfold HasL at h;exact h.elim
  |cons x Z=>
   unfold HasL at h h';rw[Has.inj d e h.1 h'.1,HasL.inj G J h.2 h'.2]
end
theorem LH{K:W.Frag}:∀{d:Dat},Has H v d->Xh K H v (.type<|match d with|.non=>"NoneType"|.bl _=>"bool"|.int _=>"int"|.str _=>"str"|.tup _=>"tuple"|.lst _=>"list")
 |.non,h=>by unfold Has at h;subst h;exact .non
 |.bl _,h=>by unfold Has at h;subst h;exact .bl _
 |.int _,h=>by unfold Has at h;subst h;exact .int _
 |.str _,h=>by unfold Has at h;subst h;exact .str _
 |.tup _,h=>by unfold Has at h;obtain⟨a,Z,rfl,e,_⟩:=h;exact .tup e
 |.lst _,h=>by unfold Has at h;obtain⟨a,Z,rfl,e,_⟩:=h;exact .lst e
end L2
namespace L2
open PySem
def MZ{K:PySem.W.Frag}{a:Addr}{xs:px}{g:TG}{L:TS}{D:Ends}{U:St}{H:Hp}(Z:pB)(S:Z 0 U H)(A:∀i U H,i<=xs.length->Z i U H->SqL K H a xs)(F:∀(B:pC)(R:VK) i x U H,xs[i]?=some x->Z i U H->g x U H fun σ2 G=>L {nx:=Z<|i+1,rt:=R,bk:=B,ct:=Z (i+1)} σ2 G)(I:∀U H,Z xs.length U H->D.nx U H):
  ∃W:Nat->Nat->St->Hp->Prop,(∃m,W 0 m U H)/\∀i m U H,W i m U H->
   ((Itl K a).stop i H/\D.nx U H)\/((Itl K a).go i H/\∃N:pC,(∀O J,N O J->∃M,M<m/\W (i+1) M O J)/\∀x J,(Itl K a).yld i H x J->g x U J fun σ2 G=>L {D with nx:=N,ct:=N,bk:=D.nx} σ2 G):=
 TD Z S A (λi x U H E p=>F _ _ i x U H E p) I
def TH{K:PySem.W.Frag}{a:Addr}{xs:px}{g:TG}{L:TS}{D:Ends}{U:St}{H:Hp}(Z:pB)(S:Z 0 U H)(A:∀i U H,i<=xs.length->Z i U H->SqT K H a xs)(F:∀(B:pC)(R:VK) i x U H,xs[i]?=some x->Z i U H->g x U H fun σ2 G=>L {nx:=Z<|i+1,rt:=R,bk:=B,ct:=Z (i+1)} σ2 G)(I:∀U H,Z xs.length U H->D.nx U H):
  ∃W:Nat->Nat->St->Hp->Prop,(∃m,W 0 m U H)/\∀i m U H,W i m U H->
   ((Itt K a).stop i H/\D.nx U H)\/((Itt K a).go i H/\∃N:pC,(∀O J,N O J->∃M,M<m/\W (i+1) M O J)/\∀x J,(Itt K a).yld i H x J->g x U J fun σ2 G=>L {D with nx:=N,ct:=N,bk:=D.nx} σ2 G):=
 Pg Z S A (λi x U H E p=>F _ _ i x U H E p) I
def TJ{G:Int}{n:Nat}{g:TG}{M:TS}{D:Ends}{U:St}{H:Hp}(Z:pB)(S:Z 0 U H)(F:∀(B:pC)(R:VK) i U H,i<n->Z i U H->g (.int<|G+i) U H fun σ2 L=>M {nx:=Z<|i+1,rt:=R,bk:=B,ct:=Z (i+1)} σ2 L)(I:∀U H,Z n U H->D.nx U H):
  ∃W:Nat->Nat->St->Hp->Prop,(∃m,W 0 m U H)/\∀i m U H,W i m U H->
   ((Itr G n).stop i H/\D.nx U H)\/((Itr G n).go i H/\∃N:pC,(∀T J,N T J->∃O,O<m/\W (i+1) O T J)/\∀x J,(Itr G n).yld i H x J->g x U J fun σ2 L=>M {D with nx:=N,ct:=N,bk:=D.nx} σ2 L):=
 FX Z S (λi U H A p=>F _ _ i U H A p) I
def Yf.none{P:Program}{w:World}{K:W.Frag}{M:Str->Option Value}{base:Heap}{O:CXT}{k:Nat}{f:Addr}{N:FuncData}{L:kZ}{G:Sp}(h:∀Z H Q E,G Z H Q E->False):Yf P w K M base O k f N L G:=
 ⟨λZ H Q E q=>(h _ _ _ _ q).elim,λA J s H args R Z Q E _ _ _ _ q=>(h _ _ _ _ q).elim⟩
def Y4{N P:kZ}{Z:Scope}(h:Z.kind=.function/\Z.isCoroutine=false/\Z.isGenerator=false/\N.Nodup/\N.take P.length=P/\(∀x∈P,Z.names.lookup x=some .local\/Z.names.lookup x=some .cell)/\∀y∈Z.names,y.2≠.free:=by decide +kernel):Yi N P Z:=
 ⟨h.1,h.2.1,h.2.2.1,h.2.2.2.1,h.2.2.2.2.1,h.2.2.2.2.2.1,h.2.2.2.2.2.2⟩
end L2
namespace K4
open PySem L2
def top(i:Nat):Stmt:=PySem.Challenge.pw_wantway_k90_rounds_are_no_ways.main.body.getD i<|.Pass ⟨0,0,0,0⟩
abbrev BX:Stmt:=top 2
abbrev Ge:Stmt:=top 3
abbrev sKP:Stmt:=top 5
abbrev Ie:Stmt:=top 6
abbrev Bc:Stmt:=top 7
abbrev Gg:Stmt:=top 12
abbrev Ih:Stmt:=top 13
abbrev Ig:Stmt:=top 14
abbrev R0:Stmt:=top 26
abbrev Be:Stmt:=top 27
abbrev BV:Stmt:=top 28
abbrev Ug:Stmt:=top 37
abbrev Ii:Stmt:=inClass Ug 0
abbrev Bb:Stmt:=inClass Ug 1
abbrev Id:Stmt:=inClass Ug 2
abbrev BY:Stmt:=inClass Ug 4
abbrev WO:Stmt:=inClass Ug 5
abbrev Gd:Stmt:=inClass Ug 7
abbrev Rz:Stmt:=inClass Ug 9
abbrev Gf:Stmt:=inClass Ug 10
abbrev Xn:Stmt:=inClass Ug 11
abbrev XT:Stmt:=top 43
abbrev Bj:Stmt:=inClass XT 0
abbrev Bg:Stmt:=inClass XT 1
abbrev Bk:Stmt:=inClass XT 2
abbrev R5:Stmt:=inClass XT 3
abbrev R4:Stmt:=inClass XT 4
abbrev R3:Stmt:=inClass XT 5
abbrev Bh:Stmt:=inClass XT 6
abbrev Bi:Stmt:=inClass XT 7
abbrev Bl:Stmt:=inClass XT 8
abbrev Bf:Stmt:=inClass XT 10
abbrev WR:Stmt:=top 44
abbrev UY:Stmt:=top 45
abbrev Bn:Stmt:=top 46
abbrev WQ:Stmt:=top 47
abbrev XY:Stmt:=top 48
abbrev WP:Stmt:=top 49
abbrev W6:Stmt:=top 51
abbrev UM:Stmt:=top 52
abbrev Tb:Stmt:=top 55
abbrev Np:Stmt:=top 61
abbrev LS:Stmt:=inClass W6 0
abbrev Da:Stmt:=inClass W6 1
abbrev DZ:Stmt:=inClass W6 2
abbrev Wd:Stmt:=inClass W6 5
abbrev Kl:Stmt:=inClass UM 0
abbrev B4:Stmt:=inClass UM 1
abbrev WV:Stmt:=inClass UM 2
abbrev Km:Stmt:=inClass UM 3
abbrev WX:Stmt:=inClass UM 4
abbrev Xd:Stmt:=inClass UM 5
abbrev WW:Stmt:=inClass UM 6
abbrev Gu:Stmt:=inClass UM 7
abbrev Xr:Stmt:=inClass UM 8
abbrev XH:Stmt:=inClass UM 9
abbrev Li:Stmt:=inClass Tb 0
abbrev TV:Stmt:=inClass Tb 1
abbrev We:Stmt:=inClass Tb 4
abbrev Md:Stmt:=inClass Tb 6
abbrev TX:Stmt:=inClass Tb 8
abbrev Ft:Stmt:=inClass Np 0
abbrev GD:Stmt:=inClass Np 1
abbrev Fu:Stmt:=inClass Np 2
abbrev Fs:Stmt:=inClass Np 3
abbrev X7:Stmt:=inClass Np 5
abbrev BZ:Stmt:=top 53
abbrev XZ:Stmt:=top 56
abbrev Bm:Stmt:=top 59
abbrev Rx:Stmt:=top 60
abbrev Ba:Stmt:=top 71
abbrev Ry:Stmt:=top 72
abbrev Ic:Stmt:=top 73
abbrev BU:Stmt:=top 74
abbrev BW:Stmt:=top 75
abbrev N2:Stmt:=top 63
abbrev N3:Stmt:=top 65
abbrev W8:Stmt:=top 66
abbrev RU:Stmt:=top 67
abbrev Gz:Stmt:=top 76
abbrev DF:Stmt:=top 77
abbrev DH:Stmt:=top 78
def IU:Yi ["stream","many","number"] ["stream","many"] (Ye Ic):=Y4
end K4
namespace L2
open PySem PySem.Spec PyProof.Rows
def G0(K:W.Frag)(T:String):W.kitOne K (.type T) (.type T)=some true:=by
 unfold W.kitOne;rw[Zp (by simp)]
def yh{K:W.Frag}:∀{a b:String},(a,b)∈ [("NoneType","bool"),("NoneType","str"),("NoneType","int"),("NoneType","tuple"),("NoneType","list"),("int","bool"),("int","str"),("int","tuple"),("int","list"),("str","bool"),("str","int"),("str","tuple"),("str","list"),("bool","str"),("bool","tuple"),("bool","list"),("tuple","bool"),("tuple","str"),("tuple","int"),("tuple","list"),("list","bool"),("list","str"),("list","int"),("list","tuple")]->W.kitOne K (.type a) (.type b)=some false:=by
 intro a b h;simp only[Zd,Prod.mk.injEq,jB,or_false]at h;rcases h with⟨rfl,rfl⟩|⟨rfl,rfl⟩|⟨rfl,rfl⟩|⟨rfl,rfl⟩|⟨rfl,rfl⟩|⟨rfl,rfl⟩|⟨rfl,rfl⟩|⟨rfl,rfl⟩|⟨rfl,rfl⟩|⟨rfl,rfl⟩|⟨rfl,rfl⟩|⟨rfl,rfl⟩|⟨rfl,rfl⟩|⟨rfl,rfl⟩|⟨rfl,rfl⟩|⟨rfl,rfl⟩|⟨rfl,rfl⟩|⟨rfl,rfl⟩|⟨rfl,rfl⟩|⟨rfl,rfl⟩|⟨rfl,rfl⟩|⟨rfl,rfl⟩|⟨rfl,rfl⟩|⟨rfl,rfl⟩ <;> kernel_rfl
def Jp:bootBuiltins "tuple"=some (.type "tuple"):=by decide +kernel
def JU:bootBuiltins "list"=some (.type "list"):=by decide +kernel
def Wh:bootBuiltins "str"=some (.type "str"):=by decide +kernel
def Fm:bootBuiltins "int"=some (.type "int"):=by decide +kernel
def Uh:bootBuiltins "dict"=some (.type "dict"):=by decide +kernel
def Fl:bootBuiltins "isinstance"=some (.builtin "isinstance"):=by decide +kernel
def RL:bootBuiltins "all"=some (.builtin "all"):=by decide +kernel
def Mn:bootBuiltins "sorted"=some (.builtin "sorted"):=by decide +kernel
def ME(R:Gl X "isinstance")(O:X.mg "isinstance"=none)(J:Gl X x)(Z:X.mg x=none)(M:bootBuiltins x=some (.type T))(he:PE X e te)(N:x≠"__name__":=by decide)(G:(x==("__debug__":Str))=false:=by decide)(L:starEach [e,.Name x p'] X.env=(false,eval e X.env)::starEach [.Name x p'] X.env:=by rfl):
  PE X (.Call (.Name "isinstance" p) [e,.Name x p'] [] pos) (tCB (CY X.K)<|V4 te<|V4 (tC<|.ty T) Tf):=
 VF Lp R O Fl (pa2 he (Oo J Z M rfl N G) L) (he:=L)
def tyD:Dat->String
 |.non=>"NoneType"|.bl _=>"bool"|.int _=>"int"|.str _=>"str"|.tup _=>"tuple"|.lst _=>"list"
def AW{K:W.Frag}(h:Has H v d):Xh K H v (.type<|tyD d):=by
 have q:=LH (K:=K) h;cases d <;> exact q
def isD(T:String)(d:Dat):Bool:=decide (tyD d=T) || (T=="int" && decide (tyD d="bool"))
def AI(K:W.Frag)(d:Dat)(Z:T∈ ["bool","str","int","tuple","list"]):W.kitOne K (.type<|tyD d) (.type T)=some (isD T d):=by
 simp only[Zd,jB,or_false]at Z;rcases Z with rfl|rfl|rfl|rfl|rfl <;> cases d <;> kernel_rfl
end L2
namespace L2
open PySem
mutual
def Dat.dep:Dat->Nat
 |.tup ds=>1+Dat.deps ds
 |.lst ds=>1+Dat.deps ds
 |_=>0
def Dat.deps:List Dat->Nat
 |[]=>0
 |d::ds=>max d.dep<|Dat.deps ds
end
theorem Dat.deps_get:∀{ds:pE}{i:Nat}{d:Dat},ds[i]?=some d->d.dep<=Dat.deps ds
 |[],i,d,e=>by simp at e
 |a::ds,0,d,e=>by
  have Z:some a=some d:=e;cases Z;unfold Dat.deps;exact jr _ _
 |a::ds,i+1,d,e=>by
  have q:=Dat.deps_get (ds:=ds) (i:=i) e;unfold Dat.deps;exact Zb q<|jm _ _
def VP{c A B:Prop}[Decidable c](Z:c)(h:A):if c then A else B:=by
 rw[Zp Z];exact h
def Y6{c A B:Prop}[Decidable c](Z:¬c)(h:B):if c then A else B:=by
 rw[Zq Z];exact h
def Vj(n:Nat)(U:n<sizeLine)(G:Nat->List V->Hp->Prop)(I:G 0 [] H)(M:∀i Z H,G i Z H->Z.length=i)(O:∀i Z H,i<n->G i Z H->J.go i H)(L:∀Z H,G n Z H->J.stop n H)(E:∀i Z H x N (R:V->Hp->Prop),i<n->G i Z H->J.yld i H x N->(∀v T,G (i+1) (Z++[v]) T->R v T)->g x s0 N λB S=>te B S R)(F:∀Z H p,G n Z H->H p=none->Q (.ref p) (upd H p<|.lst Z)):
  Te J g te s0 Q H:=by
 refine⟨λi m Z H=>m=n-i/\i<=n/\G i Z H,⟨n,by simp,Zc _,I⟩,?_⟩;rintro i m Z H ⟨rfl,X,p⟩;have C:=M i Z H p;exists by omega
 by_cases hlt:i<n
 .exact .inr ⟨O i Z H hlt p,λx N y=>E i Z H x N _ hlt p y λv T D=>⟨n-(i+1),by omega,rfl,hlt,D⟩⟩
 .have e:i=n:=by omega
  subst e;exact .inl ⟨L Z H p,λa A=>F Z H a p A⟩
def Yu(h:H p=none)(o:HO):Same H (upd H p o):=λb u q=>by rw[Yg (Ya q h)];exact q
@[elab_as_elim] theorem up_in {motive:Hp->Prop}(h:H l=none) (o:HO) (k:∀H',Same H H'->H' l=some o->motive H'):motive (upd H l o):=k _ (Yu h o) Yh
def Gm{α:Type}(f:Nat->α)(i:Nat):(List.range i).map f++[f i]=(List.range<|i+1).map f:=by
 rw[vT,ZK];rfl
structure Blt(mg:Str->Option Value):Prop where
 len:mg "len"=none
 isi:mg "isinstance"=none
 bool:mg "bool"=none
 str:mg "str"=none
 int:mg "int"=none
 tuple:mg "tuple"=none
 list:mg "list"=none
 dict:mg "dict"=none
 all:mg "all"=none
 zip:mg "zip"=none
 max:mg "max"=none
 range:mg "range"=none
 sorted:mg "sorted"=none
end L2
namespace K4
open PySem L2
section
def G7:GK 2 (MV K 2<|JL (Vm 0)<|JL (Vm 1) Wr):=
 DX (XJ (Vv (i:=0)<|by decide) (XJ (Vv (i:=1)<|by decide) DY (λ_ _ _ _ _ h z=>h _ _ z) (λx _ _ _ _ h z=>by
  match x,z with
  |[],z=>exact h _ _ z)) (λ_ _ _ _ _ h z=>h _ _ z) (λx _ _ _ _ h z=>by
  match x,z with
  |[v],z=>exact h _ _ z))
end
end K4
namespace L2
open PySem
inductive W where
 |non|tag (x:Str)|pair (a b:W)
def W.dat:W->Dat
 |.non=>.non
 |.tag x=>.str x
 |.pair a b=>.tup [a.dat,b.dat]
def NW(h:Has H v (W.pair a b).dat):∃p x y,v=.ref p/\H p=some (.tup [x,y])/\Has H x a.dat/\Has H y b.dat:=by
 unfold W.dat Has at h;obtain⟨p,L,rfl,M,Z⟩:=h
 match L,Z with
 |[x,y],Z=>
  unfold HasL at Z;obtain⟨N,J⟩:=Z;unfold HasL at J;exact⟨p,x,y,Y,M,N,J.1⟩
 |[],Z=>unfold HasL at Z;exact Z.elim
 |[x],Z=>unfold HasL at Z;obtain⟨_,J⟩:=Z;unfold HasL at J;exact J.elim
 |_::_::_::_,Z=>
  unfold HasL at Z;obtain⟨_,J⟩:=Z;unfold HasL at J;obtain⟨_,G⟩:=J;unfold HasL at G;exact G.elim
def PY:Has H .non W.non.dat:=by unfold W.dat Has;rfl
def Fb{Z:pe}(h:(Z.map V.int)[i]?=some x):∃n r,x=.int n/\Z.drop i=n::r/\Z.drop (i+1)=r/\n∈Z:=by
 rw[ZH]at h
 cases e:Z[i]? with
 |none=>rw[e]at h;cases h
 |some n=>
  rw[e]at h;cases h;obtain⟨J,q⟩:=ZF.mp e;exact⟨n,Z.drop<|i+1,rfl,by rw[List.drop_eq_getElem_cons J,q],rfl,ZJ e⟩
def Jy(ws:pe):Dat:=.tup<|ws.map Dat.int
def W.dep:W->Nat
 |.non=>0
 |.tag _=>0
 |.pair a b=>1+max a.dep b.dep
theorem NX:∀{J:pe}{Z:px},HasL H Z (J.map Dat.int)->Z=J.map V.int
 |[],[],_=>rfl
 |[],_::_,h=>by unfold HasL at h;exact h.elim
 |_::_,[],h=>by rw[ZV]at h;unfold HasL at h;exact h.elim
 |n::J,x::Z,h=>by
  rw[ZV]at h;unfold HasL at h;obtain⟨G,L⟩:=h;unfold Has at G;rw[G,NX L];rfl
theorem NR:∀(Z:pe),HasL H (Z.map V.int)<|Z.map Dat.int
 |[]=>Z6
 |n::Z=>Z4 (by unfold Has;rfl)<|NR Z
def Ju(h:Has H v (Jy J)):∃a,v=.ref a/\H a=some (.tup<|J.map V.int):=by
 unfold Jy Has at h;obtain⟨a,L,rfl,Z,G⟩:=h;rw[NX G]at Z;exact⟨a,Y,Z⟩
def JC(h:H a=some (.tup<|Z.map V.int)):Has H (.ref a) (Jy Z):=by
 unfold Jy Has;exact⟨a,_,Y,h,NR Z⟩
def PP(h:H a=some (.lst Z))(t:HasL H Z J):Has H (.ref a) (.lst J):=by unfold Has;exact⟨a,Z,Y,h,t⟩
def Vz(H:Hp)(p:Addr):Prop:=∃(a:Int)(b:Bool)(c d:Int),H p=some (.lst [.int a,.bl b,.int c,.int d])
def But(p:Addr)(H H':Hp):Prop:=∀b,b≠p->H' b=H b
def But.trans(a:But p H J)(b:But p J Z):But p H Z:=λc h=>(b c h).trans<|a c h
def But.upd{p:Addr}{H:Hp}(o:HO):But p H (upd H p o):=λ_ h=>Yg h
end L2
namespace K4
open PySem L2
def Rw:Yi ["cell","k","number"] ["cell","k"] (Ye Ba):=Y4
def IW:Yi ["cell"] ["cell"] (Ye Ry):=Y4
section
variable{K:W.Frag}
def D9:Sp:=λZ H Q _=>∃(c k:Int),Z=[.int c,.int k]/\∀r:Int,0<=r->r<2147483563->Q (.int r) H
def KY(F:Fun K "_law_mixed" "_law_mixed" Ba f J):Yf P w K T base CX0 (n+1) f J ["cell","k"] D9:=by
 refine F.oq Rw λG A Z s H R Q E I h=>?_;obtain⟨c,k,rfl,q⟩:=h;refine⟨_,YZ (Yw 2 Rw.nd<|VE Jq (VE JT (VE JT (VE Xb (VE Jq (pv 0) Yc) Yc)<|VE Xb Yc<|pv 1) Yc) Yc)
  (YZ (Yw 2 Rw.nd<|VE Jq (VE JT (VE JT (VE Xb (pv 2)<|pv 2)<|VE Xb Yc<|pv 1) Yc) Yc)
  (Yb<|Yn<|VE Jq (VE Xb (pv 2)<|VE JT (pv 2) Yc) Yc)),?_⟩
 show let a:=_;let b:=Yk _ a;Yk _ b _ _ _
 intros
 have D:=jG c (show(2147483647:Int)≠0 by decide);have B:=jo c (show(0:Int)<2147483647 by decide);refine⟨(by show(0:Int)<_;decide),.inl ⟨by omega,by omega⟩,.inl ⟨by decide,by decide⟩,(by show(0:Int)<_;decide),?_⟩;generalize hx:(c % 2147483647*48271+69621*k+7919) % 2147483629=x;have O:0<=x:=by rw[<-hx];exact jG _<|by decide
 have N:x<2147483629:=by rw[<-hx];exact jo _<|by decide
 refine⟨.inl ⟨by omega,by omega⟩,.inl ⟨by decide,by decide⟩,(by show(0:Int)<_;decide),?_⟩;generalize hy:(x*x+31*k+5) % 2147483587=y;have M:0<=y:=by rw[<-hy];exact jG _<|by decide
 have L:y<2147483587:=by rw[<-hy];exact jo _<|by decide
 refine⟨.inl ⟨by omega,by omega⟩,(by show(0:Int)<_;decide),?_⟩;exact q _ (jG _<|by decide)<|jo _<|by decide
def M4:Sp:=λJ H Q _=>∃(c:Int),J=[.int c]/\∀p Z,H p=none->But p H Z->Vz Z p->Q (.ref p) Z
def FJ(F:Fun K "_law_stream" "_law_stream" Ry f L):Yf P w K O base CX0 (n+1) f L ["cell"] M4:=by
 refine F.oq IW λM A Z s H N Q E R h=>?_;obtain⟨c,rfl,q⟩:=h;exists _,Yb<|Yn<|Vg<|pa4 (pv 0) (Ca (JE KN (pv 0) (VE KM Yc Yc)<|Yz _)<|Uz<|JE Xp (pv 0) (Tu X8<|VE KM Yc Yc)<|Yz _) Yc<|VE Jq (pv 0) Yc;have G:zi 10 18:=⟨by decide,by decide,by decide⟩;exists G,_,Y;refine AO (λ_=>?_) λ_=>?_
 .refine ⟨(by show(0:Int)<_;decide),sl 4,λp J=>?_⟩
  exact q p _ J (But.upd _) ⟨_,_,_,_,Yh⟩
 .refine ⟨G,_,rfl,?_⟩
  refine⟨(by show(0:Int)<_;decide),sl 4,λp J=>?_⟩;exact q p _ J (But.upd _) ⟨_,_,_,_,Yh⟩
def WG:Sp:=λJ H Q _=>∃(p:Addr)(many:Int),J=[.ref p,.int many]/\Vz H p/\0<many/\many<1073741824/\∀(r:Int)(Z:Hp),0<=r->r<many->But p H Z->Vz Z p->Q (.int r) Z
def Oz(F:Fun K "_law_take" "_law_take" Ic f C)(G:Yf P w K R base CX0 n g U ["cell","k"] D9)(j:Binds K U ["cell","k"] [])(D:W.keepIn K (.ref g)=true)(T:R "_law_mixed"=some (.ref g)):
  Yf P w K R base CX0 (n+1) f C ["stream","many"] WG:=by
 refine F.oq IU λX A O s H y Q E I h=>?_;obtain⟨p,many,rfl,⟨a,b,c,d,J⟩,L,B,q⟩:=h;refine⟨_,YZ (Y5 (JS<|Ys VI (pv 0) Yc)
   (YZ (Yw 2 IU.nd<|VE Jq (Ys VI (pv 0) Yc)<|pv 1)
   (YZ (Ji (VE ES (Ys VI (pv 0) Yc)<|pv 1)<|Bt (pv 0) Yc set_list)
   (YZ (Ji (Xa (JE UO (Ys VI (pv 0) Yc) Yc<|Yz _)<|Uz<|JE UO (Ys VI (pv 0) Yc) (Tu X8 Yc)<|Yz _)<|Bt (pv 0) Yc set_list)
   (Yb<|Yn<|pv 2)))) Yo)
  (YZ (Ji (VE JT (Ys VI (pv 0) Yc) Yc)<|Bt (pv 0) Yc set_list)
  (Yb<|Yn<|VE Jq (VE ES (JF G I rfl T D j .nil Y1 (pa2 (Ys VI (pv 0) Yc)<|Ys VI (pv 0) Yc)) Yc)<|pv 1)),?_⟩
 show let a:=_;let b:=Yk _ a;let c:=_;let d:=Yk _ c;let e:=Yk _ d;let f:=Yk _ e;Yk (VG _ f _) b _ _ _
 intros
 exists _,_,Z3 J,Y,_,Y;refine AO (λS=>?_) λS=>?_
 .refine ⟨_,_,Z3 J,rfl,L,?_⟩
  exists _,_,Z3 J,Y,⟨L,B⟩,p,_,0,0,Y,Y,J,Y;have Z:upd H p (.lst [.int (a / many),.bl b,.int c,.int d]) p=some (.lst [.int (a / many),.bl b,.int c,.int d]):=Yh;exists _,_,Z3 Z,Y,Y,_,Y;have N:=jG a (show many≠0 by omega);have M:=jo a L;refine AO (λ_=>?_) λ_=>?_
  .refine ⟨_,_,Z3 Z,rfl,_,rfl,rfl,p,_,1,1,rfl,rfl,Z,rfl,?_⟩
   exact q _ _ N M ((But.upd _).trans<|But.upd _) ⟨_,_,_,_,Yh⟩
  .refine ⟨p,_,1,1,rfl,rfl,Z,rfl,?_⟩
   exact q _ _ N M ((But.upd _).trans<|But.upd _) ⟨_,_,_,_,Yh⟩
 .refine ⟨_,_,Z3 J,rfl,p,_,2,2,rfl,rfl,J,rfl,?_⟩
  have Z:upd H p (.lst [.int a,.bl b,.int<|c+1,.int d]) p=some (.lst [.int a,.bl b,.int<|c+1,.int d]):=Yh;refine⟨_,_,Z3 Z,Y,_,_,Z3 Z,Y,_,_,Y,λr N M=>?_⟩;exists ⟨by decide,by decide⟩,L;exact q _ _ (jG _<|by omega) (jo _ L) (But.upd _) ⟨_,_,_,_,Yh⟩
end
end K4
namespace L2
open PySem
def alpha(o:Nat):Str:=⟨((List.range 26).map (o + ·)).toArray⟩
def one(c:Nat):Str:=⟨#[c]⟩
def txt(cs:List Nat):Str:=⟨cs.toArray⟩
def Wj(o:Nat):(alpha o).length=26:=by show((List.range 26).map (o + ·)).toArray.size=26;simp
def Nu(o:Nat)(j:Int)(J:0<=j)(Z:j<26):atI (alpha o).cps.toList j=some (o+j.toNat):=by
 obtain⟨n,rfl⟩:∃n:Nat,j=n:=⟨j.toNat,by omega⟩;refine VC ?_;show(((List.range 26).map (o + ·)).toArray.toList)[n]?=_;rw[qS,ZH,vS (by omega)]
 rfl
def Kj(G:o=97\/o=65)(h:o<=c/\c<o+26):∃i rest,Builtin.Str.occurrences (alpha o) (one c) 0 (alpha o).length 1=i::rest:=by
 have J:∀j<26,(Builtin.Str.occurrences (alpha 97) (one<|97+j) 0 26 1).isEmpty=false/\(Builtin.Str.occurrences (alpha 65) (one<|65+j) 0 26 1).isEmpty=false:=by decide +kernel
 rw[Wj]
 have Z:(Builtin.Str.occurrences (alpha o) (one c) 0 26 1).isEmpty=false:=by
  have a:=J (c-o) (by omega);rcases G with rfl|rfl
  .have e:97+(c-97)=c:=by omega
   rw[e]at a;exact a.1
  .have e:65+(c-65)=c:=by omega
   rw[e]at a;exact a.2
 cases q:Builtin.Str.occurrences (alpha o) (one c) 0 26 1 with
 |nil=>rw[q]at Z;cases Z
 |cons i r=>exact⟨i,r,Y⟩
def Ej{Z:List Nat}(h:Z.length=8):∃a b c d e f g i,Z=[a,b,c,d,e,f,g,i]:=by
 match Z,h with
 |[a,b,c,d,e,f,g,i],_=>exact⟨a,b,c,d,e,f,g,i,Y⟩
def zD(h:cs.length=8):Txt.join (Str.ofString "") (cs.map one)=txt cs:=by
 obtain⟨a,b,c,d,e,f,g,i,rfl⟩:=Ej h
 rfl
def Me(h:cs.length=8)(j:Nat)(Z:j<=8):Txt.slice (txt cs) none (some (j:Int))=txt (cs.take j):=by
 obtain⟨a,b,c,d,e,f,g,i,rfl⟩:=Ej h
 match j,Z with
 |0,_|1,_|2,_|3,_|4,_|5,_|6,_|7,_|8,_=>rfl
def Ll(h:cs.length=8)(j:Nat)(Z:j<=8):Txt.slice (txt cs) (some (j:Int)) none=txt (cs.drop j):=by
 obtain⟨a,b,c,d,e,f,g,i,rfl⟩:=Ej h
 match j,Z with
 |0,_|1,_|2,_|3,_|4,_|5,_|6,_|7,_|8,_=>
  unfold Txt.slice;rw[show(txt [a,b,c,d,e,f,g,i]).length=8 from rfl]
  first
   |(rw[Zp (by decide +kernel)];rfl)
   |(rw[Zq (by decide +kernel)];rfl)
def Ra(a b:List Nat):txt a++ txt b=txt (a++ b):=by
 show(⟨a.toArray++ b.toArray⟩:Str)=⟨(a++ b).toArray⟩;simp
def L9(h:txt a=txt b):a=b:=by
 have q:a.toArray=b.toArray:=congrArg Str.cps h;simpa using q
def RZ(a:List Nat):(txt a).length=a.length:=by show a.toArray.size=a.length;simp
def wd(o:Nat)(cs:List Nat)(at' way i k:Nat):List Nat:=
 if way=0 then cs.take at'++[o+(i+5*k) % 26]++ cs.drop (at'+1)
 else if way=1 then[o+(i+5*k) % 26]++ cs.take ((3*k+at') % 8)
 else if way=2 then cs.take (k % 8+1)
 else cs.take (8-k % 8)
def OH(Z:k<l)(h:l<24):(i+5*k) % 26≠(i+5*l) % 26:=λe=>by
 have q:=Nat.sub_mod_eq_zero_of_mod_eq e.symm;have f:∀d:Fin 24,d.val≠0->5*d.val % 26≠0:=by decide
 refine f ⟨l-k,by omega⟩ (by show l-k≠0;omega) ?_;show 5*(l-k) % 26=0;rw[Nat.mul_sub,<-Nat.add_sub_add_left i (5*l) (5*k)];exact q
def Aw(O:cs.length=8)(G:at'<8)(N:way<2/\l<24\/l<8)(Z:k<l):wd o cs at' way i k≠wd o cs at' way i l:=by
 intro e;have d:=OH (i:=i) Z (N.elim (·.2) λz=>kh z<|by decide);unfold wd at e
 by_cases w0:way=0
 .rw [Zp w0,Zp w0]at e
  have L:(cs.take at').length=at':=by rw[ZN,O];exact jf<|Zh G
  have q:=congrArg (λx:List Nat=>x[at']?) e
  have g:∀x:Nat,(cs.take at'++[x]++ cs.drop (at'+1))[at']?=some x:=λx=>by
   rw[qc,vb<|qv L,L];simp
  exact d<|Nat.add_left_cancel<|ZT<|(g _).symm.trans<|q.trans<|g _
 rw[Zq w0,Zq w0]at e
 by_cases w1:way=1
 .rw [Zp w1,Zp w1]at e
  exact d<|Nat.add_left_cancel (List.cons.inj e).1
 rw[Zq w1,Zq w1]at e;have J:l<8:=N.elim (λz=>by omega) id;have M:=kh Z J;rw[kQ J,kQ M]at e
 have q:∀{a b:Nat},cs.take a=cs.take b->a<=8->b<=8->a=b:=λz G R=>by
  have:=congrArg List.length z;rw[ZN,ZN,O,jf G,jf R]at this;exact this
 by_cases w2:way=2
 .rw [Zp w2,Zp w2]at e
  exact Zr (Nat.succ.inj<|q e M J)<|Ze Z
 rw[Zq w2,Zq w2]at e;have:=q e (Nat.sub_le _ _)<|Nat.sub_le _ _;omega
def Qm(J:cs.length=8)(G:at'<8):1<=(wd o cs at' way i k).length/\(wd o cs at' way i k).length<=8:=by
 have t:∀{n:Nat},n<=8->(cs.take n).length=n:=λh=>by rw[ZN,J];exact jf h
 unfold wd
 split
 .rw [ZL,ZL,t<|Zh G,jz,J,vc];omega
 split
 .rw [ZL,t<|Zh<|qy _<|by decide,vc]
  have:=qy (3*k+at') (show 8 > 0 by decide);omega
 have Z:=qy k (show 8 > 0 by decide)
 split
 .rw [t Z];exact⟨Nat.succ_pos _,Z⟩
 .rw [t (Nat.sub_le _ _)];exact⟨Nat.sub_pos_of_lt Z,Nat.sub_le _ _⟩
def Ax(Z:∀c∈cs,o<=c/\c<o+26):∀c∈wd o cs at' way i k,o<=c/\c<o+26:=by
 have z:o<=o+(i+5*k) % 26/\o+(i+5*k) % 26<o+26:=by omega
 intro c h;unfold wd at h
 split at h
 .simp only[ZX,ZQ]at h
  rcases h with(h|h)|h
  .exact Z c (Zk h)
  .rw [h];exact z
  .exact Z c (jX h)
 split at h
 .simp only[ZX,ZQ]at h
  rcases h with h|h
  .rw [h];exact z
  .exact Z c (Zk h)
 split at h
 .exact Z c (Zk h)
 .exact Z c (Zk h)
structure Wds(o:Nat)(ys:List Str):Prop where
 nd:ys.Nodup
 len:∀y∈ys,1<=y.length/\y.length<=8
 abc:∀y∈ys,∀c∈y.cps.toList,o<=c/\c<o+26
def Ql(M:cs.length=8)(L:at'<8)(T:way<2/\m<=24\/m<=8)(N:∀c∈cs,o<=c/\c<o+26):Wds o ((List.range m).map λk=>txt<|wd o cs at' way i k):=by
 refine⟨?_,λy Z=>?_,λy Z c J=>?_⟩
 .show List.Pairwise _ _
  rw[qe];refine List.Pairwise.imp_of_mem ?_<|List.pairwise_lt_range (n:=m);intro a b R O G e;exact Aw (i:=i) M L (by have:=vt.mp O;omega) G<|L9 e
 .obtain ⟨k,_,rfl⟩:=ZW.mp Z
  rw[RZ];exact Qm M L
 .obtain ⟨k,_,rfl⟩:=ZW.mp Z
  exact Ax N c<|by simpa[txt]using J
def SameB(p:Addr)(H H':Hp):Prop:=∀b o,b≠p->H b=some o->H' b=some o
def SameB.refl(p:Addr)(H:Hp):SameB p H H:=λ_ _ _ h=>h
def SameB.trans(a:SameB p H J)(b:SameB p J Z):SameB p H Z:=λc o n h=>b c o n<|a c o n h
def But.sb(a:But p H Z):SameB p H Z:=λb o n h=>(a b n).trans h
def Same.sb(a:Same H Z):SameB p H Z:=λb o _ h=>a b o h
def SameB.free(a:SameB p H Z)(n:r≠p)(h:Z r=none):H r=none:=by
 cases e:H r with
 |none=>rfl
 |some o=>rw[a r o n e]at h;cases h
def SameB.put(a:SameB p H Z)(h:H r=none):SameB p H (upd Z r o):=λb u n e=>by
 rw[Yg (Ya e h)];exact a b u n e
def Vz.ne(s:Vz H p)(h:H r=none):r≠p:=λe=>by
 obtain⟨a,b,c,d,q⟩:=s;rw[<-e,h]at q;cases q
def Vz.keep(s:Vz H p)(e:Z p=H p):Vz Z p:=by
 obtain⟨a,b,c,d,q⟩:=s;exact⟨a,b,c,d,e.trans q⟩
def M3(a b:Str):(a++ b).length=a.length+b.length:=by
 show(a.cps++ b.cps).size=a.cps.size+b.cps.size;simp
def Ah(h:cs.length=8)(Z J:pc):(Txt.slice (txt cs) Z J).length<=8:=by
 have q:=Txt.slice_le (txt cs) Z J;rw[RZ,h]at q;exact q
def CZ{J Z i k:Nat}(h:Z<4):atI [V.str (txt<|cs.take J++[o+(i+5*k) % 26]++ cs.drop (J+1)),V.str<|txt<|[o+(i+5*k) % 26]++ cs.take ((3*k+J) % 8),V.str<|txt<|cs.take<|k % 8+1,V.str (txt<|cs.take<|8-k % 8)] (Z:Int)=some (V.str<|txt<|wd o cs J Z i k):=by
 match Z,h with
 |0,_|1,_|2,_|3,_=>rfl
end L2
namespace K4
open PySem L2
def UG:Yi ["stream","many","letters","ways","k","base","at","way","words","sign","some"] ["stream","many","letters","ways"] (Ye BU):=Y4
def AE:List.Nodup [("k":Str),"letters","stream"]:=by decide +kernel
section
def Wv:Sp:=λL H Q _=>∃(p:Addr)(many:Nat)(o:Nat)(Z:Nat),L=[.ref p,.int many,.str<|alpha o,.int Z]/\Vz H p/\(o=97\/o=65)/\0<Z/\(Z<=2/\many<=24\/Z<=4/\many<=8)/\
 ∀(r:Addr)(G:kZ)(J:Hp),SameB p H J->Vz J p->H r=none->r≠p->J r=some (.lst<|G.map V.str)->G.length=many->Wds o G->Q (.ref r) J
def KP(B:Blt mg)(F:Fun K "_law_words" "_law_words" BU f fd)(G:Yf P w K mg base CX0 n g gd ["stream","many"] WG)(bG:Binds K gd ["stream","many"] [])(kG:W.keepIn K (.ref g)=true)(mG:mg "_law_take"=some (.ref g)):
  Yf P w K mg base CX0 (n+1) f fd ["stream","many","letters","ways"] Wv:=by
 refine F.oq UG λT1 A R6 s H u Q E hr h=>?_;obtain⟨p,many,o,T,rfl,hs,ho,hw,hm,q⟩:=h;refine⟨_,YZ (Yw 5 UG.nd (Js PySem.F.plainAttrs_str PySem.F.slot_str_join PySem.F.type_str_join PM Y0 (pa1 (JN ["k"] [2,0] (UN Y B.range (pa1 Yc)) (Vv (i:=0)<|by decide)
   (λcl C fp s H=>Yj 0 AE rfl (Or.inl rfl) (Or.inr rfl)) (λcl C fp s H=>Ys (r:=CV) DJ (pv 1) (JF G hr rfl mG kG bG .nil Y1 (pa2 (pv 2) Yc)) λ_ _=>rfl)))))
  (YZ (Yw 6 UG.nd<|JF G hr rfl mG kG bG .nil Y1 (pa2 (pv 0) Yc))
  (YZ (Yw 7 UG.nd<|JF G hr rfl mG kG bG .nil Y1 (pa2 (pv 0)<|pv 3))
  (YZ (Yw 8 UG.nd<|Vg VR)
  (YZ (V5 Zv rfl (UN rfl B.range (pa1<|pv 1)) (Yj 4 UG.nd)
   (YZ (Yw 9 UG.nd<|Ys DJ (pv 2) (VE Jq (VE JT (Js PySem.F.plainAttrs_str PySem.F.slot_str_index PySem.F.type_str_index Kt (pv 2)<|pa1<|Ys DJ (pv 5) (pv 6) λ_ _=>rfl)<|VE Xb Yc<|pv 4) Yc) λ_ _=>rfl)
   (YZ (Yw 10 UG.nd<|Vg<|pa4 (VE Xc (VE Xc (JA GZ (pv 5) JZ<|JY<|pv 6)<|pv 9)<|JA GZ (pv 5) (JY<|VE JT (pv 6) Yc) JZ) (VE Xc (pv 9)<|JA GZ (pv 5) JZ<|JY<|VE Jq (VE JT (VE Xb Yc<|pv 4)<|pv 6) Yc) (JA GZ (pv 5) JZ<|JY<|VE JT (VE Jq (pv 4) Yc) Yc)<|JA GZ (pv 5) JZ<|JY<|VE Sr Yc<|VE Jq (pv 4) Yc)
   (Yb<|VW<|Js Zz Z0 Z1 Vn (pv 8)<|pa1<|Ys VI (pv 10) (pv 7) λ_ _=>rfl))))
  (Yb<|Yn<|pv 8))))),?_⟩
 show let a:=_;let b:=_;let c:=Yk _ b;let d:=Yk _ c;let e:=Yk (UX _ _ d) a;let f:=Yk _ e;let g:=Yk _ f;let h:=Yk _ g;Yk _ h _ _ _
 intros
 have em:((many:Nat):Int).toNat=many:=js _;refine⟨Y,8,Y,by decide,by decide,?_⟩;refine Vj 8 (Yv<|by decide) (λi u L=>SameB p H L/\Vz L p/\∃Z:List Nat,u=Z.map (λc=>V.str<|one c)/\Z.length=i/\∀c∈Z,o<=c/\c<o+26) ⟨SameB.refl _ _,hs,[],rfl,rfl,λc h=>nomatch h⟩
  (λi u L z=>by obtain⟨_,_,Z,e,l,_⟩:=z;rw[e,ZA,l]) (λi u L X z=>X) (λu L z=>ZG _) ?_ ?_
 .intro i u L x H'' R X z yl hR
  obtain⟨rfl,rfl⟩:=yl;obtain⟨j,O,Z,rfl,zl,zc⟩:=z;refine⟨p,26,Y,O,by decide,by decide,λr H3 r0 r1 b s3=>?_⟩;refine⟨alpha o,r,o+r.toNat,Y,Y,by rw[Wj];decide,Nu o r r0 r1,hR _ _ ⟨j.trans b.sb,s3,Z++[o+r.toNat],by rw[ZK];rfl,by rw[ZL,zl];rfl,λc hc=>?_⟩⟩;rcases ZX.mp hc with h|h
  .exact zc c h
  .rw [ZQ.mp h];omega
 intro u H1 pl z G3;obtain⟨j,O,Z,rfl,M,zc⟩:=z;have R7:pl≠p:=O.ne G3;have e1:Z.map (λc=>V.str<|one c)=(Z.map one).map V.str:=by rw[vm];rfl
 exists _,pl,Z.map one,Y,Y,Z3 (by rw[Yh,e1]),?_
 .obtain ⟨a,b,c,d,e,f,g,i,rfl⟩:=Ej M
  show(8:Nat)+8*0<=16777216
  decide
 rw[zD M];have s1:Vz (upd H1 pl<|.lst<|Z.map λc=>V.str<|one c) p:=O.keep<|Yg<|Zs R7;have b1:SameB p H (upd H1 pl<|.lst<|Z.map λc=>V.str<|one c):=j.trans (Yu G3 _).sb;generalize upd H1 pl (.lst<|Z.map λc=>V.str<|one c)=H2 at s1 b1;refine⟨p,8,Y,s1,by decide,by decide,λR1 H3 a0 a1 b3 s3=>?_⟩;refine⟨p,T,Y,s3,by omega,by omega,λJ2 H4 w0 w1 b4 s4=>?_⟩;refine⟨sl 0,λy G2=>?_⟩;have b5:SameB p H H4:=(b1.trans b3.sb).trans b4.sb;have N:y≠p:=s4.ne G2;have v:H y=none:=b5.free N G2;obtain⟨at1,rfl⟩:∃n:Nat,R1=n:=⟨R1.toNat,by omega⟩;obtain⟨D,rfl⟩:∃n:Nat,J2=n:=⟨J2.toNat,by omega⟩;have R8:at1<8:=by omega
 obtain⟨c0,O1⟩:∃c0,Z[at1]?=some c0:=⟨Z[at1],ZD<|by omega⟩;obtain⟨J,rest,M2⟩:=Kj ho<|zc c0<|ZJ O1;exists many,Y,by omega,by omega
 let I:pB:=λi U L=>SameB p H L/\Vz L p/\L y=some (.lst<|((List.range i).map λk=>txt<|wd o Z at1 D J k).map V.str)/\
  ∃j O z3,U=[some (.ref p),some<|.int many,some<|.str<|alpha o,some<|.int T,j,some<|.str<|txt Z,some<|.int at1,some<|.int D,some<|.ref y,O,z3]
 refine TJ (n:=((many:Nat):Int).toNat) I ?_ ?_ ?_
 .exact ⟨b5.put v,s4.keep<|Yg<|Zs N,Yh,_,_,_,rfl⟩
 .rintro BB RR i U L X ⟨y1,y2,y3,j,O,z3,rfl⟩
  rw[em]at X;have tl:(txt Z).length<=sizeLine:=by rw[RZ,M];decide
  have e0:((J:Int)+5*(0+(i:Int))) % 26=(((J+5*i) % 26:Nat):Int):=by rw[show(J:Int)+5*(0+(i:Int))=((J+5*i:Nat):Int) by omega];rfl
  have S:(0:Int)<=((J:Int)+5*(0+(i:Int))) % 26/\((J:Int)+5*(0+(i:Int))) % 26<26:=by rw[e0];exact⟨Int.natCast_nonneg _,Int.ofNat_lt.mpr<|qy _<|by decide⟩
  have T0:(((J:Int)+5*(0+(i:Int))) % 26).toNat=(J+5*i) % 26:=by rw[e0];rfl
  refine⟨Y,txt Z,at1,c0,Y,Y,tl,VC<|by simpa[txt]using O1,_,_,J,rest,rfl,rfl,M2,.inl ⟨by decide,by decide⟩,(by show(0:Int)<_;decide),?_⟩;exists alpha o,_,_,Y,Y,by rw[Wj];decide,Nu o _ S.1 S.2;rw[T0];have sg:(⟨#[o+(J+5*i) % 26]⟩:Str)=txt [o+(J+5*i) % 26]:=rfl;rw[sg]
  have eA:Txt.slice (txt Z) none (some (at1:Int))++ txt [o+(J+5*i) % 26]++ Txt.slice (txt Z) (some<|(at1:Int)+1) none=txt (Z.take at1++[o+(J+5*i) % 26]++ Z.drop (at1+1)):=by
   have z:((at1:Int)+1)=((at1+1:Nat):Int):=by omega
   rw[z,Me M at1<|by omega,Ll M (at1+1)<|by omega,Ra,Ra]
  have eB:txt [o+(J+5*i) % 26]++ Txt.slice (txt Z) none (some<|(3*(0+(i:Int))+(at1:Int)) % 8)=txt ([o+(J+5*i) % 26]++ Z.take ((3*i+at1) % 8)):=by
   have z:(3*(0+(i:Int))+(at1:Int)) % 8=(((3*i+at1) % 8:Nat):Int):=by rw[show 3*(0+(i:Int))+(at1:Int)=((3*i+at1:Nat):Int) by omega];rfl
   rw[z,Me M _<|Zh<|qy _<|by decide,Ra]
  have eC:Txt.slice (txt Z) none (some<|(0+(i:Int)) % 8+1)=txt (Z.take<|i % 8+1):=by
   have z:(0+(i:Int)) % 8+1=((i % 8+1:Nat):Int):=by rw[Int.zero_add];rfl
   rw[z,Me M _ (by omega)]
  have eD:Txt.slice (txt Z) none (some<|8-(0+(i:Int)) % 8)=txt (Z.take<|8-i % 8):=by
   have z:8-(0+(i:Int)) % 8=((8-i % 8:Nat):Int):=by omega
   rw[z,Me M _ (by omega)]
  have small:∀m:Nat,m<=100->m<=sizeLine:=λm h=>Zh (Yv<|by omega);have k1:∀lo X,(Txt.slice (txt Z) lo X).length<=8:=λlo X=>Ah M lo X;have x1:(txt [o+(J+5*i) % 26]).length=1:=rfl;refine⟨_,Y,txt Z,Y,tl,_,_,Y,Y,small _ (by have:=k1 none<|some (at1:Int);omega),_,Y,txt Z,Y,tl,_,_,Y,Y,small _ (by have:=k1 none<|some (at1:Int);have:=k1 (some<|(at1:Int)+1) none;rw[M3];omega),?_⟩;refine⟨.inl ⟨by decide,by decide⟩,(by show(0:Int)<_;decide),_,Y,txt Z,Y,tl,_,_,Y,Y,small _ (by have:=k1 none<|some<|(3*(0+(i:Int))+(at1:Int)) % 8;omega),?_⟩;exists (by show(0:Int)<_;decide),_,Y,txt Z,Y,tl;refine⟨(by show(0:Int)<_;decide),_,Y,txt Z,Y,tl,sl 4,λt ht=>?_⟩;rw[eA,eB,eC,eD];have nt:t≠p:=y2.ne ht;have G1:y≠t:=Ya y3 ht;exists .inl ⟨Y,_,Z3<|(Yg G1).trans y3⟩,_,_,Z3 Yh,CZ<|by omega,y,_,_,rfl,rfl,(Yg G1).trans y3,?_
  .rw [ZA,ZA,ve]
   exact Yv<|by omega
  .have ft:H t=none:=y1.free nt ht
   refine⟨(y1.put ft).put v,y2.keep<|(Yg<|Zs N).trans<|Yg<|Zs nt,?_,_,_,_,rfl⟩;rw[Yh,<-Gm,ZK]
   rfl
 .rintro U L ⟨y1,y2,y3,j,O,z3,rfl⟩
  rw[em]at y3;refine q y _ L y1 y2 v N y3 (by simp)<|Ql M R8 ?_ zc;omega
end
end K4
namespace L2
open PySem PySem.Spec PyProof.Rows SeqAt
mutual
def Dat.pq:Dat->Dat->Bool
 |.non,.non=>true
 |.bl a,.bl b=>a==b
 |.bl a,.int b=>(if a then 1 else 0)==b
 |.int a,.bl b=>a==(if b then 1 else 0)
 |.int a,.int b=>a==b
 |.str a,.str b=>a==b
 |.tup a,.tup b=>Dat.pqs a b
 |.lst a,.lst b=>Dat.pqs a b
 |_,_=>false
def Dat.pqs:List Dat->List Dat->Bool
 |[],[]=>true
 |a::as,b::bs=>Dat.pq a b && Dat.pqs as bs
 |_,_=>false
end
mutual
theorem Dat.pq_self:∀a:Dat,a.pq a=true
 |.non=>by unfold Dat.pq;rfl
 |.bl b=>by unfold Dat.pq;exact beq_self_eq_true b
 |.int i=>by unfold Dat.pq;exact beq_self_eq_true i
 |.str x=>by unfold Dat.pq;exact beq_self_eq_true x
 |.tup ds=>by unfold Dat.pq;exact Dat.pqs_self ds
 |.lst ds=>by unfold Dat.pq;exact Dat.pqs_self ds
theorem Dat.pqs_self:∀a:pE,Dat.pqs a a=true
 |[]=>by unfold Dat.pqs;rfl
 |a::as=>by unfold Dat.pqs;rw[Dat.pq_self a,Dat.pqs_self as];rfl
end
theorem Wz:∀(J Z:pE),((List.range<|min J.length Z.length).all (λi=>((J[i]?).getD .non).pq<|(Z[i]?).getD .non) && J.length==Z.length)=Dat.pqs J Z
 |[],[]=>by unfold Dat.pqs;rfl
 |[],_::_=>by unfold Dat.pqs;simp
 |_::_,[]=>by unfold Dat.pqs;simp
 |a::J,b::Z=>by
  have ih:=Wz J Z;have e:min (a::J).length (b::Z).length=min J.length Z.length+1:=by simp only[Zf];omega
  rw[e,qz,qU,List.all_map];unfold Dat.pqs;rw[<-ih];have G:((a::J).length==(b::Z).length)=(J.length==Z.length):=by simp
  rw[G,Bool.and_assoc]
  rfl
def Og(h:Z.length=J.length):(List.range Z.length).all (λi=>((Z[i]?).getD .non).pq<|(J[i]?).getD .non)=Dat.pqs Z J:=by
 rw[<-Wz Z J,h];simp
def Ir(h:J.length≠Z.length):Dat.pqs J Z=false:=by
 rw[<-Wz J Z];simp[h]
def UV{s:Shared}(G:HOk P w H s.heap)(h:H a=some (.tup J)):∃Z:kX,Vals J Z/\s.heap.IsTuple a Z.toArray:=by
 obtain⟨_,Z,r,p⟩:=(show VQ P w H s.heap a (.tup J)from G a _ h);exact⟨Z,r,p.is⟩
def Ue{s:Shared}(G:HOk P w H s.heap)(h:H a=some (.lst J)):∃Z:kX,Vals J Z/\s.heap.IsList a Z.toArray:=by
 obtain⟨_,Z,n,r,p⟩:=(show VQ P w H s.heap a (.lst J)from G a _ h);exact⟨Z,r,_,p,Y,n,Y⟩
structure Cmp(A:Around)(s:Shared)(u v:Value)(b:Bool):Prop where
 eq:EqAt A s u v b
 rc:RcAt A s u v b
 ne:RcNeAt A s u v (!b)
def Es{A:Around}{F q:pE}{L G:px}{J Z:kX}(ih:∀(I t:Dat){x y:V}{u v:Value},I.dep<=m->Has H x I->Has H y t->RelV x u->RelV y v->EqAt A s u v (I.pq t))(e:Dat.deps F<=m)(R:HasL H L F)(O:HasL H G q)(r:Vals L J)(S:Vals G Z):∀j (Q:j<J.toArray.size) (P:j<Z.toArray.size),EqAt A s J.toArray[j] Z.toArray[j] ((λi=>((F[i]?).getD .non).pq<|(q[i]?).getD .non) j):=by
 intro j Q P;have b:=r.length;have l:=S.length;rw[ZO]at Q P;have C:j<L.length:=by omega
 have U:j<G.length:=by omega
 obtain⟨d,X,f⟩:=R.get<|ZD C;obtain⟨w,E,D⟩:=O.get<|ZD U;obtain⟨k,B,N⟩:=r.get<|ZD C;obtain⟨g,T,M⟩:=S.get<|ZD U;have c:J.toArray[j]=k:=by have z:=(ZF.mp B).2;simpa using z
 have p:Z.toArray[j]=g:=by have z:=(ZF.mp T).2;simpa using z
 dsimp only;rw[c,p,X,E];have c1:=Dat.deps_get X;exact ih d w (by omega) f D N M
def Nk(U:HOk P w H s.heap)(n:Nat)(ih:∀m,n=m+1->∀(C S:Dat)(A:Around){x y:V}{u v:Value},C.dep<=m->Has H x C->Has H y S->RelV x u->RelV y v->Vr (m+1) A->Cmp A s u v (C.pq S))(C S:Dat)(A:Around){x y:V}{u v:Value}(hn:C.dep<=n)(B:Has H x C)(Z:Has H y S)(j:RelV x u)(L:RelV y v)(i:Vr (n+1) A):Cmp A s u v (C.pq S):=by
 have G:=i.units0
 cases C with
 |non=>
  unfold Has at B;subst B;cases j
  cases S with
  |non=>unfold Has at Z;subst Z;cases L;unfold Dat.pq;exact⟨.same _,.none_none,.none_none⟩
  |bl b=>unfold Has at Z;subst Z;cases L;unfold Dat.pq;exact⟨.none_bool _,.none_bool _,.none_bool _⟩
  |int b=>unfold Has at Z;subst Z;obtain⟨Q,rfl⟩:=L;unfold Dat.pq;exact⟨.none_int _ _,.none_int _ _,.none_int _ _⟩
  |str b=>unfold Has at Z;subst Z;obtain⟨Q,rfl⟩:=L;unfold Dat.pq;exact⟨.none_str _ _,.none_str _ _,.none_str _ _⟩
  |tup O=>unfold Has at Z;obtain⟨p,X,rfl,R,_⟩:=Z;cases L;obtain⟨N,r,J⟩:=UV U R;unfold Dat.pq;exact⟨.none_tuple J G,.none_tuple J G,.none_tuple J G⟩
  |lst O=>unfold Has at Z;obtain⟨p,X,rfl,R,_⟩:=Z;cases L;obtain⟨N,r,J⟩:=Ue U R;unfold Dat.pq;exact⟨.none_list J G,.none_list J G,.none_list J G⟩
 |bl a=>
  unfold Has at B;subst B;cases j
  cases S with
  |non=>unfold Has at Z;subst Z;cases L;unfold Dat.pq;exact⟨.bool_none _,.bool_none _,.bool_none _⟩
  |bl b=>unfold Has at Z;subst Z;cases L;unfold Dat.pq;exact⟨.bool_bool _ _,.bool_bool _ _,.bool_bool _ _⟩
  |int b=>unfold Has at Z;subst Z;obtain⟨Q,rfl⟩:=L;unfold Dat.pq;exact⟨.bool_int _ _ _,.bool_int _ _ _,.bool_int _ _ _⟩
  |str b=>unfold Has at Z;subst Z;obtain⟨Q,rfl⟩:=L;unfold Dat.pq;exact⟨.bool_str _ _ _,.bool_str _ _ _,.bool_str _ _ _⟩
  |tup O=>unfold Has at Z;obtain⟨p,X,rfl,R,_⟩:=Z;cases L;obtain⟨N,r,J⟩:=UV U R;unfold Dat.pq;exact⟨.bool_tuple _ J G,.bool_tuple _ J G,.bool_tuple _ J G⟩
  |lst O=>unfold Has at Z;obtain⟨p,X,rfl,R,_⟩:=Z;cases L;obtain⟨N,r,J⟩:=Ue U R;unfold Dat.pq;exact⟨.bool_list _ J G,.bool_list _ J G,.bool_list _ J G⟩
 |int a=>
  unfold Has at B;subst B;obtain⟨t,rfl⟩:=j
  cases S with
  |non=>unfold Has at Z;subst Z;cases L;unfold Dat.pq;exact⟨.int_none _ _,.int_none _ _,.int_none _ _⟩
  |bl b=>unfold Has at Z;subst Z;cases L;unfold Dat.pq;exact⟨.int_bool _ _ _,.int_bool _ _ _,.int_bool _ _ _⟩
  |int b=>unfold Has at Z;subst Z;obtain⟨Q,rfl⟩:=L;unfold Dat.pq;exact⟨.int_int _ _ _ _,.int_int _ _ _ _,.int_int _ _ _ _⟩
  |str b=>unfold Has at Z;subst Z;obtain⟨Q,rfl⟩:=L;unfold Dat.pq;exact⟨.int_str _ _ _ _,.int_str _ _ _ _,.int_str _ _ _ _⟩
  |tup O=>unfold Has at Z;obtain⟨p,X,rfl,R,_⟩:=Z;cases L;obtain⟨N,r,J⟩:=UV U R;unfold Dat.pq;exact⟨.int_tuple _ _ J G,.int_tuple _ _ J G,.int_tuple _ _ J G⟩
  |lst O=>unfold Has at Z;obtain⟨p,X,rfl,R,_⟩:=Z;cases L;obtain⟨N,r,J⟩:=Ue U R;unfold Dat.pq;exact⟨.int_list _ _ J G,.int_list _ _ J G,.int_list _ _ J G⟩
 |str a=>
  unfold Has at B;subst B;obtain⟨t,rfl⟩:=j
  cases S with
  |non=>unfold Has at Z;subst Z;cases L;unfold Dat.pq;exact⟨.str_none _ _,.str_none _ _,.str_none _ _⟩
  |bl b=>unfold Has at Z;subst Z;cases L;unfold Dat.pq;exact⟨.str_bool _ _ _,.str_bool _ _ _,.str_bool _ _ _⟩
  |int b=>unfold Has at Z;subst Z;obtain⟨Q,rfl⟩:=L;unfold Dat.pq;exact⟨.str_int _ _ _ _,.str_int _ _ _ _,.str_int _ _ _ _⟩
  |str b=>unfold Has at Z;subst Z;obtain⟨Q,rfl⟩:=L;unfold Dat.pq;exact⟨.str_str _ _ _ _,.str_str _ _ _ _,.str_str _ _ _ _⟩
  |tup O=>unfold Has at Z;obtain⟨p,X,rfl,R,_⟩:=Z;cases L;obtain⟨N,r,J⟩:=UV U R;unfold Dat.pq;exact⟨.str_tuple _ _ J G,.str_tuple _ _ J G,.str_tuple _ _ J G⟩
  |lst O=>unfold Has at Z;obtain⟨p,X,rfl,R,_⟩:=Z;cases L;obtain⟨N,r,J⟩:=Ue U R;unfold Dat.pq;exact⟨.str_list _ _ J G,.str_list _ _ J G,.str_list _ _ J G⟩
 |tup D=>
  unfold Has at B;obtain⟨p,xs,rfl,R,F⟩:=B;cases j;obtain⟨N,r,J⟩:=UV U R
  cases S with
  |non=>unfold Has at Z;subst Z;cases L;unfold Dat.pq;exact⟨.tuple_none J G,.tuple_none J G,.tuple_none J G⟩
  |bl b=>unfold Has at Z;subst Z;cases L;unfold Dat.pq;exact⟨.tuple_bool _ J G,.tuple_bool _ J G,.tuple_bool _ J G⟩
  |int b=>unfold Has at Z;subst Z;obtain⟨Q,rfl⟩:=L;unfold Dat.pq;exact⟨.tuple_int _ _ J G,.tuple_int _ _ J G,.tuple_int _ _ J G⟩
  |str b=>unfold Has at Z;subst Z;obtain⟨Q,rfl⟩:=L;unfold Dat.pq;exact⟨.tuple_str _ _ J G,.tuple_str _ _ J G,.tuple_str _ _ J G⟩
  |lst O=>unfold Has at Z;obtain⟨q,X,rfl,h,_⟩:=Z;cases L;obtain⟨T,g,M⟩:=Ue U h;unfold Dat.pq;exact⟨.tuple_list J M G,.tuple_list J M G,.tuple_list J M G⟩
  |tup O=>
   unfold Has at Z;obtain⟨c,X,rfl,I,E⟩:=Z;cases L;obtain⟨T,g,M⟩:=UV U I;have l1:=F.length;have l2:=E.length;have l3:=r.length;have l4:=g.length;have dd:Dat.deps D+1<=n:=by unfold Dat.dep at hn;omega
   obtain⟨m,rfl⟩:∃m,n=m+1:=⟨n-1,by omega⟩;have d:=Es (A:=A.in1) (λC S {x y u v} z B Z j L=>(ih m rfl C S A.in1 z B Z j L i.in1).eq) (show Dat.deps D<=m by omega) F E r g;have f:N.toArray.size=D.length:=by rw[ZO];omega
   have o:T.toArray.size=O.length:=by rw[ZO];omega
   have q:=RcAt.tuples (A:=A) J M G d;have k:=RcNeAt.tuples (A:=A) J M G d;rw[f,o,Wz]at q k;have e0:(Dat.tup D).pq (Dat.tup O)=Dat.pqs D O:=by conv=>lhs;unfold Dat.pq
   rw[e0];refine⟨?_,q,k⟩
   by_cases e:p=c
   .subst e
    rw[R]at I;cases I;rw[HasL.inj D O F E,Dat.pqs_self];exact EqAt.same _
   .exact EqAt.of_refs e q
 |lst D=>
  unfold Has at B;obtain⟨p,xs,rfl,R,F⟩:=B;cases j;obtain⟨N,r,J⟩:=Ue U R
  cases S with
  |non=>unfold Has at Z;subst Z;cases L;unfold Dat.pq;exact⟨.list_none J G,.list_none J G,.list_none J G⟩
  |bl b=>unfold Has at Z;subst Z;cases L;unfold Dat.pq;exact⟨.list_bool _ J G,.list_bool _ J G,.list_bool _ J G⟩
  |int b=>unfold Has at Z;subst Z;obtain⟨Q,rfl⟩:=L;unfold Dat.pq;exact⟨.list_int _ _ J G,.list_int _ _ J G,.list_int _ _ J G⟩
  |str b=>unfold Has at Z;subst Z;obtain⟨Q,rfl⟩:=L;unfold Dat.pq;exact⟨.list_str _ _ J G,.list_str _ _ J G,.list_str _ _ J G⟩
  |tup O=>unfold Has at Z;obtain⟨q,X,rfl,h,_⟩:=Z;cases L;obtain⟨T,g,M⟩:=UV U h;unfold Dat.pq;exact⟨.list_tuple J M G,.list_tuple J M G,.list_tuple J M G⟩
  |lst O=>
   unfold Has at Z;obtain⟨c,X,rfl,I,E⟩:=Z;cases L;obtain⟨T,g,M⟩:=Ue U I;have l1:=F.length;have l2:=E.length;have l3:=r.length;have l4:=g.length;have dd:Dat.deps D+1<=n:=by unfold Dat.dep at hn;omega
   obtain⟨m,rfl⟩:∃m,n=m+1:=⟨n-1,by omega⟩;have d:=Es (A:=A.in1) (λC S {x y u v} z B Z j L=>(ih m rfl C S A.in1 z B Z j L i.in1).eq) (show Dat.deps D<=m by omega) F E r g;have f:N.toArray.size=D.length:=by rw[ZO];omega
   have o:T.toArray.size=O.length:=by rw[ZO];omega
   have e0:(Dat.lst D).pq (Dat.lst O)=Dat.pqs D O:=by conv=>lhs;unfold Dat.pq
   rw[e0]
   have l:RcAt A s (.ref p) (.ref c) (Dat.pqs D O)/\RcNeAt A s (.ref p) (.ref c) (!Dat.pqs D O):=by
    by_cases e:D.length=O.length
    .have q:=RcAt.lists (A:=A) J M (by omega) G d
     have k:=RcNeAt.lists (A:=A) J M (by omega) G d;rw[f,Og e]at q k;exact⟨q,k⟩
    .have z:(N.toArray.size !=T.toArray.size)=true:=by rw[f,o];simp[e]
     rw[Ir e];exact⟨RcAt.lists_lengths (A:=A) J M z G,RcNeAt.lists_lengths (A:=A) J M z G⟩
   refine⟨?_,l.1,l.2⟩
   by_cases e:p=c
   .subst e
    rw[R]at I;cases I;rw[HasL.inj D O F E,Dat.pqs_self];exact EqAt.same _
   .exact EqAt.of_refs e l.1
theorem Mh(G:HOk P w H s.heap):∀(n:Nat)(Z J:Dat)(A:Around){x y:V}{u v:Value},Z.dep<=n->Has H x Z->Has H y J->RelV x u->RelV y v->Vr (n+1) A->Cmp A s u v (Z.pq J)
 |0,Z,J,A,_,_,_,_,hn,hx,hy,ru,rv,hr=>Nk G 0 (λ_ e=>nomatch e) Z J A hn hx hy ru rv hr
 |n+1,Z,J,A,_,_,_,_,hn,hx,hy,ru,rv,hr=>Nk G (n+1) (λ_ e Z J A {_ _ _ _}=>by cases e;exact Mh G n Z J A) Z J A hn hx hy ru rv hr
section
def yZ(k:Nat):R2:=λx y H Q=>∃d e,Has H x d/\Has H y e/\d.dep<=k/\Q (.bl<|d.pq e) H
def yX(k:Nat):R2:=λx y H Q=>∃d e,Has H x d/\Has H y e/\d.dep<=k/\Q (.bl<|!d.pq e) H
def Bz(L:Vr (k+1) X.A):OpR X (compareOp .Eq) (yZ k):=by
 intro Z s U H x y v u Q I G J h;obtain⟨d,e,O,N,M,q⟩:=h;exact(Mh I.hok k d e X.A M O N G J L).rc _ _ _ _ ⟨.bl _,H,I,rfl,q⟩
def MH(L:Vr (k+1) X.A):OpR X (compareOp .NotEq) (yX k):=by
 intro Z s U H x y v u Q I G J h;obtain⟨d,e,O,N,M,q⟩:=h;exact(Mh I.hok k d e X.A M O N G J L).ne _ _ _ _ ⟨.bl _,H,I,rfl,q⟩
end
end L2
namespace L2
open PySem PySem.Spec PyProof.Rows
mutual
def Dat.st:Dat->Bool
 |.str _=>true
 |.tup ds=>Dat.sts ds
 |_=>false
def Dat.sts:List Dat->Bool
 |[]=>true
 |d::ds=>d.st && Dat.sts ds
end
end L2
namespace L2
open PySem
inductive Shp where
 |tags (ts:List Str)
 |pair (a b:Str)
abbrev pF:=List (Str×Shp)
def Shp.dat:Shp->Dat
 |.tags ts=>.tup [.str "tags",.tup (ts.map Dat.str)]
 |.pair a b=>.tup [.str "pair",.str a,.str b]
theorem Mz:∀Z:kZ,Dat.sts (Z.map Dat.str)=true
 |[]=>by unfold Dat.sts;rfl
 |t::Z=>by rw[ZV];unfold Dat.sts;rw[Mz Z];unfold Dat.st;rfl
theorem Shp.st:∀s:Shp,s.dat.st=true
 |.tags ts=>by simp[Shp.dat,Dat.st,Dat.sts,Mz]
 |.pair a b=>by simp[Shp.dat,Dat.st,Dat.sts]
def Mu(s:Vz H p)(h:H a=some (.tup Z)):a≠p:=λe=>by
 obtain⟨_,_,_,_,q⟩:=s;rw[<-e,h]at q;cases q
end L2
namespace K4
open PySem L2
def OO:Yi ["stream","many"] ["stream","many"] (Ye BW):=Y4
def Tt:(Str.ofString "abcdefghijklmnopqrstuvwxyz")=alpha 97:=by decide +kernel
def RF:(Str.ofString "ABCDEFGHIJKLMNOPQRSTUVWXYZ")=alpha 65:=by decide +kernel
section
variable{K:W.Frag}
def Ri:Sp:=λG H Q _=>∃(p:Addr)(many:Nat),G=[.ref p,.int many]/\Vz H p/\many<=8/\
 ∀(r:Addr)(J:kZ)(Z:Hp),SameB p H Z->Vz Z p->H r=none->r≠p->Z r=some (.lst<|J.map V.str)->J.length=many->Wds 97 J->Q (.ref r) Z
def KU(F:Fun K "_law_small" "_law_small" BW f B)(G:Yf P w K J base CX0 n g T ["stream","many","letters","ways"] Wv)(I:Binds K T ["stream","many","letters","ways"] [])(M:W.keepIn K (.ref g)=true)(L:J "_law_words"=some (.ref g)):
  Yf P w K J base CX0 (n+1) f B ["stream","many"] Ri:=by
 refine F.oq OO λD A Z s H S Q E O h=>?_;obtain⟨p,many,rfl,N,R,q⟩:=h;exists _,Yb<|Yn<|JF G O rfl L M I .nil Y1 (pa4 (pv 0) (pv 1) Y0 Yc);refine⟨p,many,97,4,?_,N,.inl Y,by decide,.inr ⟨by decide,R⟩,q⟩;rw[<-Tt];rfl
end
end K4
namespace L2
open PySem
def TK(H H':Hp):Prop:=∀b Z,H b=some (.tup Z)->H' b=some (.tup Z)
def N8(h:H a=some u)(J:∀Z,u≠.tup Z):TK H (upd H a o):=λb Z e=>by
 rw[Yg (Jc e h λz=>J Z z.symm)];exact e
mutual
theorem DU{H Z:Hp}(b:TK H Z):∀(d:Dat){v:V},d.st=true->Has H v d->Has Z v d
 |.str _,_,_,h=>by unfold Has at h |-;exact h
 |.tup ds,_,t,h=>by
  unfold Has at h |-;obtain⟨a,J,M,L,G⟩:=h;unfold Dat.st at t;exact⟨a,J,M,b _ _ L,W5 b ds t G⟩
 |.non,_,t,_=>by unfold Dat.st at t;cases t
 |.bl _,_,t,_=>by unfold Dat.st at t;cases t
 |.int _,_,t,_=>by unfold Dat.st at t;cases t
 |.lst _,_,t,_=>by unfold Dat.st at t;cases t
theorem W5{H L:Hp}(b:TK H L):∀(Z:pE){J:px},Dat.sts Z=true->HasL H J Z->HasL L J Z
 |[],[],_,h=>Z6
 |[],_::_,_,h=>by unfold HasL at h;exact h.elim
 |_::_,[],_,h=>by unfold HasL at h;exact h.elim
 |d::Z,x::J,t,h=>by
  unfold HasL at h;unfold Dat.sts at t;have G:=jY.mp t;exact Z4 (DU b d G.1 h.1)<|W5 b Z G.2 h.2
end
def NQ(k:Str×Shp):Dat:=.tup [.str k.1,k.2.dat]
def KK1(top:Nat)(c d:pG)(ahead:kZ)(y:Str):Shp->Prop
 |.tags ts=>1<=ts.length/\ts.length<=4/\c y=1+ts.length/\d y=0/\ts.Nodup
 |.pair a b=>a∈ahead/\b∈ahead/\c y=1+c a*c b/\c y<=top/\d y=1+max (d a) (d b)/\d y<=2
def KK(top:Nat)(c d:pG)(ks:pF):Prop:=∀(i:Nat)(y:Str)(s:Shp),ks[i]?=some (y,s)->KK1 top c d ((ks.take i).map (·.1)) y s
structure KG(ks:List (Str×Shp)):Prop where
 nm:Wds 97 (ks.map (·.1))
 tg:∃tgs,Wds 65 tgs/\∀(i':Nat)(y:Str)(ts:List Str),ks[i']?=some (y,.tags ts)->∃r,r<4/\ts=(tgs.drop (4*i')).take (1+r)
 pr:∀(i1 i2:Nat)(y1 y2 a b:Str),ks[i1]?=some (y1,.pair a b)->ks[i2]?=some (y2,.pair a b)->i1=i2
def KG.tags(g:KG M)(h:(y,Shp.tags L)∈M):Wds 65 L:=by
 obtain⟨Z,w,q⟩:=g.tg;obtain⟨i,N,e⟩:=vZ.mp h;obtain⟨r,_,rfl⟩:=q i y L (by rw[ZD N,e]);have J:∀z,z∈(Z.drop<|4*i).take (1+r)->z∈Z:=λz G=>jX<|Zk G;exact⟨w.nd.sublist<|(jg _ _).trans<|List.drop_sublist _ _,λz G=>w.len z<|J z G,λz G=>w.abc z<|J z G⟩
def take_snoc{α:Type}{l:List α}{a:α}(h:l[i]?=some a):l.take (i+1)=l.take i++[a]:=by
 have Z:=(ZF.mp h).1;rw[List.take_succ_eq_append_getElem Z,(ZF.mp h).2]
def Lv(h:u D (U.set k<|some v) H):Yk (BF (tC v)<|Vm k) u D U H:=h
def Lj(Z:px)(k:Nat)(h:k<=Z.length):Uo Z none (some (k:Int))=Z.take k:=by
 unfold Uo;rw[HT.sIx_none,HT.sIx_nat,List.drop_zero,Nat.sub_zero,jf h]
def LI(h:Has H x (NQ (y,s))):∃a v,x=.ref a/\H a=some (.tup [.str y,v])/\Has H v s.dat:=by
 unfold NQ Has at h;obtain⟨a,M,rfl,N,Z⟩:=h
 match M,Z with
 |[u,v],Z=>
  unfold HasL at Z;obtain⟨L,J⟩:=Z;unfold HasL at J;unfold Has at L;subst L;exact⟨a,v,Y,N,J.1⟩
 |[],Z=>unfold HasL at Z;exact Z.elim
 |[x],Z=>unfold HasL at Z;obtain⟨_,J⟩:=Z;unfold HasL at J;exact J.elim
 |_::_::_::_,Z=>unfold HasL at Z;obtain⟨_,J⟩:=Z;unfold HasL at J;obtain⟨_,G⟩:=J;unfold HasL at G;exact G.elim
def XC(Z:pC)(L:∀J G,Z J G->u D J G)(main:∀N:pC,(∀J G,Z J G->N J G)->t {D with nx:=N} U H):Yk t u D U H:=main _ L
end L2
namespace K4
open PySem L2
end K4
namespace L2
open PySem
def Vf(ks:pF)(y:Str):Option Shp:=(ks.find? λk=>decide<|k.1=y).map (·.2)
def Y2(ks:pF):Nat->Str->List W
 |0,_=>[]
 |n+1,y=>match Vf ks y with
  |none=>[]
  |some (.tags ts)=>.non::ts.map W.tag
  |some (.pair a b)=>.non::(Y2 ks n a).flatMap λu=>(Y2 ks n b).map λv=>.pair u v
def Xl(h:Vf Z y=some s):(y,s)∈Z:=by
 unfold Vf at h
 cases e:Z.find? λk=>decide (k.1=y)with
 |none=>rw[e]at h;cases h
 |some k=>
  rw[e]at h;have J:k.2=s:=ZT h;have q:=List.find?_some e;have m:=vp e;have z:k.1=y:=Zt q;rw[<-J,<-z];exact m
def UF(h:y∈Z.map (·.1)):∃s,Vf Z y=some s:=by
 obtain⟨k,J,rfl⟩:=ZW.mp h;unfold Vf
 cases e:Z.find? λz=>decide (z.1=k.1)with
 |none=>
  have q:=j9.mp e k J;simp at q
 |some z=>exact⟨z.2,Y⟩
def KK.at(h:KK top c d J)(e:Vf J y=some s):KK1 top c d (J.map (·.1)) y s:=by
 obtain⟨i,M,N⟩:=vZ.mp<|Xl e;have q:=h i y s<|by rw[ZD M,N]
 have Z:∀z,z∈(J.take i).map (·.1)->z∈J.map (·.1):=λz G=>by
  obtain⟨k,L,rfl⟩:=ZW.mp G;exact ZW.mpr ⟨k,Zk L,Y⟩
 cases s with
 |tags O=>exact q
 |pair a b=>exact⟨Z a q.1,Z b q.2.1,q.2.2⟩
theorem Na{α:Type}(f:α->List W)(k:Nat):∀(l:List α),(∀a∈l,(f a).length=k)->(l.flatMap f).length=l.length*k
 |[],_=>by simp
 |a::l,h=>by
  rw[kD,ZL,h a (by simp),Na f k l λb Z=>h b (by simp[Z]),Zf,qx,Nat.add_comm]
theorem X5(h:KK top c d J):∀(n:Nat)(y:Str),y∈J.map (·.1)->d y<n->(Y2 J n y).length=c y/\0<c y/\∀u∈Y2 J n y,u.dep<=d y
 |0,y,_,hd=>Zr hd<|Zw _
 |n+1,y,hy,hd=>by
  obtain⟨s,N⟩:=UF hy;have M:=h.at N;unfold Y2;rw[N]
  cases s with
  |tags L=>
   obtain⟨R,O,U,S,_⟩:=M;refine⟨?_,by omega,λu G=>?_⟩
   .show (W.non::L.map W.tag).length=c y
    rw[Zf,ZA];omega
   .have Z:u=.non\/u∈L.map W.tag:=Zd.mp G
    rcases Z with rfl|Z
    .exact Zc _
    .obtain ⟨x,_,rfl⟩:=ZW.mp Z
     exact Zc _
  |pair a b=>
   obtain⟨R,O,U,S,q,j⟩:=M;have E:=jr (d a)<|d b;have D:=jm (d a)<|d b;obtain⟨A,Q,X⟩:=X5 h n a R (by omega);obtain⟨F,P,C⟩:=X5 h n b O (by omega);refine⟨?_,by omega,λu G=>?_⟩
   .show (W.non::(Y2 J n a).flatMap λu=>(Y2 J n b).map λv=>.pair u v).length=c y
    rw[Zf,Na _ (c b) _ (λa _=>by rw[ZA,F]),A];omega
   .have Z:u=.non\/u∈(Y2 J n a).flatMap λu=>(Y2 J n b).map λv=>.pair u v:=Zd.mp G
    rcases Z with rfl|Z
    .exact Zc _
    .obtain ⟨x,hx,hu2⟩:=List.mem_flatMap.mp Z
     obtain⟨z,I,rfl⟩:=ZW.mp hu2;have B:=X x hx;have T:=C z I;show 1+max x.dep z.dep<=d y;have:=Nat.max_le.mpr ⟨Zb B E,Zb T D⟩;omega
theorem UC(h:KK top c d Z):∀(n m:Nat)(y:Str),y∈Z.map (·.1)->d y<n->d y<m->Y2 Z n y=Y2 Z m y
 |0,_,_,_,h1,_=>Zr h1<|Zw _
 |_+1,0,_,_,_,h2=>Zr h2<|Zw _
 |n+1,m+1,y,hy,h1,h2=>by
  obtain⟨s,J⟩:=UF hy;have M:=h.at J;unfold Y2;rw[J]
  cases s with
  |tags N=>rfl
  |pair a b=>
   obtain⟨L,G,B,T,R,O⟩:=M;have E:=jr (d a)<|d b;have D:=jm (d a)<|d b;show(W.non::_)=(W.non::_);rw[UC h n m a L (by omega) (by omega),UC h n m b G (by omega) (by omega)]
theorem WD:∀{J:kZ}{Z:px},HasL H Z (J.map Dat.str)->Z=J.map V.str
 |[],[],_=>rfl
 |[],_::_,h=>by rw[jh]at h;unfold HasL at h;exact h.elim
 |_::_,[],h=>by rw[ZV]at h;unfold HasL at h;exact h.elim
 |t::J,z::Z,h=>by
  rw[ZV]at h;unfold HasL at h;obtain⟨G,L⟩:=h;unfold Has at G;rw[G,WD L];rfl
def wOf(ks:pF)(n:Nat):Shp->List W
 |.tags ts=>.non::ts.map W.tag
 |.pair a b=>.non::(Y2 ks n a).flatMap λu=>(Y2 ks n b).map λv=>.pair u v
def X6(h:Vf Z y=some s):Y2 Z (n+1) y=wOf Z n s:=by
 conv=>lhs;unfold Y2
 rw[h];cases s <;> rfl
def G5(h:Has H v (Shp.tags M).dat):∃p l,v=.ref p/\H p=some (.tup [.str "tags",.ref l])/\H l=some (.tup<|M.map V.str):=by
 unfold Shp.dat Has at h;obtain⟨p,T,rfl,B,Z⟩:=h
 match T,Z with
 |[u,v],Z=>
  unfold HasL at Z;obtain⟨O,J⟩:=Z;unfold HasL at J;unfold Has at O;subst O;have G:=J.1;unfold Has at G;obtain⟨l,R,rfl,N,L⟩:=G;have e:R=M.map V.str:=WD L;rw[e]at N;exact⟨p,l,Y,B,N⟩
 |[],Z=>unfold HasL at Z;exact Z.elim
 |[x],Z=>unfold HasL at Z;obtain⟨_,J⟩:=Z;unfold HasL at J;exact J.elim
 |_::_::_::_,Z=>unfold HasL at Z;obtain⟨_,J⟩:=Z;unfold HasL at J;obtain⟨_,G⟩:=J;unfold HasL at G;exact G.elim
def G6(h:Has H v (Shp.pair a b).dat):∃p,v=.ref p/\H p=some (.tup [.str "pair",.str a,.str b]):=by
 unfold Shp.dat Has at h;obtain⟨p,N,rfl,O,Z⟩:=h
 match N,Z with
 |[u,v,w],Z=>
  unfold HasL at Z;obtain⟨M,J⟩:=Z;unfold HasL at J;obtain⟨J,G⟩:=J;unfold HasL at G;have G:=G.1;unfold Has at M J G;subst M J G;exact⟨p,Y,O⟩
 |[],Z=>unfold HasL at Z;exact Z.elim
 |[x],Z=>unfold HasL at Z;obtain⟨_,J⟩:=Z;unfold HasL at J;exact J.elim
 |[x,y],Z=>unfold HasL at Z;obtain⟨_,J⟩:=Z;unfold HasL at J;obtain⟨_,G⟩:=J;unfold HasL at G;exact G.elim
 |_::_::_::_::_,Z=>unfold HasL at Z;obtain⟨_,J⟩:=Z;unfold HasL at J;obtain⟨_,G⟩:=J;unfold HasL at G;obtain⟨_,L⟩:=G;unfold HasL at L;exact L.elim
theorem Mx:∀Z:kZ,HasL H (Z.map V.str)<|(Z.map W.tag).map W.dat
 |[]=>Z6
 |t::Z=>Z4 (by show Has H (.str t) (W.dat<|.tag t);unfold W.dat Has;rfl)<|Mx Z
end L2
namespace L2
open PySem PySem.Spec PyProof.Rows
section
def Ux(K:W.Frag):R2:=λx y H Q=>∃a b Z,x=.ref a/\y=.ref b/\SqT K H a []/\SqT K H b Z/\Q (.ref b) H
def Ow:OpR X (binaryOp .Add) (Ux X.K):=by
 intro O s U H x y v u Q I E D h;obtain⟨a,b,m,rfl,rfl,z,j,q⟩:=h;cases E;cases D;obtain⟨P,F,S,_⟩:=I.tuple z;obtain⟨Z,g,A,_⟩:=I.tuple j;cases F;obtain⟨⟨p,t,data,sl⟩,R,B,n,T⟩:=id S;obtain⟨⟨k,N,data2,M⟩,J,L,C,G⟩:=id A;simp only at B T L G;subst B T L G;exact concat_meets ⟨_,R,Y⟩ ⟨_,J,Y⟩ noFill_tuple_add seq_tuple_add qw qm (qk _ _)
  (tuple_addW0 a b _ Z.toArray n C t N sl M rfl) ⟨R,J,.ref b,H,I,rfl,q⟩
def Ud:OpR X (binaryOp .Add) (λx y H Q=>Ux X.K x y H Q\/Uw X.K x y H Q):=Ow.or ET
end
def Jo:plainId "dict.update.loop"=true:=by decide +kernel
def Xx:entryFor table "dict.update.loop"=some Builtin.«dict.update.loop»:=entryFor_of_fast<|by kernel_rfl
def vG{prog:Program}{w:World}(h₀:Heap)(vs:List (Key×Value))(i:Nat)(v:Value):Prop:=
 ∃a k J Z,v=.ref a/\vs[i]?=some (k,Z)/\h₀.IsTuple a #[J,Z]/\(Y7 prog w).is k J=true
def RI(Z:List (Key×Value))(T:(Z.map (·.1)).Nodup)(e:Z[i]?=some (k,u)):stored (Z.take i) k u=Z.take (i+1):=by
 obtain⟨A,F⟩:=ZF.mp e
 have L:(Z.take i).any (λG=>decide<|G.1=k)=false:=by
  rw[kE];intro J;obtain⟨G,B,D⟩:=jV.mp J;have M:G.1=k:=Zt D;obtain⟨j,E,R⟩:=vZ.mp B;rw[ZN]at E;rw[List.getElem_take]at R;have N:j<(Z.map (·.1)).length:=by rw[ZA];omega
  have O:i<(Z.map (·.1)).length:=by rw[ZA];omega
  have q:(Z.map (·.1))[j]=(Z.map (·.1))[i]:=by
   rw[jC,jC,R,F,M]
  exact vV.mp T j i N O (by omega) q
 unfold stored;rw[L,List.take_add_one,e]
 rfl
section
variable{St:Nat->Heap->Prop}
def Pq(W:Walks prog w A.in1 I fp wr n P St)(E:vs.length=n)(hsz:vs.length<=sizeLine)(hn:(vs.map (·.1)).Nodup)(hP:∀i v,P i v->vG (prog:=prog) (w:=w) h₀ vs i v)(d:Addr)(U:d∉fp)(hw:∀b o,h₀.get? b=some o->b∉wr/\b≠d)(O:Value):
  ∀(k i:Nat)(s:Shared)(j:Int)(t:Tok),n-i=k->i<=n->St i s.heap->s.heap.DictOf (Y7 prog w) d (vs.take i)->(∀b o,h₀.get? b=some o->s.heap.get? b=some o)->
  (∀J N,J.DictOf (Y7 prog w) d vs->(∀b o,b∉wr->b≠d->s.heap.get? b=some o->J.get? b=some o)->R (.ok<|.ret O) {s with heap:=J,toks:=N})->
  codeAny (model prog w) A (.builtin "dict.update.loop" ⟨[.ref d,.ref I,.int j t,O],[]⟩) R s:=by
 have S:d∉wr:=λh=>U<|W.sub _ h;intro k
 induction k with
 |zero=>
  intro i s j t hk hi G y h0 l;have f:i=n:=by omega
  subst f;refine jQ Xx ?_;rw[Around.under_plainId Jo _];refine Zl (m:=pyNext<|.ref I)<|W.done s _ _ G λJ N Z=>Zl<|Zm<|Zm ?_;refine l J N ?_ λb o M _ e=>Z b o M e;rw[<-E,qt]at y;obtain⟨o,es,ep,p,rest⟩:=y;exact⟨o,es,ep,Z d o S p,rest⟩
 |succ k ih=>
  intro i s j t hk hi G y h0 l;have D:i<n:=by omega
  refine jQ Xx ?_;rw[Around.under_plainId Jo _];refine Zl (m:=pyNext<|.ref I)<|W.item i s _ _ D G λv J N x T Z=>?_;obtain⟨a,J2,ku,vu,rfl,ev,ht,F⟩:=hP i v x;have Q:∀b o,h₀.get? b=some o->J.get? b=some o:=λb o e=>Z b o (hw b o e).1<|h0 b o e;obtain⟨o,p,hc,m,hdat⟩:=ht;have B:=Q a o p;have hT:({s with heap:=J,toks:=N}:Shared).TypeIs (.ref a) "tuple":=⟨o,B,hc⟩;refine Zl<|wpAny_holding<|Zl<|wpAny_tryCatch ?_;simp only[Builtin.Dict.pairItems];refine Zl (m:=typeOf<|.ref a)<|qQ hT ?_;rw[Zp (by decide)];refine Zl<|vN B hdat<|Zm ?_;show wpAny _ A.in1 (holding [ku,vu]<|dictSet d ku vu) _ _ _
  have r:Heap.DictOf (Y7 prog w) J d (vs.take i):=by
   obtain⟨o1,es,ep,g,rest⟩:=y;exact⟨o1,es,ep,Z d o1 S g,rest⟩
  refine wpAny_holding<|kS (hsz:=by rw[ZN];omega) F r λh2 C L=>?_;rw[RI vs hn ev]at C;refine Zm ⟨plainId_quiet Jo _,ih (i+1) _ (j+1) 0 (by omega) D (W.frame _ _ _ T λb M o e=>?_) C (λb o e=>?_) λh3 q u c=>?_⟩
  .exact (L.2 b λz=>U<|z ▸ M).trans e
  .exact (L.2 b (hw b o e).2).trans (Q b o e)
  .refine l h3 q u λb o M X e=>c b o M X<|(L.2 b X).trans<|Z b o M e
end
section
def L1(K:W.Frag)(H:Hp)(ts:pf)(kvs:pj):Prop:=ts.length=kvs.length/\∀(i:Nat)(a:Addr)(k:Key)(y:V),ts[i]?=some a->kvs[i]?=some (k,y)->SqT K H a [kV k,y]
theorem NB(h:Heap):∀(L:pf)(Z:pj),L.length=Z.length->(∀(i:Nat)(a:Addr)(k:Key)(y:V),L[i]?=some a->Z[i]?=some (k,y)->∃G J,h.IsTuple a #[G,J]/\RelV (kV k) G/\RelV y J)->
  ∃M,KV Z M/\∀(i:Nat)(a:Addr),L[i]?=some a->∃k G J,M[i]?=some (k,J)/\h.IsTuple a #[G,J]/\RelV (kV k) G
 |[],[],_,_=>⟨[],.nil,λi a e=>by simp at e⟩
 |[],_::_,e,_=>by simp at e
 |_::_,[],e,_=>by simp at e
 |t::L,kv::Z,e,hp=>by
  obtain⟨G,J,D,B,T⟩:=hp 0 t kv.1 kv.2 rfl rfl;obtain⟨M,r,R⟩:=NB h L Z (by simpa using e) λi a k y F E=>hp (i+1) a k y F E;refine⟨(kv.1,J)::M,.cons ⟨Y,T⟩ r,λi a O=>?_⟩
  cases i with
  |zero=>
   have N:some t=some a:=O;cases N;exact⟨kv.1,G,J,Y,D,B⟩
  |succ i=>exact R i a O
end
end L2
namespace L2
open PySem
def SameB.same(a:SameB p H Z)(f:H p=none):Same H Z:=λb o e=>a b o (Ya e f) e
def KK.small(h:KK 30 c d G)(L:y∈G.map (·.1)):d y<=2/\c y<=30:=by
 obtain⟨s,M⟩:=UF L;have Z:=h.at M
 cases s with
 |tags B=>obtain⟨T,R,O,J⟩:=Z;omega
 |pair a b=>obtain⟨T,R,O,J,D,N⟩:=Z;exact⟨N,J⟩
end L2
namespace L2
open PySem PySem.Spec PyProof.Rows
section
def Pk{i:Nat}{Q:kW}(k:IsEnum s.heap e Z i old)(z:SI tp s.heap Z l i xs)(nl:l≠Z)(hx:xs[i]?=some x)(G:e≠Z)(hQ:∀g,IsEnumOut g e Z ((i:Int)+1) x s.heap.objs.size->SJ tp g Z l (i+1)->g.get? s.heap.objs.size=some {cls:=.type "tuple",data:=.seq #[.int i s.toks,x]}->g.objs.size=s.heap.objs.size+1->
   (∀b o,b≠e->b≠Z->s.heap.get? b=some o->g.get? b=some o)->Q (.ref s.heap.objs.size) {s with heap:=g,toks:=s.toks+1}):
  wpAny (model prog w) A (Builtin.«enumerate.__next__» ⟨[.ref e],[]⟩) (λu s'=>∃v,u=.done (.ret v)/\Q v s') E s:=by
 obtain⟨J,g,d,T,os⟩:=s;refine Zl (m:=field (.ref e) 2)<|Zo k rfl (x:=.ref Z) rfl ?_;refine Zl<|XB z nl hx λC z1 O=>?_;replace O:Heap.SameBut Z J C:=O;have y:IsEnum C e Z i old:=(O.2 e G).trans k;refine Zl (m:=field (.ref e) 3)<|Zo y rfl (x:=rawInt i) rfl ?_;refine Zl (m:=field (.ref e) 4)<|Zo y rfl (x:=.none) rfl ?_;refine Zl (m:=mkInt i)<|wpAny_mkInt ?_;refine Zl (m:=setField (.ref e) 3<|rawInt<|(i:Int)+1)<|vf y (by simp) λU j N=>?_;replace N:Heap.SameBut e C U:=N;replace j:IsEnum U e Z ((i:Int)+1) old:=j;refine Zl (m:=setField (.ref e) 4 .none)<|vf j (by simp) λR P M=>?_;replace M:Heap.SameBut e U R:=M;replace P:IsEnum R e Z ((i:Int)+1) old:=P;refine Zl (m:=newTuple [.int i T,x])<|kB ?_;have X:IsEnum (R.push {cls:=.type "tuple",data:=.seq #[.int i T,x]}) e Z ((i:Int)+1) old:=ZE _ P;generalize q4:R.push {cls:=.type "tuple",data:=.seq #[.int i T,x]}=g4 at X;have B:R.objs.size=J.objs.size:=by rw[M.1,N.1,O.1]
 have el:e<J.objs.size:=ZP k;have t4:g4.get? J.objs.size=some {cls:=.type "tuple",data:=.seq #[.int i T,x]}:=by rw[<-q4,<-B];exact ZY _ Y
 have z4:g4.objs.size=J.objs.size+1:=by rw[<-q4,vK,B]
 have k4:∀b o,b≠e->b≠Z->J.get? b=some o->g4.get? b=some o:=λb o L a p=>by
  rw[<-q4];exact ZE _<|M.extBut b o L<|N.extBut b o L<|O.extBut b o a p
 have j4:SJ tp g4 Z l (i+1):=by
  rw[<-q4];exact z1.sj.to λo ho=>ZE _<|M.extBut _ o (Zs G)<|N.extBut _ o (Zs G) ho
 show wpAny _ _ (Builtin.SmallTypes.ownedTupleIsFree (.ref e) >>=_) _ _ ⟨g4,g,d,T+1,os⟩;rw[B];clear q4 P M j N y O z1 B R U C;refine Zl (m:=Builtin.SmallTypes.ownedTupleIsFree<|.ref e)<|Zl (m:=field (.ref e) 0)<|Zo X rfl (x:=.none) rfl (Zm ?_);simp only[if_true];refine Zl (jD<|Zl<|Zo X rfl (x:=old) rfl (Zl<|vf X (by simp) λf n I=>?_));replace I:Heap.SameBut e g4 f:=I;replace n:IsEnum f e Z ((i:Int)+1) x:=n;refine Zl (m:=Builtin.SmallTypes.ownedTupleHandOut (.ref e)<|.ref J.objs.size) ?_;simp only[Builtin.SmallTypes.ownedTupleHandOut];refine Zl<|vf n (by simp) λc h F=>?_;replace F:Heap.SameBut e f c:=F;replace h:IsEnumOut c e Z ((i:Int)+1) x J.objs.size:=h;refine vf h (by simp) λS r D=>?_;replace D:Heap.SameBut e c S:=D;replace r:IsEnumOut S e Z ((i:Int)+1) x J.objs.size:=r;have t:∀b o,b≠e->g4.get? b=some o->S.get? b=some o:=λb o L q=>D.extBut b o L<|F.extBut b o L<|I.extBut b o L q;refine Zl<|kz<|Zm ⟨_,rfl,hQ S r (j4.to λo q=>t _ o (Zs G) q) (t _ _ (vM el) t4) (by rw[D.1,F.1,I.1,z4]) λb o L a p=>t b o L<|k4 b o L a p⟩
def PK{i:Nat}(G:IsEnum s.heap e Z i old)(z:SI N s.heap Z l i M)(O:l≠Z)(R:M[i]?=some x)(J:e≠Z)(T:∀g,IsEnumOut g e Z ((i:Int)+1) x s.heap.objs.size->SJ N g Z l (i+1)->g.get? s.heap.objs.size=some {cls:=.type "tuple",data:=.seq #[.int i s.toks,x]}->g.objs.size=s.heap.objs.size+1->
   (∀b o,b≠e->b≠Z->s.heap.get? b=some o->g.get? b=some o)->Q (some<|.ref s.heap.objs.size) {s with heap:=g,toks:=s.toks+1}):wpAny (model prog w) A (pyNext<|.ref e) Q E s:=by
 have L:s.TypeIs (.ref e) "enumerate":=⟨_,G,rfl⟩;simp only[pyNext];exact Zl (jy (wpAny_callSpecial?_slot (name:=Str.ofString "__next__") L vQ (vo vQ L jZ
   (Pk G z O R J λg a b c d k=>Zm<|T g a b c d k) (jU _))))
def Ad{i:Nat}(O:A.handled=none)(J:IsEnum s.heap e Z i old)(z:SI F s.heap Z l i L)(M:L[i]?=none)(B:∀g,Heap.ExtBut Z s.heap g->Q none {s with heap:=g}):wpAny (model prog w) A (pyNext<|.ref e) Q E s:=by
 have G:s.TypeIs (.ref e) "enumerate":=⟨_,J,rfl⟩;simp only[pyNext];refine Zl<|jy<|wpAny_callSpecial?_slot (name:=Str.ofString "__next__") G vQ<|vo vQ G jZ ?_<|jU _;refine Zl (m:=field (.ref e) 2)<|Zo J rfl (x:=.ref Z) rfl (Zl<|Rv O z M λg y D ⟨o,N,R⟩=>?_);exact Zl<|jI (T:="StopIteration") (b:=true) ⟨o,N,R⟩ kC<|Zm<|B _ D
set_option tactic.hygienic true in
def Fa(J:Bool)(l:Addr)(N:pi):Meets (Builtin.«enumerate.__new__» ⟨[.type "enumerate",.ref l],[]⟩) (λ_ R s=>Wk J s.heap l N/\
   R (.ok<|.ret<|.ref (s.heap.push<|Jd J l).objs.size) {s with heap:=(s.heap.push<|Jd J l).push {cls:=.type "enumerate",data:=.fields #[.none,.bool false,.ref s.heap.objs.size,rawInt 0,.none,.none]}}):=
 .of_wp λO w A R s h=>by
  obtain⟨D,g,d,F,I⟩:=s;obtain⟨L,h⟩:=h;have B:=sub_enumerate;have T:Wk J (Shared.heap ⟨D,g,d,F,I⟩) l N:=L
  obtain⟨G,Z,S⟩:∃G,D.get? l=some G/\(∃E n,G.data=.seq E n):=by
   cases J with
   |false=>obtain⟨o,e,_,n,M⟩:=L;exact⟨o,e,_,n,M⟩
   |true=>obtain⟨o,e,_,n,M⟩:=L;exact⟨o,e,_,n,M⟩
  wp_walk using AutoSeq1.wpAny_loadPart' Z
  refine wpAny_stack_any λU=>Zm ?_
  split
  .rename_i c _ _ _ _ _
   cases(c==Value.type "enumerate") <;> (wp_walk using AutoSeq1.wpAny_loadPart' Z,Wu T;exact⟨_,Y,h⟩)
  .wp_walk using AutoSeq1.wpAny_loadPart' Z,Wu T
   exact⟨_,Y,h⟩
def Pz(N:Wk Z s.heap l L)(h:∀g,IsEnum g (s.heap.objs.size+1) s.heap.objs.size 0 .none->SJ Z g s.heap.objs.size l 0->(∀c o,s.heap.get? c=some o->g.get? c=some o)->Q (.ref<|s.heap.objs.size+1) {s with heap:=g}):
  wpAny (model prog w) A (call (.type "enumerate") [.ref l]) Q E s:=by
 refine callType_new F.called_enumerate (by decide) (F.typeCall_enumerate_1 _) (F.newCall_enumerate_1 _) (λG=>F.args_object_init_2 G _) F.entry_enumerate_new (Fa Z l L) ⟨N,?_⟩;have O:(s.heap.push<|Jd Z l).objs.size=s.heap.objs.size+1:=vK ..;have J:((s.heap.push<|Jd Z l).push {cls:=.type "enumerate",data:=.fields #[.none,.bool false,.ref s.heap.objs.size,rawInt 0,.none,.none]}).get? (s.heap.push<|Jd Z l).objs.size=some _:=ZY _ rfl;have M:SJ Z ((s.heap.push<|Jd Z l).push {cls:=.type "enumerate",data:=.fields #[.none,.bool false,.ref s.heap.objs.size,rawInt 0,.none,.none]}) s.heap.objs.size l 0:=(SJ.new Z s.heap l).to λo q=>ZE _ q;show _/\_;rw[O]at J |-;exact⟨⟨_,J,Y⟩,h _ J M λc o q=>ZE _<|ZE _ q⟩
end
structure ER(h:Heap)(e it:Addr)(tp:Bool)(l:Addr)(k:Nat):Prop where
 enu:∃old,IsEnum h e it k old
 one:SJ tp h it l k
def Ite(K:W.Frag)(tp:Bool)(l:Addr):It:=
 ⟨λi H=>∃Z x,Sq K tp H l Z/\Z[i]?=some x,λi H v J=>∃r x,v=.ref r/\H r=none/\J=upd H r (.tup [.int (i:Nat),x])/\∀Z,Sq K tp H l Z->Z[i]?=some x,λi H=>∃Z,Sq K tp H l Z/\Z.length<=i⟩
def OB{P:Program}{w:World}{K:W.Frag}{R:pI}{x1}{j:Pos}{e L l:Addr}{tp:Bool}(n1:e≠L)(n2:l≠L):Turn P w K (.Tuple R x1 j) (Ite K tp l) [e,L] e (λi h=>ER h e L tp l i) where
 mem:=by simp
 obj:=λi h J b Z=>by
  have q:b=e\/b=L:=by simpa using Z
  rcases q with q|q <;> rw[q]
  .obtain ⟨M,O⟩:=J.enu
   exact⟨_,O,λv e=>nomatch e⟩
  .exact J.one.obj
 keep:=λi h h' J k=>⟨let⟨M,O⟩:=J.enu;⟨M,k e (by simp) _ O⟩,J.one.to λo q=>k L (by simp) o q⟩
 item:=by
  intro X n d a hc i G s U H E I N J r;subst n d a;obtain⟨xs,x,B,hx⟩:=r;obtain⟨c,Q,F⟩:=I.sq B;obtain⟨A,f,C⟩:=Q.get hx;obtain⟨M,D⟩:=J.enu;have T:e<s.heap.objs.size:=ZP D;refine PK D (J.one.si F) n2 (x:=A) (by simpa using f) n1 λg ho hj ht sz p=>?_;have m:∀b o,b ∉ [e,L]->s.heap.get? b=some o->g.get? b=some o:=λb o Z q=>p b o (λz=>Z<|by simp[z]) (λz=>Z<|by simp[z]) q;have I1:Inv X G U H {s with heap:=g,toks:=s.toks+1}:=I.turnedL (t':=s.toks+1) m N;have u:H s.heap.objs.size=none:=I.hok.fresh<|ZG _;exists _,Y;refine wpAny_letOwnedTupleGo_enum (s:={s with heap:=g,toks:=s.toks+1}) ho λg2 e2 S=>?_
  have I2:Inv X G U H {s with heap:=g2,toks:=s.toks+1}:=I1.turnedL (s:={s with heap:=g,toks:=s.toks+1}) (t':=s.toks+1) (ch:=[e]) (λb o Z q=>S.extBut b o (λz=>Z<|by simp[z]) q) λb Z=>by
   have q:b=e:=by simpa using Z
   rw[q];exact N e<|by simp
  have y:g2.get? s.heap.objs.size=some {cls:=.type "tuple",data:=.seq #[.int i s.toks,A]}:=S.extBut _ _ (vM T) ht;have I3:Inv X G U (upd H s.heap.objs.size<|.tup [.int (i:Nat),x]) {s with heap:=g2,toks:=s.toks+1}:=I2.retrack u (I.fpOk (ZG _) u) ⟨sl 2,[.int i s.toks,A],.cons ⟨_,rfl⟩<|.cons C .nil,⟨_,y,rfl,rfl,_,rfl⟩⟩
  have t:∀b∈ [e,L],b<s.heap.objs.size:=λb Z=>by
   have q:b=e\/b=L:=by simpa using Z
   rcases q with q|q <;> rw[q]
   .exact T
   .obtain ⟨o,q,_⟩:=J.one.obj
    exact ZP q
  refine⟨.ref s.heap.objs.size,_,I3,Y,⟨_,x,Y,u,Y,λzs h=>by rw[I.sq_inj h B];exact hx⟩,?_,λb Z=>?_⟩
  .exact ⟨⟨_,e2⟩,hj.to λo q=>S.extBut _ o (Zs n1) q⟩
  .rw [Yg (Ze<|t b Z)]
   exact(N b Z).1
 done:=by
  intro X n d a hc i G s U H E I N J r;subst n d a;obtain⟨xs,B,J2⟩:=r;obtain⟨c,Q,F⟩:=I.sq B;have e1:=Q.length;obtain⟨M,D⟩:=J.enu;refine Ad (I.ok.hd hc) D (J.one.si F) (by simp;omega) λg p=>⟨Y,?_⟩
  exact I.turnedL (t':=s.toks) (ch:=[L]) (λb o Z q=>p b o (λz=>Z<|by simp[z]) q) λb Z=>N b (by
   have q:b=L:=by simpa using Z
   rw[q];simp)
 self:=λ_ _ _ _ _ J h=>let⟨_,O⟩:=J.enu;qF O h
def Tc:bootBuiltins "enumerate"=some (.type "enumerate"):=by decide +kernel
def zI(K:W.Frag)(ta:TA):TI:=λU H R=>ta U H λL J=>∃a Z G,L=[.ref a]/\Sq K Z J a G/\R (Ite K Z a) J
def W0(j:Gl X "enumerate")(P:X.mg "enumerate"=none)(t:PA X [a] ta)(C:starEach [a] X.env=[(false,eval a X.env)]:=by rfl):PI X (.Tuple elts x1 tpos) (.Call (.Name "enumerate" p) [a] [] pos) (zI X.K ta):=by
 intro J s U H R I h;refine Call_ (J6 I j P Tc<|vq (thn (t pos J s U H _ I h) λd Z ⟨c,T,L,E,M⟩=>?_) (by rw[C];rfl)<|by rfl);obtain⟨l,f,k,e,M,q⟩:=M;subst e;obtain⟨u,rfl,B⟩:=vals1 E;cases B;obtain⟨S,D,N⟩:=L.sq M;have F:=N.lt;refine Pz N λg O Q A=>?_;refine qF (s:={Z with heap:=g}) O ?_;have m:Inv X J U T {Z with heap:=g}:=L.kept (t':=Z.toks) A;refine⟨_,[Z.heap.objs.size+1,Z.heap.objs.size],_,_,T,Y,m,OB (Nat.succ_ne_self _)<|Ze F,⟨⟨_,O⟩,Q⟩,λb y=>?_,q⟩
 have G:Z.heap.objs.size<=b:=by
  have z:b=Z.heap.objs.size+1\/b=Z.heap.objs.size:=by simpa using y
  rcases z with z|z <;> rw[z] <;> first|exact ZG _|exact vR _ _
 exact L.fpOk G<|L.hok.fresh G
end L2
namespace L2
open PySem PySem.Spec PyProof.Rows PySem.W PySem.Calls
end L2
namespace L2
open PySem PySem.Spec PyProof.Rows PySem.MeetsSeq
section
def Dq:UA X (.type "dict") (λL H Q=>∃a Z,L=[.ref a]/\H a=some (.dK Z)/\∀l,H l=none->Q (.ref l) (upd H l<|.dK Z)):=by
 intro N s U H L A Q I r h;obtain⟨a,Z,rfl,E,q⟩:=h;obtain⟨u,rfl,T⟩:=vals1 r;cases T;obtain⟨O,B,F,M,D⟩:=Nc I.hok E;have J:=M.length;refine kt_call_dict (knd:=Y7 X.prog X.w) B D (by rw[<-J];exact O) λS G R=>?_;refine⟨.ref s.heap.objs.size,_,I.laid (a:=s.heap.objs.size) (o:=.dK Z) (λb o e=>?_) (ZG _)<|Xf O (beq_eq_false_iff_ne.mpr<|Zs<|Ze I.big) M G,rfl,q _<|I.hok.fresh<|ZG _⟩;exact(R.2 b<|Ze<|ZP e).trans<|ZE _ e
end
end L2
namespace L2
open PySem PySem.Spec PyProof.Rows
def Its(x:Str):It:=⟨λi _=>i<x.cps.size,λi H v Z=>Z=H/\∃c,x.cps[i]?=some c/\v=.str ⟨#[c]⟩,λi _=>x.cps.size<=i⟩
def SIt(it:Addr)(x:Str)(i:Nat)(h:Heap):Prop:=∃ty t,(ty="str_ascii_iterator" \/ ty="str_iterator")/\h.IsStrIter it ty x t i
def LL(h:Q () s):wpAny M A (letOwnedTupleGo tg Z<|.str y t) Q E s:=by
 unfold letOwnedTupleGo;cases tg <;> cases Z <;> exact Zm h
def Fz{P:Program}{w:World}{K:W.Frag}{tg:Expr}(J:Addr)(x:Str):Turn P w K tg (Its x) [J] J (SIt J x) where
 mem:=by simp
 obj:=λi h ⟨ty,t,_,o,d,_,hd⟩ b N=>by
  cases ZQ.mp N;exact⟨o,d,λv z=>by rw[hd]at z;cases z⟩
 keep:=λi h M ⟨ty,t,Z,o,d,r⟩ k=>⟨ty,t,Z,o,k J (by simp) o d,r⟩
 item:=by
  intro X f p l F i R s U H E I C ⟨ty,t,Z,O⟩ S;subst f p l;obtain⟨g,m,_,q,j,Q⟩:=C J (by simp);have A:∀(v:Value)(M:Heap)(T:Nat),SignAt x i v->SIt J x (i+1) M->(∀b o,b ∉ [J]->s.heap.get? b=some o->M.get? b=some o)->
    (∃u,some v=some u/\wpAny (model X.prog X.w) X.A (letOwnedTupleGo tg (.ref J) u) (λ_ s2=>∃y a,Inv X R U a s2/\RelV y u/\(Its x).yld i H y a/\SIt J x (i+1) s2.heap/\∀b∈ [J],a b=none) E {s with heap:=M,toks:=T}):=λv M T D G B=>by
   obtain⟨c,u,hx,rfl⟩:=D;exact⟨_,Y,LL ⟨.str ⟨#[c]⟩,H,I.turned (λb o N e=>B b o (by simpa using N) e) g m q j Q,⟨_,Y⟩,⟨Y,c,hx,Y⟩,G,λb N=>(C b N).1⟩⟩
  rcases Z with rfl|rfl
  .exact (Walks.strAscii (I.ok.hd F) J x t).item i s _ _ S O λv M T D G B=>A v M T D ⟨_,t,.inl rfl,G⟩ B
  .exact (Walks.strWide (I.ok.hd F) J x t).item i s _ _ S O λv M T D G B=>A v M T D ⟨_,t,.inr rfl,G⟩ B
 done:=by
  intro X f p l F i R s U H E I C ⟨ty,t,Z,O⟩ S;subst f p l;obtain⟨g,m,_,q,j,Q⟩:=C J<|by simp
  have L:x.cps[i]?=none:=by
   have z:x.cps.size<=i:=S;simp[z]
  rcases Z with rfl|rfl
  .exact wpAny_pyNext_ascii_end (I.ok.hd F) O L λM n=>⟨rfl,I.turned (t':=s.toks) (λb o N e=>n b o N e) g m q j Q⟩
  .exact wpAny_pyNext_wide_end (I.ok.hd F) O L λM n=>⟨rfl,I.turned (t':=s.toks) (λb o N e=>n b o N e) g m q j Q⟩
 self:=λ_ _ _ _ _ ⟨ty,t,Z,O⟩ h=>by
  rcases Z with rfl|rfl
  .exact wpAny_pyIter_striter_ascii O h
  .exact wpAny_pyIter_striter_wide O h
section
def yk(tl:TE):TI:=λU H R=>tl U H λv Z=>∃x,v=.str x/\R (Its x) Z
def Sh(O:PE X l tl):PI X tg l (yk tl):=by
 intro Z s U H R I h;refine thn (O Z s U H _ I h) λv J ⟨y,M,L,N,x,e,q⟩=>?_;subst e;obtain⟨t,rfl⟩:=N
 have B:∀b∈ [J.heap.objs.size],Jj X Z M b:=λb T=>by
  cases ZQ.mp T;exact L.fpOk (ZG _)<|L.hok.fresh<|ZG _
 have go:∀(ty:String),(ty="str_ascii_iterator" \/ ty="str_iterator")->PIE X Z U tg R (.ref J.heap.objs.size) {J with heap:=J.heap.push {cls:=.type ty,data:=.fields #[.str x t,.int 0 0]}}:=λty G=>
  ⟨_,[J.heap.objs.size],_,_,M,rfl,L.kept (t':=J.toks) λb o e=>ZE _ e,Fz _ x,⟨ty,t,G,_,ZY _ rfl,rfl,rfl⟩,B,q⟩
 cases ha:x.cps.all (λc=>c<128)
 .exact wpAny_pyIter_wide ha (go _<|.inr rfl)
 .exact wpAny_pyIter_ascii ha (go _<|.inl rfl)
end
def VQ.dk_ex(x:VQ P w H h d (.dK Z)):∃u,h.get? d=some u:=let⟨_,_,_,_,o,_,_,e,_⟩:=x;⟨o,e⟩
def epO(o:Obj):Nat:=match o.data with|.dict _ ep=>ep|_=>0
section
def Inv.freeze(I:Inv X G U H s)(M:H d=some (.dK Z))(R:s.heap.get? d=some o):Inv X G U (upd H d<|.frz o<|.dK Z) s:=by
 have L:∀b u,H b=some u->(∀l,u≠.dK l)->b≠d:=λb u e n z=>by subst z;rw[M]at e;cases e;exact n Z Y
 have O:∀b,H b=none->b≠d:=λb e z=>by subst z;rw[M]at e;cases e
 have J:=I.un (H':=upd H d<|.frz o<|.dK Z) (h':=s.heap) (t':=s.toks)
  ⟨λb u q _ _ _=>q,λb u q _ _ _=>⟨u.slots,q⟩,λb u q n _=>by rw[Yg (O b n)];exact n,λb u q _=>⟨u,q⟩,λb N q=>by rw[Yg (L b _ q (λl=>by intro z;cases z))];exact q,
   λb u v q=>by rw[Yg (L b _ q (λl=>by intro z;cases z))];exact q,λb T q=>⟨#[],by rw[Yg (L b _ q (λl=>by intro z;cases z)),q];simp⟩⟩ ?_
 .exact J
 .intro a u e
  by_cases z:a=d
  .subst z
   rw[Yh]at e;cases e;exact⟨R,I.hok a _ M⟩
  .rw [Yg z]at e
   exact(I.hok a u e).stay (λb v _ q=>q) (λb q=>by rw[Yg (L b _ q (λl=>by intro z;cases z))];exact q) λb N q=>by rw[Yg (L b _ q (λl=>by intro z;cases z))];exact q
end
def Itd(d:Addr)(o:Obj)(kvs:pj):It:=
 ⟨λi H=>H d=some (.frz o<|.dK kvs)/\i<kvs.length,λi H x J=>J=H/\∃Z,kvs[i]?=some Z/\x=kV Z.1,λi H=>H d=some (.frz o<|.dK kvs)/\kvs.length=i⟩
def ML(h:JH k v=true):RelV (kV k) v:=by
 rcases VO h with⟨i,t,rfl,rfl⟩|⟨x,t,rfl,rfl⟩
 .exact ⟨t,rfl⟩
 .exact ⟨t,rfl⟩
def AX(J:JH k v=true)(h:Q () s):wpAny M A (letOwnedTupleGo tg Z v) Q E s:=by
 rcases VO J with⟨i,t,rfl,rfl⟩|⟨x,t,rfl,rfl⟩
 .unfold letOwnedTupleGo
  cases tg <;> cases Z <;> exact Zm h
 .exact LL h
section
def Inv.dict_at(I:Inv X M U H s)(D:H d=some (.frz o<|.dK Z)):∃G,s.heap.DictAt (Y7 X.prog X.w) d G (epO o)/\KV Z G/\(d==sysModules)=false:=by
 obtain⟨N,_,B,G,O,A,E,F,J,T,L,R⟩:=(show VQ X.prog X.w H s.heap d (.frz o<|.dK Z)from I.hok d _ D);rw[N]at J;cases J;have e:epO o=F:=by unfold epO;rw[L]
 exact⟨G,⟨o,E,N,T,by rw[e];exact L,R⟩,O,B⟩
end
def WZ{Z:List (κ×V)}{J:List (κ×Value)}(r:KV Z J):Z.length=J.length:=Paired.length r
theorem DI:∀{Z:List (κ×V)}{J:List (κ×Value)}(i:Nat)(k:κ)(u:Value),KV Z J->J[i]?=some (k,u)->∃v,Z[i]?=some (k,v)
 |_,_,i,k,u,.nil,e=>by simp at e
 |_,_,0,k,u,.cons (a:=p) (b:=q) r _,e=>by
  have L:some q=some (k,u):=e;cases L;obtain⟨G,v⟩:=p;have z:G=k:=r.1;subst z;exact⟨v,Y⟩
 |_,_,i+1,k,u,.cons _ t,e=>DI i k u t e
def E3{P:Program}{w:World}{K:W.Frag}{x:Expr}(N d:Addr)(o:Obj)(Z:pj):Turn P w K x (Itd d o Z) [N] N (λi h=>h.IsKeyIter N d i Z.length<|epO o) where
 mem:=by simp
 obj:=λi h ⟨F,j,_,hd⟩ b L=>by
  cases ZQ.mp L;exact⟨F,j,λv z=>by rw[hd]at z;cases z⟩
 keep:=λi h a ⟨F,j,r⟩ k=>⟨F,k N (by simp) F j,r⟩
 item:=by
  intro X q Q t n i T s U H E I S G B;subst q Q t;obtain⟨f,c,_,p,g,m⟩:=S N (by simp);obtain⟨O,M,D,_⟩:=I.dict_at B.1;have A:=WZ D;rw[A]at G;have l:i<O.length:=by have z:i<Z.length:=B.2;omega
  have u:O[i]?=some (O[i].1,O[i].2):=ZD l;obtain⟨v',y⟩:=DI i _ _ D u;refine wpAny_pyNext_dict_item G M u λC a J R sb=>?_;rw[<-A]at R;exact⟨C,Y,AX J ⟨_,H,I.turned (t':=s.toks) (λb o L e=>(sb.2 b L).trans e) f c p g m,ML J,⟨Y,_,y,Y⟩,R,λb L=>(S b L).1⟩⟩
 done:=by
  intro X q Q t n i T s U H E I S G B;subst q Q t;obtain⟨f,c,_,p,g,m⟩:=S N (by simp);obtain⟨O,M,D,_⟩:=I.dict_at B.1;have A:=WZ D;rw[A]at G;have l:Z.length=i:=B.2;exact wpAny_pyNext_dict_end (I.ok.hd n) G M (vW.mpr<|by omega) λa eb=>⟨rfl,I.turned (t':=s.toks) (λb o L e=>eb b o L e) f c p g m⟩
 self:=λ_ _ _ _ _ G h=>wpAny_pyIter_keyiter G h
section
def zJ(tl:TE):TI:=λU H R=>tl U H λv J=>∃d Z,v=.ref d/\J d=some (.dK Z)/\∀o,R (Itd d o Z)<|upd J d<|.frz o<|.dK Z
def Oj(F:PE X l tl):PI X tg l (zJ tl):=by
 intro Z s U H R I h;refine thn (F Z s U H _ I h) λv L ⟨y,S,O,B,d,G,e,N,q⟩=>?_;subst e;cases B;obtain⟨o,D⟩:=(show VQ X.prog X.w S L.heap d (.dK G)from O.hok d _ N).dk_ex;have J:=O.freeze N D;obtain⟨C,M,T,E⟩:=J.dict_at Yh;refine wpAny_pyIter_dict E M ?_;rw[<-WZ T];refine⟨_,[L.heap.objs.size],_,_,_,Y,J.kept (t':=L.toks) λb o e=>ZE _ e,E3 _ d o G,⟨_,ZY _ Y,Y,Y⟩,λb A=>?_,q o⟩;cases ZQ.mp A;exact J.fpOk (ZG _)<|J.hok.fresh<|ZG _
def JV{Z:Stmt}:PS X Z (λ_ _ _=>False):=λ_ _ _ _ _ _ h=>h.elim
end
end L2
namespace L2
open PySem
inductive Bd where
 |tag (t:Str)|name (x:Str)|pair (a b:Bd)|one (e:Bd)|other (e:Bd)
 |choose (e:Bd) (ts:List Str) (bs:List Bd)|ask (f:Str) (as:List Bd)|letb (x k:Str) (e b:Bd)
mutual
def Bd.dat:Bd->Dat
 |.tag t=>.tup [.str "tag",.str t]
 |.name x=>.tup [.str "name",.str x]
 |.pair a b=>.tup [.str "pair",a.dat,b.dat]
 |.one e=>.tup [.str "one",e.dat]
 |.other e=>.tup [.str "other",e.dat]
 |.choose e ts bs=>.tup [.str "choose",e.dat,.tup (Bd.brs bs ts)]
 |.ask f as=>.tup [.str "ask",.str f,.tup (Bd.dats as)]
 |.letb x k e b=>.tup [.str "let",.str x,.str k,e.dat,b.dat]
def Bd.dats:List Bd->List Dat
 |[]=>[]
 |b::bs=>b.dat::Bd.dats bs
def Bd.brs:List Bd->List Str->List Dat
 |[],_=>[]
 |b::bs,t::ts=>.tup [.str t,b.dat]::Bd.brs bs ts
 |_::_,[]=>[]
end
def Bd.parts:Bd->List Bd
 |.tag _=>[]
 |.name _=>[]
 |.pair a b=>[a,b]
 |.one e=>[e]
 |.other e=>[e]
 |.choose e _ bs=>e::bs
 |.ask _ as=>as
 |.letb _ _ e b=>[e,b]
end L2
namespace L2
open PySem PySem.W PyProof.Rows
end L2
namespace L2
open PySem PySem.Spec PyProof.Rows
def Lb:typeLookup (.type "tuple") (Str.ofString "keys")=pure none:=am_miss_of_fast<|by decide +kernel
section
def Lc(D:Wt s.heap a G)(C:A.handled=none)(h:∀L M,(∀b o,s.heap.get? b=some o->L.get? b=some o)->Q none {s with heap:=L,toks:=M}):
  wpAny (model prog w) A (getAttr? (.ref a)<|Str.ofString "keys") Q E s:=by
 obtain⟨⟨c,y,z,sl⟩,N,O,R,k,hdat⟩:=D;simp only at R hdat O;subst R hdat O;obtain⟨X,P,j,M,I⟩:=s;have Z:=F.slot_tuple_getattribute;have U:=Z.lookup;have q:=Z.bind<|.ref a;have S:=am_tuple_getattr_none;have t:=sub_AttributeError;have T:∀n,(Shared.mk X P j n I).TypeIs (.ref a) "tuple":=λn=>⟨_,N,rfl⟩;simp only[getAttr?,getAttrBy?,getAttrBy]
 repeat (any_goals (first|assumption|exact T _|((with_reducible show wpAny _ _ (call (Value.builtin "tuple.__getattribute__") _ _) _ _ _);refine j7 F.slot_tuple_getattribute (T _) am_entry_tuple_getattribute (F.args_tuple_getattribute_2 _ _) (meets_getattribute_miss_tuple a G k sl (Str.ofString "keys") _ Lb (by decide +kernel)<|by size_fits) ⟨N,C,λL B e J=>?_⟩)|wp_step))
 have there:=J.there;obtain⟨_,_,m⟩:=there;refine(?_:wpAny _ _ (getattributeRaised _ _ _ _ _ _ _) _ _ _);simp only[getattributeRaised]
 repeat any_goals first|assumption|wp_step
 exact h _ _ J.keeps
end
section
def Wg(hc:X.calm=true):UA X (.type "dict") (λxs H Q=>∃(p:Addr)(L:pf)(Z:pj),xs=[.ref p]/\H p=some (.tup<|L.map V.ref)/\L1 X.K H L Z/\(Z.map (·.1)).Nodup/\∀l,H l=none->Q (.ref l) (upd H l<|.dK Z)):=by
 intro G3 s U H xs us Q I r h;obtain⟨p,L,Z,rfl,x,C,hn,q⟩:=h;obtain⟨u,rfl,c⟩:=vals1 r;cases c;obtain⟨w,G,r',d⟩:=(show VQ X.prog X.w H s.heap p (.tup<|L.map V.ref)from I.hok p _ x);rw[ZA]at w
 have j:G.length=L.length:=by
  have:=r'.length;rw[ZA]at this;exact this.symm
 have G1:∀(i:Nat)(a:Addr),L[i]?=some a->G[i]?=some (Value.ref a):=λi a e=>by
  obtain⟨u,hu,c⟩:=r'.get (show(L.map V.ref)[i]?=some (V.ref a) by rw[ZH,e];rfl);rw[hu,show u=Value.ref a from c]
 obtain⟨vs,M,n⟩:=NB s.heap L Z C.1 λi a k y e1 e2=>by
  obtain⟨M2,r2,p2,_⟩:=I.tuple<|C.2 i a k y e1 e2
  cases r2 with
  |cons r1 t1=>
   cases t1 with
   |cons r3 t3=>
    cases t3;exact⟨_,_,p2,r1,r3⟩
 have J2:vs.length=G.toArray.size:=by rw[ZO,j,C.1,<-M.length]
 have B:vs.map (·.1)=Z.map (·.1):=by
  have G2:∀{l:pj}{m:List (Key×Value)},KV l m->m.map (·.1)=l.map (·.1):=by
   intro l m q
   induction q with
   |nil=>rfl
   |cons x t ih=>rw[ZV,ZV,ih,x.1]
  exact G2 M
 have S:p<s.heap.objs.size:=by
  obtain⟨o,e,_⟩:=d;exact ZP e
 refine callType_codes (Q₁:=λob t=>ob=.ref s.heap.objs.size/\t={s with heap:=s.heap.push {cls:=.type "dict",data:=.dict #[]}}) F.kt_called_dict (F.kt_typeCall_dict_1 _) F.entry_dict_init (kt_code_dict_new _ ⟨Y,Y⟩) λob t g=>?_;obtain⟨rfl,rfl⟩:=g;have J:(s.heap.push {cls:=.type "dict",data:=.dict #[]}).DictOf (Y7 X.prog X.w) s.heap.objs.size []:=Heap.DictOf.new s.heap;have k0:∀b o,s.heap.get? b=some o->(s.heap.push {cls:=.type "dict",data:=.dict #[]}).get? b=some o:=λb o e=>ZE _ e;refine And.intro J.typeIs<|And.intro (F.args_dict_init_2 _ _) ?_;delta Builtin.«dict.__init__» Builtin.Dict.selfAndRest;refine Zl<|Zl<|wpAny_notOrdered_dict J.typeIs<|Zm (?_:wpAny _ _ (Builtin.Dict.updateFrom "dict.__init__" s.heap.objs.size (.ref p) [] .none) _ _ _);delta Builtin.Dict.updateFrom;have R:=d.keeps k0;refine Zl<|qQ (T:="tuple") (show Shared.TypeIs _ _ _ from let⟨o,O,_,h2,_⟩:=R;⟨o,O,h2⟩) ?_;rw[Zp (by decide)];refine Zl<|Lc R (I.ok.hd hc) λO O1 N=>?_;simp only[Option.isNone_none,if_true];refine Zl<|jD ?_;refine Zl<|wpAny_pyIter_tuple (show Heap.IsTuple _ _ _ from(R.keeps N).is) ?_
 have z:s.heap.objs.size<O.objs.size:=by
  obtain⟨o,es,ep,ho,_⟩:=J;exact ZP<|N _ _ ho
 have f:∀b o,s.heap.get? b=some o->(O.push {cls:=.type "tuple_iterator",data:=.fields #[.ref p,.int 0 0]}).get? b=some o:=λb o e=>ZE _<|N b o<|k0 b o e;refine Zm ⟨plainId_quiet Jo _,Pq (Walks.tuple (A:=X.A.in1.in1) (I.ok.hd hc) O.objs.size p (Ze<|kh S z) G.toArray) (h₀:=s.heap) (vs:=vs) J2 (by rw[<-M.length,<-C.1];exact w) (by rw[B];exact hn) ?_ s.heap.objs.size ?_ ?_ .none _ 0 _ 0 0 rfl (Zc _) ?_ ?_ f ?_⟩
 .intro i v hv
  have hi:i<G.length:=by
   have:=(Array.getElem?_eq_some_iff.mp hv).1
   rwa [ZO]at this
  have g:i<L.length:=by omega
  obtain⟨k,ku,vu,e1,e2,e3⟩:=n i L[i]<|ZD g;refine⟨L[i],k,ku,vu,?_,e1,e2,U2 e3⟩;have:=G1 i L[i]<|ZD g;have E:G[i]?=some v:=by simpa using hv
  rw[this]at E;exact(ZT E).symm
 .intro P
  have two:s.heap.objs.size=O.objs.size\/s.heap.objs.size=p:=by simpa using P
  rcases two with e|e
  .exact Zr e (Ze z)
  .exact Zr e (vM S)
 .intro b o e
  have D:=ZP e;refine⟨λP=>?_,Ze D⟩;have e':b=O.objs.size:=by simpa using P
  rw[e']at D;exact Zr z<|Nat.not_lt_of_lt D
 .exact ⟨⟨_,ZY _ rfl,rfl,rfl⟩,(show Heap.IsTuple _ _ _ from(d.keeps f).is)⟩
 .obtain ⟨o,es,ep,ho,rest⟩:=J
  exact⟨o,es,ep,ZE _<|N _ _ ho,rest⟩
 .intro h' tk hd' hk'
  refine⟨Y,.ref s.heap.objs.size,_,I.laid (a:=s.heap.objs.size) (o:=.dK Z) (λb o e=>?_) (ZG _)<|Xf (by rw[<-C.1];exact w) (beq_eq_false_iff_ne.mpr<|Zs<|Ze I.big) M hd',rfl,q _<|I.hok.fresh<|ZG _⟩;have D:=ZP e;refine hk' b o (λP=>?_) (Ze D)<|f b o e;have e':b=O.objs.size:=by simpa using P
  rw[e']at D;exact Zr z<|Nat.not_lt_of_lt D
def zn(K:W.Frag)(te tk:TE):TE:=λU H Q=>te U H λx G=>tk U G λy Z=>∃a J,x=.ref a/\y=.int (-1)/\SqL K Z a J/\∀p,Z p=none->Q (.ref p) (upd Z p<|.lst J.reverse)
theorem Mr:∀{Z:px}{J:kX},Vals Z J->Vals Z.reverse J.reverse
 |[],_,r=>by cases r;exact .nil
 |x::Z,_,r=>by
  cases r with
  |cons h t=>
   simp only[kF];exact(Mr t).append<|.cons h .nil
def Sk(P:PE X e te)(C:PE X k tk):PE X (.Subscript e (.Slice none none (some k) p2) pos) (zn X.K te tk):=by
 intro Z s U H Q I h;refine Subscript_<|thn (P Z s U H _ I h) λv R ⟨x,g,z,B,E⟩=>?_;refine wpAny_Slice ?_;rw[evalPart_none];refine Zm ?_;refine Zm ?_;rw[evalPart_some];refine thn (C Z R U g _ z E) λp J ⟨y,m,j,T,D⟩=>?_;obtain⟨a,O,rfl,rfl,S,q⟩:=D;cases B;obtain⟨t,rfl⟩:=T;have L:Inv X Z U m {J with heap:=J.heap.push {cls:=.type "slice",data:=.fields #[.none,.none,.int (-1) t]}}:=j.kept (t':=J.toks) λb F q=>ZE _ q;obtain⟨G,r,M,A⟩:=L.list S;have N:=r.length;show wpAny (model X.prog X.w) X.A (subscriptTail e (.Slice none none (some k) p2) (.ref a)<|.ref J.heap.objs.size) (EP X Z U Q) X.xe {J with heap:=J.heap.push {cls:=.type "slice",data:=.fields #[.none,.none,.int (-1) t]}};refine tail_any (ops:=[.ref a,.ref J.heap.objs.size]) M.isList.typeIs slot_list_getitem.lookup ?_ (by with_unfolding_all rfl);refine wpAny_getItem_list_slice (st:=some<|-1) M.isList (Heap.IsSliceOf.new ..) .none .none (.int _ _) (by simp) ?_ (by rw[ZO] <;> omega);rw[W.krv_pick,qS];refine⟨.ref _,_,L.laid (t':=J.toks) (o:=.lst O.reverse) (λb F q=>ZE _ q) (ZG _) ?_,Y,q _<|L.hok.fresh<|ZG _⟩;exact⟨by rw[List.length_reverse];exact A,G.reverse,0,Mr r,ZY _ Y⟩
end
end L2
namespace L2
open PySem
def Yr(h:Has H v (.tup J)):∃p Z,v=.ref p/\H p=some (.tup Z)/\HasL H Z J:=by unfold Has at h;exact h
def Yx(h:H p=some (.tup xs))(t:HasL H xs Z):Has H (.ref p) (.tup Z):=by unfold Has;exact⟨p,xs,Y,h,t⟩
def has_str(h:Has H v (.str x)):v=.str x:=by unfold Has at h;exact h
def VA:Has H (.str x) (.str x):=by unfold Has;rfl
def Yd(h:HasL H Z (d::J)):∃x r,Z=x::r/\Has H x d/\HasL H r J:=by
 match Z,h with
 |[],h=>unfold HasL at h;exact h.elim
 |x::r,h=>unfold HasL at h;exact⟨x,r,Y,h.1,h.2⟩
def Y9(h:HasL H Z []):Z=[]:=by
 match Z,h with
 |[],_=>rfl
 |_::_,h=>unfold HasL at h;exact h.elim
theorem Bd.dats_map:∀Z:List Bd,Bd.dats Z=Z.map Bd.dat
 |[]=>by unfold Bd.dats;rfl
 |b::Z=>by unfold Bd.dats;rw[Bd.dats_map Z];rfl
abbrev Z9:=@Bd.dats_map
theorem Bd.brs_len:∀{bs:List Bd}{ts:kZ},bs.length=ts.length->(Bd.brs bs ts).length=ts.length
 |[],[],_=>by unfold Bd.brs;rfl
 |[],_::_,e=>by simp at e
 |_::_,[],e=>by simp at e
 |b::bs,t::ts,e=>by
  unfold Bd.brs;rw[Zf,Bd.brs_len<|by simpa using e,Zf]
theorem Bd.brs_get:∀{bs:List Bd}{ts:kZ}{j:Nat}{d:Dat},(Bd.brs bs ts)[j]?=some d->∃b t,bs[j]?=some b/\ts[j]?=some t/\d=.tup [.str t,b.dat]
 |[],ts,j,d,e=>by unfold Bd.brs at e;simp at e
 |_::_,[],j,d,e=>by unfold Bd.brs at e;simp at e
 |b::bs,t::ts,0,d,e=>by
  unfold Bd.brs at e;have Z:some _=some d:=e;cases Z;exact⟨b,t,Y,Y,Y⟩
 |b::bs,t::ts,j+1,d,e=>by
  unfold Bd.brs at e;exact Bd.brs_get (bs:=bs) (ts:=ts) (j:=j) e
mutual
def Bd.ok:Bd->Prop
 |.tag _=>True
 |.name _=>True
 |.pair a b=>a.ok/\b.ok
 |.one e=>e.ok
 |.other e=>e.ok
 |.choose e ts bs=>e.ok/\bs.length=ts.length/\(1<=ts.length/\ts.length<=7)/\Bd.oks bs
 |.ask _ as=>as.length<=6/\Bd.oks as
 |.letb _ _ e b=>e.ok/\b.ok
def Bd.oks:List Bd->Prop
 |[]=>True
 |b::bs=>b.ok/\Bd.oks bs
end
theorem Bd.oks_mem:∀{Z:List Bd}{b:Bd},Bd.oks Z->b∈Z->b.ok
 |[],_,_,h=>nomatch h
 |c::Z,b,w,h=>by
  unfold Bd.oks at w;rcases Zd.mp h with rfl|h
  .exact w.1
  .exact Bd.oks_mem w.2 h
def Bd.ok_parts{b:Bd}(h:b.ok):∀c∈b.parts,c.ok:=by
 intro c Z
 cases b with
 |tag t=>cases Z
 |name x=>cases Z
 |pair a e=>
  unfold Bd.ok at h;simp only[Bd.parts,Zd,kT,or_false]at Z;rcases Z with rfl|rfl
  .exact h.1
  .exact h.2
 |one e=>unfold Bd.ok at h;simp only[Bd.parts,ZQ]at Z;rw[Z];exact h
 |other e=>unfold Bd.ok at h;simp only[Bd.parts,ZQ]at Z;rw[Z];exact h
 |choose e J G=>
  unfold Bd.ok at h;simp only[Bd.parts,Zd]at Z;rcases Z with rfl|Z
  .exact h.1
  .exact Bd.oks_mem h.2.2.2 Z
 |ask f L=>unfold Bd.ok at h;exact Bd.oks_mem h.2 Z
 |letb x k e g=>
  unfold Bd.ok at h;simp only[Bd.parts,Zd,kT,or_false]at Z;rcases Z with rfl|rfl
  .exact h.1
  .exact h.2
def Bd.few{b:Bd}(h:b.ok):b.parts.length<=8:=by
 cases b <;> (try (simp[Bd.parts];done)) <;> (unfold Bd.ok at h;simp only[Bd.parts,Zf,qC];omega)
end L2
namespace K4
open PySem L2
def EF:Yi ["body","word"] ["body"] (Ye BX):=Y4
def QO:List.Nodup [("tag":Str),"branch"]:=by decide +kernel
section
def Xk:Sp:=λJ H Q _=>∃(v:V)(b:Bd),J=[v]/\Has H v b.dat/\b.ok/\∀u Z,Same H Z->Has Z u (.tup<|Bd.dats b.parts)->Q u Z
def ok_parts(B:Blt mg)(F:Fun K "parts" "parts" BX f fd):Yf P w K mg base CX0 (n+1) f fd ["body"] Xk:=by
 refine F.oq EF λT2 A G2 s H I Q E hr h=>?_;obtain⟨v,b,rfl,O,ok,q⟩:=h;refine⟨_,YZ (Yw 1 EF.nd<|Ys Yy (pv 0) Yc)
  (YZ (Y5 (Yp XF (pv 1) (Yq<|pa2 Y0 Y0)<|by rfl) (Yb<|Yn<|Yq VR) Yo)
  (YZ (Y5 (Yp Vl (pv 1) Y0<|Yz _) (Yb (Yn (VE ET (Yq<|pa1<|Ys Yy (pv 0) Yc) (Ve Jl rfl B.tuple Jp (pa1 (JN ["tag","branch"] [] (Ub<|Ys Yy (pv 0) Yc) G7 (λcl C fp s H=>Vb (n:=2) rfl (Yl (Yj 0 QO rfl (Or.inl rfl) (Or.inr rfl))<|Yl (Yj 1 QO rfl (Or.inl rfl) (Or.inr rfl)) VJ))
     (λcl C fp s H=>pv 1))))))) Yo)
  (YZ (Y5 (Yp Vl (pv 1) Y0<|Yz _) (Yb<|Yn<|Ys Yy (pv 0) Yc) Yo)
  (YZ (Y5 (Yp Vl (pv 1) Y0<|Yz _) (Yb<|Yn<|JA IS (pv 0) (JY Yc) JZ) Yo)
  (Yb<|Yn<|JA IS (pv 0) (JY Yc) JZ))))),?_⟩
 show let a:=_;let b:=_;let c:=Yk (VG _ b _) a;let d:=_;let e:=Yk (VG _ d _) c;let f:=_;let g:=Yk (VG _ f _) e;let h:=_;let i:=Yk (VG _ h _) g;Yk _ i _ _ _
 intros
 cases b with
 |tag t=>
  unfold Bd.dat at O;obtain⟨p,xs,rfl,M,T⟩:=Yr O;obtain⟨r,m,rfl,D,G⟩:=Yd T;obtain rfl:=has_str D;exists _,_,Z2 M,VC (j:=0) Y;refine⟨sl 2,λN J=>?_⟩;refine⟨N,_,Y,.inr<|Z2 Yh,rfl,rfl,_,rfl,VP (by decide +kernel) ?_⟩;exact⟨sl 0,λu Z=>q _ _ ((Yu J _).trans<|Yu Z _)<|Yx Yh (by simp only[Bd.parts,Bd.dats];exact Z6)⟩
 |name x=>
  unfold Bd.dat at O;obtain⟨p,xs,rfl,M,T⟩:=Yr O;obtain⟨r,m,rfl,D,G⟩:=Yd T;obtain rfl:=has_str D;exists _,_,Z2 M,VC (j:=0) Y;refine⟨sl 2,λN J=>?_⟩;refine⟨N,_,Y,.inr<|Z2 Yh,rfl,rfl,_,rfl,VP (by decide +kernel) ?_⟩;exact⟨sl 0,λu Z=>q _ _ ((Yu J _).trans<|Yu Z _)<|Yx Yh (by simp only[Bd.parts,Bd.dats];exact Z6)⟩
 |pair a e=>
  unfold Bd.dat at O;obtain⟨p,xs,rfl,M,T⟩:=Yr O;obtain⟨r,m,rfl,D,G⟩:=Yd T;obtain rfl:=has_str D;exists _,_,Z2 M,VC (j:=0) Y;refine⟨sl 2,λN J=>?_⟩;have L:=Yu J<|.tup [V.str "tag",V.str "name"];refine⟨N,_,Y,.inr<|Z2 Yh,rfl,rfl,_,rfl,Y6 (by decide +kernel) ?_⟩;refine⟨Y,_,Y,Y6 (by decide +kernel) ?_⟩;refine⟨Y,_,Y,Y6 (by decide +kernel) ?_⟩;refine⟨Y,_,Y,Y6 (by decide +kernel) ?_⟩;refine⟨1,Y,p,_,Y,Z2<|L _ _ M,by simp[HT.sIx],λu Z=>q _ _ (L.trans<|Yu Z _)<|Yx (xs:=m) (by rw[Yh];simp[Uo,HT.sIx]) ?_⟩;exact(G.mono L).mono<|Yu Z _
 |one e=>
  unfold Bd.dat at O;obtain⟨p,xs,rfl,M,T⟩:=Yr O;obtain⟨r,m,rfl,D,G⟩:=Yd T;obtain rfl:=has_str D;exists _,_,Z2 M,VC (j:=0) Y;refine⟨sl 2,λN J=>?_⟩;have L:=Yu J<|.tup [V.str "tag",V.str "name"];refine⟨N,_,Y,.inr<|Z2 Yh,rfl,rfl,_,rfl,Y6 (by decide +kernel) ?_⟩;refine⟨Y,_,Y,Y6 (by decide +kernel) ?_⟩;refine⟨Y,_,Y,Y6 (by decide +kernel) ?_⟩;refine⟨Y,_,Y,Y6 (by decide +kernel) ?_⟩;refine⟨1,Y,p,_,Y,Z2<|L _ _ M,by simp[HT.sIx],λu Z=>q _ _ (L.trans<|Yu Z _)<|Yx (xs:=m) (by rw[Yh];simp[Uo,HT.sIx]) ?_⟩;exact(G.mono L).mono<|Yu Z _
 |other e=>
  unfold Bd.dat at O;obtain⟨p,xs,rfl,M,T⟩:=Yr O;obtain⟨r,m,rfl,D,G⟩:=Yd T;obtain rfl:=has_str D;exists _,_,Z2 M,VC (j:=0) Y;refine⟨sl 2,λN J=>?_⟩;have L:=Yu J<|.tup [V.str "tag",V.str "name"];refine⟨N,_,Y,.inr<|Z2 Yh,rfl,rfl,_,rfl,Y6 (by decide +kernel) ?_⟩;refine⟨Y,_,Y,Y6 (by decide +kernel) ?_⟩;refine⟨Y,_,Y,Y6 (by decide +kernel) ?_⟩;refine⟨Y,_,Y,Y6 (by decide +kernel) ?_⟩;refine⟨1,Y,p,_,Y,Z2<|L _ _ M,by simp[HT.sIx],λu Z=>q _ _ (L.trans<|Yu Z _)<|Yx (xs:=m) (by rw[Yh];simp[Uo,HT.sIx]) ?_⟩;exact(G.mono L).mono<|Yu Z _
 |choose e ts bs=>
  unfold Bd.dat at O;obtain⟨p,xs,rfl,M,T⟩:=Yr O;obtain⟨r,m,rfl,D,G⟩:=Yd T;obtain rfl:=has_str D;obtain⟨o,r2,rfl,h2,X⟩:=Yd G;obtain⟨x3,r3,rfl,h3,U⟩:=Yd X;obtain rfl:=Y9 U;obtain⟨pz,zs,rfl,G1,J2⟩:=Yr h3;unfold Bd.ok at ok;obtain⟨o1,o2,o3,o4⟩:=ok;have lz:=J2.length;rw[Bd.brs_len o2]at lz;exists _,_,Z2 M,VC (j:=0) Y;refine⟨sl 2,λN J=>?_⟩;have L:=Yu J<|.tup [V.str "tag",V.str "name"];refine⟨N,_,Y,.inr<|Z2 Yh,rfl,rfl,_,rfl,Y6 (by decide +kernel) ?_⟩;refine⟨Y,_,Y,VP (by decide +kernel) ?_⟩;refine⟨_,_,Z2<|L _ _ M,rfl,sl 1,λu Z=>?_⟩;have s2:=Yu Z<|.tup [o];have sA:=L.trans s2;exists _,_,Z2<|sA _ _ M,rfl,⟨_,Z2<|sA _ _ G1⟩;have S:=sA _ _ G1;refine Vj zs.length (Yv<|by omega) (λj I H'=>H'=upd (upd H N<|.tup [V.str "tag",V.str "name"]) u (.tup [o])/\I.length=j/\HasL H I ((bs.map Bd.dat).take j)) ⟨rfl,rfl,Z6⟩ (λj I H' z=>z.2.1) ?_ ?_ ?_ ?_
  .rintro j I H' hj ⟨rfl,_⟩
   exact⟨zs,zs[j],Z2 S,by simp[hj]⟩
  .rintro I H' ⟨rfl,_⟩
   exact⟨zs,Z2 S,ZG _⟩
  .rintro j I H' x H3 R hj ⟨rfl,z2,z3⟩ yl hR
   obtain⟨rfl,y⟩:=yl;obtain⟨d,hd,R1⟩:=J2.get<|y zs<|Z2 S;obtain⟨b,t0,T0,T1,rfl⟩:=Bd.brs_get hd;obtain⟨pp,ys,rfl,R6,G3⟩:=Yr R1;obtain⟨y1,r4,rfl,h4,O1⟩:=Yd G3;obtain⟨y2,r5,rfl,h5,M2⟩:=Yd O1;obtain rfl:=Y9 M2;exists _,Z2<|sA _ _ R6,rfl;refine hR _ _ ⟨Y,by rw[ZL,z2];rfl,?_⟩;rw[List.take_add_one,ZH,T0];exact Z7 z3<|Z5 h5
  .rintro I H' l ⟨rfl,z2,z3⟩ hl3
   have s3:=Yu hl3<|.lst I;refine⟨l,_,Y,.inl ⟨Z3 Yh,λl4 R8=>?_⟩⟩;have s4:=Yu R8<|.tup I;have sB:=(sA.trans s3).trans s4;rw[Zg (by rw[ZA];omega)]at z3;have e1:Bd.dats (Bd.choose e ts bs).parts=e.dat::bs.map Bd.dat:=by rw[Z9];rfl
   refine⟨u,l4,[o],I,Y,Y,Z2<|s4 _ _<|s3 _ _ Yh,Z2 Yh,by simp,Zh (Yv (by simp only[vc];omega)),λe0=>?_,λ_ p5 R7=>?_⟩
   .refine q _ _ sB ?_
    rw[e1];subst e0
    have hb:bs=[]:=by
     have:=z3.length;simpa using this.symm
    rw[hb];exact Yx (s4 _ _<|s3 _ _ Yh)<|Z5<|h2.mono sB
   .have s5:=Yu R7<|.tup<|[o]++ I
    refine q _ _ (sB.trans s5) ?_;rw[e1];exact Yx Yh<|Z4 (h2.mono<|sB.trans s5)<|z3.mono<|sB.trans s5
 |ask g as=>
  unfold Bd.dat at O;obtain⟨p,xs,rfl,M,T⟩:=Yr O;obtain⟨r,m,rfl,D,G⟩:=Yd T;obtain rfl:=has_str D;obtain⟨o,r2,rfl,h2,X⟩:=Yd G;obtain⟨x3,r3,rfl,h3,U⟩:=Yd X;exists _,_,Z2 M,VC (j:=0) Y;refine⟨sl 2,λN J=>?_⟩;have L:=Yu J<|.tup [V.str "tag",V.str "name"];refine⟨N,_,Y,.inr<|Z2 Yh,rfl,rfl,_,rfl,Y6 (by decide +kernel) ?_⟩;refine⟨Y,_,Y,Y6 (by decide +kernel) ?_⟩;refine⟨Y,_,Y,VP (by decide +kernel) ?_⟩;exact⟨_,_,Z2<|L _ _ M,VC (j:=2) rfl,q _ _ L<|h3.mono L⟩
 |letb x k e g=>
  unfold Bd.dat at O;obtain⟨p,xs,rfl,M,T⟩:=Yr O;obtain⟨r,m,rfl,D,G⟩:=Yd T;obtain rfl:=has_str D;obtain⟨o,r2,rfl,h2,X⟩:=Yd G;obtain⟨x3,r3,rfl,h3,U⟩:=Yd X;have lr:=U.length;exists _,_,Z2 M,VC (j:=0) Y;refine⟨sl 2,λN J=>?_⟩;have L:=Yu J<|.tup [V.str "tag",V.str "name"];refine⟨N,_,Y,.inr<|Z2 Yh,rfl,rfl,_,rfl,Y6 (by decide +kernel) ?_⟩;refine⟨Y,_,Y,Y6 (by decide +kernel) ?_⟩;refine⟨Y,_,Y,Y6 (by decide +kernel) ?_⟩;refine⟨Y,_,Y,VP (by decide +kernel) ?_⟩;refine⟨3,Y,p,_,Y,Z2<|L _ _ M,by simp[HT.sIx],λu Z=>q _ _ (L.trans<|Yu Z _)<|Yx (xs:=r3) (by rw[Yh];simp[Uo,HT.sIx]) ?_⟩;exact(U.mono L).mono<|Yu Z _
end
end K4
namespace L2
open PySem
def Bd.at:Bd->List Int->Option Bd
 |b,[]=>some b
 |b,i::r=>if 0<=i then(match b.parts[i.toNat]? with|some c=>Bd.at c r|none=>none)else none
end L2
namespace K4
open PySem L2
end K4
namespace L2
open PySem PySem.Spec PyProof.Rows
mutual
def Bd.size:Bd->Nat
 |.tag _=>1
 |.name _=>1
 |.pair a b=>1+(a.size+b.size)
 |.one e=>1+e.size
 |.other e=>1+e.size
 |.choose e _ bs=>1+(e.size+Bd.sizes bs)
 |.ask _ as=>1+Bd.sizes as
 |.letb _ _ e b=>1+(e.size+b.size)
def Bd.sizes:List Bd->Nat
 |[]=>0
 |b::bs=>b.size+Bd.sizes bs
end
mutual
def Bd.dep:Bd->Nat
 |.tag _=>0
 |.name _=>0
 |.pair a b=>1+max a.dep b.dep
 |.one e=>1+e.dep
 |.other e=>1+e.dep
 |.choose e _ bs=>1+max e.dep (Bd.deps bs)
 |.ask _ as=>1+Bd.deps as
 |.letb _ _ e b=>1+max e.dep b.dep
def Bd.deps:List Bd->Nat
 |[]=>0
 |b::bs=>max b.dep<|Bd.deps bs
end
def Bd.size_eq(b:Bd):b.size=1+Bd.sizes b.parts:=by
 cases b <;> simp[Bd.size,Bd.sizes,Bd.parts]
theorem Bd.deps_mem:∀{Z:List Bd}{b:Bd},b∈Z->b.dep<=Bd.deps Z
 |[],_,h=>nomatch h
 |c::Z,b,h=>by
  unfold Bd.deps;rcases Zd.mp h with rfl|h
  .exact jr _ _
  .exact Zb (Bd.deps_mem h) (jm _ _)
def Bd.dep_mem{b c:Bd}(h:c∈b.parts):c.dep<b.dep:=by
 have Z:=Bd.deps_mem h;cases b <;> simp only[Bd.parts,Bd.deps,Bd.dep,kT]at * <;> first|exact h.elim|omega
end L2
namespace K4
open PySem L2
end K4
namespace L2
open PySem
section
def zu(t:TS):TS:=λD U H=>t {D with nx:=λU J=>∃d Z,J d=some (.dK Z)/\∀o,D.nx U (upd J d<|.frz o<|.dK Z)} U H
def Se(h:PS X st t):PS X st (zu t):=by
 intro Z s U H D I q;refine thn (h Z s U H _ I q) λf M z=>?_
 cases f with
 |next=>
  obtain⟨R,T,L,d,J,G,N⟩:=z;obtain⟨o,O⟩:=(show VQ X.prog X.w T M.heap d (.dK J)from L.hok d _ G).dk_ex;exact⟨R,_,L.freeze G O,N o⟩
 |brk=>exact z
 |cont=>exact z
 |ret u=>exact z
end
abbrev Hds:=Str->Option (List (Str×Str)×Str)
inductive Kd(ks:List (Str×Shp))(hd:Hds):List (Key×V)->Str->Bd->Prop
 |tag {g:List (Key×V)}{y t:Str}{ts:List Str}:Vf ks y=some (.tags ts)->t∈ts->Kd ks hd g y (.tag t)
 |name {g:List (Key×V)}{y x:Str}:VB g (Sum.inr x)=some (.str y)->Kd ks hd g y (.name x)
 |pair {g:List (Key×V)}{y a b:Str}{A B:Bd}:Vf ks y=some (.pair a b)->Kd ks hd g a A->Kd ks hd g b B->Kd ks hd g y (.pair A B)
 |one {g:List (Key×V)}{y z b:Str}{e:Bd}:Vf ks z=some (.pair y b)->Kd ks hd g z e->Kd ks hd g y (.one e)
 |other {g:List (Key×V)}{y z a:Str}{e:Bd}:Vf ks z=some (.pair a y)->Kd ks hd g z e->Kd ks hd g y (.other e)
 |choose {g:List (Key×V)}{y z:Str}{ts:List Str}{e:Bd}{bs:List Bd}:Vf ks z=some (.tags ts)->Kd ks hd g z e->bs.length=ts.length->(∀b∈bs,Kd ks hd g y b)->Kd ks hd g y (.choose e ts bs)
 |ask {g:List (Key×V)}{y f:Str}{ps:List (Str×Str)}{as:List Bd}:hd f=some (ps,y)->as.length=ps.length->(∀(i:Nat)(a:Bd)(p:Str×Str),as[i]?=some a->ps[i]?=some p->Kd ks hd g p.2 a)->Kd ks hd g y (.ask f as)
 |letb {g:List (Key×V)}{y x z:Str}{e b:Bd}:VB g (Sum.inr x)=none->z∈ks.map (·.1)->Kd ks hd (putK g (Sum.inr x) (.str z)) z e->Kd ks hd (putK g (Sum.inr x) (.str z)) y b->Kd ks hd g y (.letb x z e b)
def hdD(ps:List (Str×Str))(k:Str):Dat:=.tup [.tup (ps.map λp=>.tup [.str p.1,.str p.2]),.str k]
def AV(Z:List (Str×Str))(k:Str):(hdD Z k).st=true:=by
 have:∀Z:List (Str×Str),Dat.sts (Z.map λp=>Dat.tup [.str p.1,.str p.2])=true:=by
  intro Z
  induction Z with
  |nil=>unfold List.map Dat.sts;rfl
  |cons p Z ih=>rw[ZV];unfold Dat.sts;rw[ih];simp[Dat.st,Dat.sts]
 simp[hdD,Dat.st,Dat.sts,this]
theorem Eu:∀{Z:List Bd}{J:kZ},Dat.sts (Bd.dats Z)=true->Dat.sts (Bd.brs Z J)=true
 |[],_,_=>by unfold Bd.brs Dat.sts;rfl
 |b::Z,[],_=>by unfold Bd.brs Dat.sts;rfl
 |b::Z,t::J,h=>by
  unfold Bd.dats Dat.sts at h;rw[ZZ]at h;unfold Bd.brs Dat.sts;rw[Eu h.2];simp[Dat.st,Dat.sts,h.1]
mutual
theorem Bd.st:∀b:Bd,b.dat.st=true
 |.tag t=>by simp[Bd.dat,Dat.st,Dat.sts]
 |.name t=>by simp[Bd.dat,Dat.st,Dat.sts]
 |.pair a b=>by simp[Bd.dat,Dat.st,Dat.sts,Bd.st a,Bd.st b]
 |.one a=>by simp[Bd.dat,Dat.st,Dat.sts,Bd.st a]
 |.other a=>by simp[Bd.dat,Dat.st,Dat.sts,Bd.st a]
 |.choose e G Z=>by simp[Bd.dat,Dat.st,Dat.sts,Bd.st e,Eu (Bd.sts Z)]
 |.ask f J=>by simp[Bd.dat,Dat.st,Dat.sts,Bd.sts J]
 |.letb x k e b=>by simp[Bd.dat,Dat.st,Dat.sts,Bd.st e,Bd.st b]
theorem Bd.sts:∀Z:List Bd,Dat.sts (Bd.dats Z)=true
 |[]=>by unfold Bd.dats Dat.sts;rfl
 |b::Z=>by unfold Bd.dats Dat.sts;rw[Bd.st b,Bd.sts Z];rfl
end
def Fw{Z:pj}(h:VB Z k=some v):∃J∈Z,J.1=k/\J.2=v:=by
 unfold VB at h
 cases e:Z.find? (λJ=>decide<|J.1=k)with
 |none=>rw[e]at h;cases h
 |some J=>
  rw[e]at h;exact⟨J,vp e,by simpa using List.find?_some e,ZT h⟩
theorem U9:∀Z:kZ,HasL H (Z.map V.str)<|Z.map Dat.str
 |[]=>Z6
 |n::Z=>Z4 VA<|U9 Z
def zA{Z:kZ}(h:H a=some (.lst<|Z.map V.str)):Has H (.ref a) (.lst<|Z.map Dat.str):=PP h<|U9 Z
def M0(Z:kZ):(Dat.lst<|Z.map Dat.str).dep<=1:=by
 have:∀Z:kZ,Dat.deps (Z.map Dat.str)=0:=by
  intro Z
  induction Z with
  |nil=>unfold List.map Dat.deps;rfl
  |cons n Z ih=>rw[ZV];unfold Dat.deps;rw[ih];unfold Dat.dep;rfl
 unfold Dat.dep;rw[this];decide
def OA(h:H r=some (.tup [.str a,.str b])):Has H (.ref r) (.tup [.str a,.str b]):=Yx h<|Z4 VA<|Z4 VA Z6
def Vz.sm(s:Vz H p)(e:Same H Z):Vz Z p:=let⟨a,b,c,d,h⟩:=s;⟨a,b,c,d,e _ _ h⟩
end L2
namespace K4
open PySem L2
section
variable{P:Program}{w:World}{K:W.Frag}{mg:Str->Option Value}{base:Heap}
def Df(P:Program)(w:World)(K:W.Frag)(mg:Str->Option Value)(base:Heap)(n:Nat)(x:Str)(ps:kZ)(sp:Sp):Prop:=
 ∃(g:Addr)(Z:FuncData),mg x=some (.ref g)/\W.keepIn K (.ref g)=true/\Binds K Z ps []/\Yf P w K mg base CX0 n g Z ps sp
def Vc{X:Cx}(D:Df X.prog X.w X.K X.mg X.base k x B M)(N:Vr k X.A)(T:PA X (e::Z) t)(O:Gl X x:=by exact Y)(L:(x==("__debug__":Str))=false:=by decide)(R:starEach (e::Z) X.env=(false,eval e X.env)::starEach Z X.env:=by rfl)(J:(backTo pos<|starEach Z X.env).any (·.1)=false:=by rfl):
  PE X (.Call (.Name x p) (e::Z) [] pos) (My M [] E0 t):=let⟨_,_,m,k,b,G⟩:=D;JF G N O m k b .nil Y1 T L R J
def Df.up(d:Df P w K mg base n x J Z)(h:n<=m):Df P w K mg base m x J Z:=
 let⟨g,O,N,M,L,G⟩:=d;⟨g,O,N,M,L,G.mono h⟩
end
end K4
namespace L2
open PySem
end L2
namespace K4
open PySem L2
end K4
namespace L2
open PySem
def Xu(h:Has H v (.tup [.str a,.str b])):∃t,v=.ref t/\H t=some (.tup [.str a,.str b]):=by
 obtain⟨t,O,rfl,G,L⟩:=Yr h;obtain⟨T,D,rfl,N,J⟩:=Yd L;obtain⟨R,B,rfl,M,Z⟩:=Yd J;obtain rfl:=Y9 Z;obtain rfl:=has_str N;obtain rfl:=has_str M;exact⟨t,Y,G⟩
end L2
namespace K4
open PySem L2
end K4
namespace L2
open PySem
def Same.putN(s:Same H0 H)(h:H0 p=none):Same H0 (upd H p o):=λb u e=>by
 rw[Yg (Ya e h)];exact s b u e
end L2
namespace K4
open PySem L2
end K4
namespace L2
open PySem PySem.Spec PyProof.Rows
section
def Dp:UA X (.type "dict") (λL H Q=>∃a Z,L=[.ref a]/\Rd H a (.dK Z)/\∀l,H l=none->Q (.ref l) (upd H l<|.dK Z)):=by
 intro N s U H L A Q I r h;obtain⟨a,Z,rfl,E,q⟩:=h;obtain⟨u,rfl,T⟩:=vals1 r;cases T;obtain⟨O,B,F,M,D⟩:=Xy I.hok E;have J:=M.length;refine kt_call_dict (knd:=Y7 X.prog X.w) B D (by rw[<-J];exact O) λS G R=>?_;refine⟨.ref s.heap.objs.size,_,I.laid (a:=s.heap.objs.size) (o:=.dK Z) (λb o e=>?_) (ZG _)<|Xf O (beq_eq_false_iff_ne.mpr<|Zs<|Ze I.big) M G,rfl,q _<|I.hok.fresh<|ZG _⟩;exact(R.2 b<|Ze<|ZP e).trans<|ZE _ e
end
end L2
namespace L2
open PySem
def Ik{Z:pj}(h:J∈putK Z k v):J∈Z\/J=(k,v):=by
 unfold putK at h
 split at h
 .obtain ⟨q,hq,e⟩:=ZW.mp h
  by_cases z:q.1=k
  .rw [Zp z]at e;exact .inr<|by rw[<-e,z]
  .rw [Zq z]at e;exact .inl (by rw[<-e];exact hq)
 .rcases ZX.mp h with h|h
  .exact .inl h
  .exact .inr (ZQ.mp h)
def NA(Z:pj)(k:Key)(v:V):(putK Z k v).length<=Z.length+1:=by
 unfold putK
 split
 .rw [ZA];omega
 .rw [ZL];exact ZG _
end L2
namespace K4
open PySem L2
end K4
namespace L2
open PySem
abbrev Hd:=Str×List (Str×Str)×Str
def WdS(y:Str):Prop:=1<=y.length/\y.length<=8/\∀c∈y.cps.toList,97<=c/\c<97+26
def V0(c:pG)(ps:List (Str×Str)):Nat:=ps.foldl (λr p=>r*c p.2) 1
def Gj(c:pG)(Z:List (Str×Str))(p:Str×Str):V0 c (Z++[p])=V0 c Z*c p.2:=by unfold V0;rw[qf];rfl
structure P7(ns:List Str)(c:Str->Nat)(top:Nat)(h:Hd):Prop where
 len:h.2.1.length<=3
 kin:∀p∈h.2.1,p.2∈ns
 own:h.2.2∈ns
 nd:(h.2.1.map (·.1)).Nodup
 spl:∀p∈h.2.1,WdS p.1
 rows:V0 c h.2.1<=top
def RX{Z:pj}(h:k∉Z.map (·.1)):VB Z k=none:=by
 unfold VB
 rw[j9.mpr (λJ G=>by
  intro z;exact h<|ZW.mpr ⟨J,G,Zt z⟩)]
 rfl
def Tv{Z:kZ}(J:Z.Nodup)(h:Z[i]?=some y):y∉Z.take i:=by
 have e:=take_snoc h;have s:(Z.take i++[y]).Nodup:=by rw[<-e];exact J.sublist<|jg _ _
 exact λz=>(jt.mp s).2.2 y z y (ZQ.mpr Y) Y
def Wds.wdS(w:Wds 97 Z)(h:y∈Z):WdS y:=⟨(w.len y h).1,(w.len y h).2,w.abc y h⟩
end L2
namespace K4
open PySem L2
end K4
namespace L2
open PySem
theorem Io:∀{G:List (Str×Str)}{Z:px},HasL H Z (G.map λp=>.tup [.str p.1,.str p.2])->∃(J:pf),Z=J.map V.ref/\L1 K H J (G.map λp=>((Sum.inr p.1:Key),V.str p.2))
 |[],Z,h=>by
  obtain rfl:=Y9 h;exact⟨[],Y,Y,λi a k y e=>by simp at e⟩
 |q::G,Z,h=>by
  rw[ZV]at h;obtain⟨x,r,rfl,E,D⟩:=Yd h;obtain⟨t,rfl,B⟩:=Xu E;obtain⟨J,rfl,T,R⟩:=Io (K:=K) D;refine⟨t::J,Y,by simp[T],λi b k y O N=>?_⟩
  cases i with
  |zero=>
   have M:some t=some b:=O;have L:some ((Sum.inr q.1:Key),V.str q.2)=some (k,y):=N;cases M;cases L;exact Z2 B
  |succ i=>exact R i b k y O N
abbrev Dd:=Hd×Bd
def Ws(x:Dd):Dat:=.tup [.str x.1.1,.tup<|x.1.2.1.map λp=>.tup [.str p.1,.str p.2],.str x.1.2.2,x.2.dat]
def kvP(ps:List (Str×Str)):pj:=ps.map λp=>((Sum.inr p.1:Key),V.str p.2)
def Jt(hs:List Hd):Hds:=λf=>(hs.find? λh=>decide<|h.1=f).map (·.2)
def EM(J:List (Str×Str)):Dat.sts (J.map λp=>Dat.tup [.str p.1,.str p.2])=true:=by
 have:=AV J "";unfold hdD Dat.st Dat.sts at this;rw[ZZ]at this;have Z:=this.1;unfold Dat.st at Z;exact Z
def LC(J:(Z.map (·.1)).Nodup)(m:h∈Z):Jt Z h.1=some h.2:=by
 induction Z with
 |nil=>exact nomatch m
 |cons g Z ih=>
  rw[ZV,jE]at J;unfold Jt;rw[vL];rcases Zd.mp m with e|e
  .subst e;simp
  .have ne:¬g.1=h.1:=λq=>J.1 (by rw[q];exact ZW.mpr ⟨_,e,Y⟩)
   rw[Zy ne];exact ih J.2 e
theorem Dz:∀{Z:pj},(Z.map (·.1)).Nodup->∀{J:Key×V},J∈Z->VB Z J.1=some J.2
 |[],_,J,m=>nomatch m
 |g::Z,nd,J,m=>by
  rw[ZV,jE]at nd;unfold VB;rw[vL];rcases Zd.mp m with e|e
  .subst e;simp
  .have ne:¬g.1=J.1:=λq=>nd.1 (by rw[q];exact ZW.mpr ⟨_,e,Y⟩)
   rw[Zy ne];exact Dz nd.2 e
def Vz.tkB(s:Vz H p)(b:SameB p H Z):TK H Z:=λc J h=>b c _ (Mu s h) h
end L2
namespace K4
open PySem L2
end K4
namespace L2
open PySem
def Kr(ks:pF)(hd:Hds)(kv:pj)(y:Str):Bd->List Str->Prop
 |.tag t,zs=>zs=[]/\∃ts,Vf ks y=some (.tags ts)/\t∈ts
 |.name x,zs=>zs=[]/\VB kv (Sum.inr x)=some (.str y)
 |.pair _ _,zs=>∃a b,zs=[a,b]/\Vf ks y=some (.pair a b)
 |.one _,zs=>∃z b,zs=[z]/\Vf ks z=some (.pair y b)
 |.other _,zs=>∃z a,zs=[z]/\Vf ks z=some (.pair a y)
 |.choose _ ts bs,zs=>∃z,zs=z::List.replicate bs.length y/\Vf ks z=some (.tags ts)/\bs.length=ts.length
 |.ask f _,zs=>∃ps:List (Str×Str),hd f=some (ps,y)/\zs=ps.map (·.2)
 |.letb x z _ _,zs=>zs=[z,y]/\VB kv (Sum.inr x)=none/\z∈ks.map (·.1)
def wth(kv:pj):Bd->List (Key×V)
 |.letb x z _ _=>putK kv (Sum.inr x)<|.str z
 |_=>kv
def Kd.inv(h:Kd T B R y b):
  ∃N,Kr T B R y b N/\N.length=b.parts.length/\∀(i:Nat)(p:Bd)(z:Str),b.parts[i]?=some p->N[i]?=some z->Kd T B (wth R b) z p:=by
 cases h with
 |tag G L=>exact⟨[],⟨Y,_,G,L⟩,Y,λi p z e=>nomatch e⟩
 |name G=>exact⟨[],⟨Y,G⟩,Y,λi p z e=>nomatch e⟩
 |pair G L M=>
  refine⟨_,⟨_,_,Y,G⟩,Y,λi p z J Z=>?_⟩;rcases i with _|_|i
  .cases J;cases Z;exact L
  .cases J;cases Z;exact M
  .exact nomatch J
 |one G L=>
  refine⟨_,⟨_,_,Y,G⟩,Y,λi p z J Z=>?_⟩;rcases i with _|i
  .cases J;cases Z;exact L
  .exact nomatch J
 |other G L=>
  refine⟨_,⟨_,_,Y,G⟩,Y,λi p z J Z=>?_⟩;rcases i with _|i
  .cases J;cases Z;exact L
  .exact nomatch J
 | @choose _ _ I S e D G L M O=>
  refine⟨_,⟨_,Y,G,M⟩,by simp[Bd.parts],λi p z J Z=>?_⟩;rcases i with _|i
  .cases J;cases Z;exact L
  .have m:=ZJ (show D[i]?=some p from J)
   have A:(List.replicate D.length y)[i]?=some z:=Z;have F:=ZJ A;cases List.eq_of_mem_replicate F;exact O p m
 | @ask _ _ f E U G L M=>
  refine⟨_,⟨_,G,Y⟩,by rw[ZA];exact L.symm,λi p z J Z=>?_⟩;rw[ZH]at Z
  cases ep:E[i]? with
  |none=>rw[ep]at Z;cases Z
  |some q=>
   rw[ep]at Z;cases Z;exact M i p q J ep
 |letb G L M O=>
  refine⟨_,⟨Y,G,L⟩,Y,λi p z J Z=>?_⟩;rcases i with _|_|i
  .cases J;cases Z;exact M
  .cases J;cases Z;exact O
  .exact nomatch J
end L2
namespace L2
open PySem
end L2
namespace K4
open PySem L2
section
def Ww:Sp:=λJ H Q _=>∃(x:Str)(o:Nat),J=[.str x,.str (alpha o)]/\(o=97\/o=65)/\1<=x.length/\x.length<=8/\(∀c∈x.cps.toList,o<=c/\c<o+26)/\∀Z,Same H Z->Q (.bl true) Z
def ON:Yi ["text","letters"] ["text","letters"] (Ye BV):=Y4
def Cy:List.Nodup [("sign":Str),"letters"]:=by decide +kernel
def KS(B:Blt M)(F:Fun K "is_spelt" "is_spelt" BV f y)(X:M "LONGEST"=some u)(N:RelV (.int 8) u):Yf P w K M base CX0 (n+1) f y ["text","letters"] Ww:=by
 refine F.oq ON λk A G s H Z Q E b h=>?_;obtain⟨x,o,rfl,I,l,r,U,q⟩:=h;refine⟨_,YZ (Y5 (JX<|JS<|ME rfl B.isi rfl B.str Wh (pv 0)) (Yb<|Yn J4) Yo)
  (Yb (Yn (Xa (KB Xp Xp Yc (VF Mj rfl B.len Zu (pa1<|pv 0))<|Ja rfl X N)
   (Uz (VF (Nn rfl) rfl B.all RL (pa1 (JN ["sign"] [1] (Sh<|pv 0) (Vv (i:=0)<|by decide)
    (λg C j s H=>Yj 0 Cy rfl (Or.inl rfl) (Or.inr rfl)) (λg C j s H=>JE FH (pv 0) (pv 1) rfl)))))))),?_⟩
 exists _,_,_,_,Y,.str x,G0 K "str",_,Y;refine Y6 (by simp) ?_;have T:x.length<=sizeLine:=Zh (Yv<|by omega);exists x,Y,T,_,Y;refine VP (by simp;omega) ?_;exists _,Y;refine VP (by simp;omega) ?_;exists x,Y;have d:x.cps.size=x.length:=rfl;refine Vj x.length (Yv<|by omega) (λi Z J=>Same H J/\Z=List.replicate i (V.bl true)) ⟨Z8 _,rfl⟩ (λi Z J z=>by rw[z.2];simp) ?_ ?_ ?_ ?_
 .intro i Z J hi z
  exact hi
 .intro Z J z
  exact ZG _
 .intro i Z J v H'' R hi z yl hR
  obtain⟨rfl,c,L,rfl⟩:=yl;exists _,_,Y,Y
  have S:c∈x.cps.toList:=by
   have:=Array.mem_of_getElem? L;exact Array.mem_toList_iff.mpr this
  obtain⟨D,O,m⟩:=Kj I<|U c S;have t:Builtin.Str.occurrences (alpha o) ⟨#[c]⟩ 0 (alpha o).length 1=D::O:=m;rw[t];exact hR _ _ ⟨z.1,by rw[z.2,List.replicate_succ'];rfl⟩
 .intro Z J p z hp
  refine⟨p,List.replicate x.length true,Y,Z3 (by rw[Yh,z.2,List.map_replicate]),?_⟩;rw[show(List.replicate x.length true).all id=true by simp];exact q _<|z.1.trans<|Yu hp _
def Us(o:Nat):Sp:=λJ H Q _=>∃(x:Str),J=[.str x]/\1<=x.length/\x.length<=8/\(∀c∈x.cps.toList,o<=c/\c<o+26)/\∀Z,Same H Z->Q (.bl true) Z
def IY:Yi ["text"] ["text"] (Ye R0):=Y4
def FL(F:Fun K "is_name" "is_name" R0 f S)(G:Yf P w K J base CX0 n g I ["text","letters"] Ww)(C:Binds K I ["text","letters"] [])(R:W.keepIn K (.ref g)=true)(M:J "is_spelt"=some (.ref g))(D:J "SMALL"=some u)(L:RelV (.str<|Str.ofString "abcdefghijklmnopqrstuvwxyz") u):Yf P w K J base CX0 (n+1) f S ["text"] (Us 97):=by
 refine F.oq IY λU A Z s H X Q E T h=>?_;obtain⟨x,rfl,O,N,B,q⟩:=h;exists _,Yb<|Yn<|JF G T rfl M R C .nil Y1 (pa2 (pv 0)<|Ja rfl D L);refine⟨x,97,?_,.inl Y,O,N,B,q⟩;rw[<-Tt];rfl
def OU:Yi ["text"] ["text"] (Ye Be):=Y4
def Kc(F:Fun K "is_tag" "is_tag" Be f S)(G:Yf P w K J base CX0 n g I ["text","letters"] Ww)(C:Binds K I ["text","letters"] [])(R:W.keepIn K (.ref g)=true)(M:J "is_spelt"=some (.ref g))(D:J "GREAT"=some u)(L:RelV (.str<|Str.ofString "ABCDEFGHIJKLMNOPQRSTUVWXYZ") u):Yf P w K J base CX0 (n+1) f S ["text"] (Us 65):=by
 refine F.oq OU λU A Z s H X Q E T h=>?_;obtain⟨x,rfl,O,N,B,q⟩:=h;exists _,Yb<|Yn<|JF G T rfl M R C .nil Y1 (pa2 (pv 0)<|Ja rfl D L);refine⟨x,65,?_,.inr Y,O,N,B,q⟩;rw[<-RF];rfl
end
end K4
namespace L2
open PySem
def Wq(ks:pF):Nat->Str->Nat
 |0,_=>0
 |n+1,y=>match Vf ks y with
  |none=>0
  |some (.tags _)=>1
  |some (.pair a b)=>1+Wq ks n a+Wq ks n b
def JK(t:Str):Shp->Bool
 |.tags ts=>decide<|t∈ts
 |.pair _ _=>false
def JB(a b:Str):Shp->Bool
 |.tags _=>false
 |.pair c e=>decide (c=a) && decide (e=b)
def JD(ks:pF)(t:Str):Option Str:=(ks.find? λk=>JK t k.2).map (·.1)
def Vk(ks:pF)(a b:Str):Option Str:=(ks.find? λk=>JB a b k.2).map (·.1)
def XM{α:Type}(p:α->Bool)(l:List α)(x:α):(l++[x]).find? p=(l.find? p).or (if p x=true then some x else none):=by
 rw[qg]
 congr 1
 rw[vL];cases p x <;> simp
def WM(h:z∈Z.map (·.1)):Vf (Z++[x]) z=Vf Z z:=by
 obtain⟨s,J⟩:=UF h;unfold Vf at J |-;rw[XM]
 cases e:Z.find? λk=>decide (k.1=z)with
 |none=>rw[e]at J;cases J
 |some k=>rfl
def E6(h:z∉Z.map (·.1)):Vf Z z=none:=by
 cases e:Vf Z z with
 |none=>rfl
 |some s=>exact Zr (ZW.mpr ⟨_,Xl e,Y⟩) h
def Gc(h:z∉Z.map (·.1)):Vf (Z++[(z,s)]) z=some s:=by
 have q:=E6 h;unfold Vf at q |-;rw[XM]
 cases e:Z.find? λk=>decide (k.1=z)with
 |none=>simp
 |some k=>rw[e]at q;cases q
theorem Jm(h:KK top c d Z)(x:Str×Shp):∀(n:Nat)(z:Str),z∈Z.map (·.1)->Y2 (Z++[x]) n z=Y2 Z n z
 |0,_,_=>rfl
 |n+1,z,hz=>by
  obtain⟨s,J⟩:=UF hz;rw[X6 J,X6 ((WM hz).trans J)]
  cases s with
  |tags M=>rfl
  |pair a b=>
   obtain⟨L,G,_⟩:=h.at J;show(W.non::_)=(W.non::_);rw[Jm h x n a L,Jm h x n b G]
def hOf(ks:pF)(n:Nat):Shp->Nat
 |.tags _=>1
 |.pair a b=>1+Wq ks n a+Wq ks n b
def Xs(h:Vf Z y=some s):Wq Z (n+1) y=hOf Z n s:=by
 conv=>lhs;unfold Wq
 rw[h];cases s <;> rfl
theorem US(h:KK top c d Z)(x:Str×Shp):∀(n:Nat)(z:Str),z∈Z.map (·.1)->Wq (Z++[x]) n z=Wq Z n z
 |0,_,_=>rfl
 |n+1,z,hz=>by
  obtain⟨s,J⟩:=UF hz;rw[Xs J,Xs ((WM hz).trans J)]
  cases s with
  |tags M=>rfl
  |pair a b=>
   obtain⟨L,G,_⟩:=h.at J;show 1+_+_=1+_+_;rw[US h x n a L,US h x n b G]
theorem XI(h:KK top c d Z):∀(n m:Nat)(y:Str),y∈Z.map (·.1)->d y<n->d y<m->Wq Z n y=Wq Z m y
 |0,_,_,_,h1,_=>Zr h1<|Zw _
 |_+1,0,_,_,_,h2=>Zr h2<|Zw _
 |n+1,m+1,y,hy,h1,h2=>by
  obtain⟨s,J⟩:=UF hy;have M:=h.at J;rw[Xs J,Xs J]
  cases s with
  |tags N=>rfl
  |pair a b=>
   obtain⟨L,G,B,T,R,O⟩:=M;have E:=jr (d a)<|d b;have D:=jm (d a)<|d b;show 1+_+_=1+_+_;rw[XI h n m a L (by omega) (by omega),XI h n m b G (by omega) (by omega)]
structure KA6 where
 t:Addr
 dx:Addr
 sh:Addr
 wo:Addr
 he:Addr
 pd:Addr
 tk:Addr
 pk:Addr
structure KC where
 sh:List (Key×V)
 wo:List (Key×V)
 he:List (Key×V)
 pd:List (Key×V)
 tk:List (Key×V)
 pk:List (List Key×V)
def TF(A:KA6):List (Str×V):=[("shapes",.ref A.sh),("worths",.ref A.wo),("heights",.ref A.he),("pairs_deep",.ref A.pd),("tag_kinds",.ref A.tk),("pair_kinds",.ref A.pk)]
def KA6.ds(A:KA6):pf:=[A.sh,A.wo,A.he,A.pd,A.tk,A.pk]
structure KD(H:Hp)(C:Addr)(A:KA6)(S:KC):Prop where
 ins:H A.t=some (.ins C A.dx (TF A))
 sh:H A.sh=some (.dK S.sh)
 wo:H A.wo=some (.dK S.wo)
 he:H A.he=some (.dK S.he)
 pd:H A.pd=some (.dK S.pd)
 tk:H A.tk=some (.dK S.tk)
 pk:H A.pk=some (.dT S.pk)
 nd:A.ds.Nodup
structure KR(H:Hp)(S:KC)(ks:List (Str×Shp))(d:Str->Nat):Prop where
 ke:S.sh.map (·.1)=ks.map (λk=>Sum.inr k.1)
 sh:∀y s,Vf ks y=some s->∃v,VB S.sh (Sum.inr y)=some v/\Has H v s.dat
 wo:∀y∈ks.map (·.1),∃l xs,VB S.wo (Sum.inr y)=some (.ref l)/\H l=some (.lst xs)/\HasL H xs ((Y2 ks 3 y).map W.dat)
 he:∀y∈ks.map (·.1),VB S.he (Sum.inr y)=some (.int (Wq ks 3 y:Nat))
 pd:∀y∈ks.map (·.1),VB S.pd (Sum.inr y)=some (.int (d y:Nat))
 tk:∀x:Str,VB S.tk (Sum.inr x)=(JD ks x).map V.str
 pk:∀a b:Str,VB S.pk [Sum.inr a,Sum.inr b]=(Vk ks a b).map V.str
 ln:S.sh.length<=4*ks.length/\S.wo.length<=4*ks.length/\S.he.length<=4*ks.length/\S.pd.length<=4*ks.length/\S.tk.length<=4*ks.length/\S.pk.length<=4*ks.length
def KI(H:Hp)(C t:Addr)(ks:pF)(d:pG):Prop:=∃A S,A.t=t/\KD H C A S/\KR H S ks d
def KD.mono(k:KD H C A S)(e:Same H Z):KD Z C A S:=⟨e _ _ k.ins,e _ _ k.sh,e _ _ k.wo,e _ _ k.he,e _ _ k.pd,e _ _ k.tk,e _ _ k.pk,k.nd⟩
def TL(H H':Hp):Prop:=(∀b Z,H b=some (.tup Z)->H' b=some (.tup Z))/\∀b Z,H b=some (.lst Z)->H' b=some (.lst Z)
def Same.tl(e:Same H J):TL H J:=⟨λb Z h=>e _ _ h,λb Z h=>e _ _ h⟩
def TL.trans(a:TL H G)(b:TL G J):TL H J:=⟨λc Z h=>b.1 _ _<|a.1 _ _ h,λc Z h=>b.2 _ _<|a.2 _ _ h⟩
mutual
theorem Has.tl{H M:Hp}(e:TL H M):∀(d:Dat){v:V},Has H v d->Has M v d
 |.non,_,h=>by unfold Has at h |-;exact h
 |.bl _,_,h=>by unfold Has at h |-;exact h
 |.int _,_,h=>by unfold Has at h |-;exact h
 |.str _,_,h=>by unfold Has at h |-;exact h
 |.tup ds,_,h=>by
  unfold Has at h |-;obtain⟨a,Z,L,G,J⟩:=h;exact⟨a,Z,L,e.1 _ _ G,HasL.tl e ds J⟩
 |.lst ds,_,h=>by
  unfold Has at h |-;obtain⟨a,Z,L,G,J⟩:=h;exact⟨a,Z,L,e.2 _ _ G,HasL.tl e ds J⟩
theorem HasL.tl{H G:Hp}(e:TL H G):∀(Z:pE){J:px},HasL H J Z->HasL G J Z
 |[],[],h=>by unfold HasL;trivial
 |[],_::_,h=>by unfold HasL at h;exact h.elim
 |_::_,[],h=>by unfold HasL at h;exact h.elim
 |d::Z,x::J,h=>by
  unfold HasL at h |-;exact⟨Has.tl e d h.1,HasL.tl e Z h.2⟩
end
def KR.tl(k:KR H S L d)(e:TL H N):KR N S L d:=
 ⟨k.ke,λy s h=>let⟨v,J,Z⟩:=k.sh y s h;⟨v,J,Has.tl e _ Z⟩,λy h=>let⟨l,G,J,Z,M⟩:=k.wo y h;⟨l,G,J,e.2 _ _ Z,HasL.tl e _ M⟩,k.he,k.pd,k.tk,k.pk,k.ln⟩
def KI.mono(k:KI H C t Z d)(e:Same H M):KI M C t Z d:=by
 obtain⟨A,S,L,G,J⟩:=k;exact⟨A,S,L,G.mono e,J.tl e.tl⟩
def UR(x:Str)(Z:kZ):inV (.str x) (Z.map V.str)=decide (x∈Z):=by
 induction Z with
 |nil=>rfl
 |cons t Z ih=>
  have e:inV (.str x) ((t::Z).map V.str)=((t==x) || inV (.str x) (Z.map V.str)):=rfl;rw[e,ih]
  by_cases h:t=x
  .subst h;simp
  .have h':¬x=t:=λq=>h q.symm
   simp[h,h']
def Jx(Z:kZ):(Z.map V.str).all UJ=true:=by
 induction Z with
 |nil=>rfl
 |cons t Z ih=>simp only[ZV,qU,ih];rfl
structure KCl(K:W.Frag)(C:Addr):Prop where
 cl:Cls K C
 sh:VH K C "shapes"
 wo:VH K C "worths"
 he:VH K C "heights"
 pd:VH K C "pairs_deep"
 tk:VH K C "tag_kinds"
 pk:VH K C "pair_kinds"
def FZ(A:KA6):(TF A).lookup ("shapes":Str)=some (V.ref A.sh):=rfl
def zO(A:KA6):(TF A).lookup ("worths":Str)=some (V.ref A.wo):=rfl
def vC(A:KA6):(TF A).lookup ("heights":Str)=some (V.ref A.he):=rfl
def vA(A:KA6):(TF A).lookup ("pairs_deep":Str)=some (V.ref A.pd):=rfl
def Aa(A:KA6):(TF A).lookup ("tag_kinds":Str)=some (V.ref A.tk):=rfl
def y9(A:KA6):(TF A).lookup ("pair_kinds":Str)=some (V.ref A.pk):=rfl
def WL(k:KD H C A S)(r:KR H S Z d)(h:Vf Z y=some s):∃v,Vi H A.sh (.str y) (some v)/\Has H v s.dat:=by
 obtain⟨v,G,J⟩:=r.sh y s h;exact⟨v,by rw[<-G];exact Vi.k (k:=Sum.inr y) k.sh,J⟩
end L2
namespace K4
open PySem L2
section
variable{f g C:Addr}
def XA(C:Addr):Sp:=λG H Q _=>∃(t:Addr)(J:pF)(d:pG),G=[.ref t]/\KI H C t J d/\∀l Z,Same H Z->H l=none->Z l=some (.lst<|J.map λk=>V.str k.1)->Q (.ref l) Z
def OP:Yi ["self"] ["self"] (Ye BY):=Y4
def KW(B:Blt L)(T:KCl K C)(F:Fun K "names" "Kinds.names" BY f O):Yf P w K L base CX0 (n+1) f O ["self"] (XA C):=by
 refine F.oq OP λR A Z s H D Q E U h=>?_;obtain⟨t,I,d,rfl,⟨X,S,rfl,J,N⟩,q⟩:=h;exists _,Yb<|Yn<|Ve (U5 rfl) rfl B.list JU (pa1<|Yt (pv 0) rfl);refine⟨C,_,_,_,J.ins,T.cl,T.sh,FZ _,_,_,Y,J.sh,λl G=>?_⟩;refine q l _ (Yu G _) G ?_;rw[Yh];have e:(S.sh.map λM=>kV M.1)=(S.sh.map (·.1)).map kV:=by rw[vm];rfl
 rw[e,N.ke,vm]
 rfl
def WH(C:Addr):Sp:=λJ H Q _=>∃(t:Addr)(Z:pF)(d:pG)(y:Str)(s:Shp),J=[.ref t,.str y]/\KI H C t Z d/\Vf Z y=some s/\∀v,Has H v s.dat->Q v H
def E8:Yi ["self","kind"] ["self","kind"] (Ye Gd):=Y4
def B0(T:KCl K C)(F:Fun K "shape_of" "Kinds.shape_of" Gd f B):Yf P w K U base CX0 (n+1) f B ["self","kind"] (WH C):=by
 refine F.oq E8 λD A Z s H I Q E N h=>?_;obtain⟨t,X,d,y,s,rfl,⟨j,S,rfl,J,G⟩,M,q⟩:=h;have L:=V7 N;obtain⟨v,R,O⟩:=WL J G M;exists _,Yb<|Yn<|Vt L (Yt (pv 0) rfl) (pv 1) λ_ _=>rfl;exact⟨C,_,_,_,J.ins,T.cl,T.sh,FZ _,v,R,q v O⟩
def GU(C:Addr):Sp:=λJ H Q _=>∃(t:Addr)(Z:pF)(d:pG)(x:Str),J=[.ref t,.str x]/\KI H C t Z d/\Q (((JD Z x).map V.str).getD .non) H
def IX:Yi ["self","tag"] ["self","tag"] (Ye Rz):=Y4
def FK(T:KCl K C)(F:Fun K "kind_of_tag" "Kinds.kind_of_tag" Rz f N):Yf P w K B base CX0 (n+1) f N ["self","tag"] (GU C):=by
 refine F.oq IX λO A Z s H R Q E M h=>?_;obtain⟨t,D,d,x,rfl,⟨I,S,rfl,J,G⟩,q⟩:=h;have L:=V7 M;exists _,Yb<|Yn<|Gq L (Yt (pv 0) rfl) (pv 1) ⟨rfl,rfl,rfl,rfl⟩;exact⟨C,_,_,_,J.ins,T.cl,T.tk,Aa _,.inl ⟨_,.inl J.tk⟩,_,by rw[<-G.tk x];exact Vi.k (k:=Sum.inr x) J.tk,q⟩
def Ts(C:Addr):Sp:=λG H Q _=>∃(t:Addr)(Z:pF)(d:pG)(a b:Str),G=[.ref t,.str a,.str b]/\KI H C t Z d/\∀J,Same H J->Q (((Vk Z a b).map V.str).getD .non) J
def E9:Yi ["self","one","other"] ["self","one","other"] (Ye Gf):=Y4
def B3(T:KCl K C)(F:Fun K "kind_of_pair" "Kinds.kind_of_pair" Gf f R):Yf P w K I base CX0 (n+1) f R ["self","one","other"] (Ts C):=by
 refine F.oq E9 λB A Z s H D Q E N h=>?_;obtain⟨t,U,d,a,b,rfl,⟨X,S,rfl,J,L⟩,q⟩:=h;have M:=V7 N;exists _,Yb<|Yn<|Gq M (Yt (pv 0) rfl) (Yq<|pa2 (pv 1)<|pv 2) ⟨rfl,rfl,rfl,rfl⟩;refine⟨C,_,_,_,J.ins,T.cl,T.pk,y9 _,.inr ⟨_,.inl J.pk⟩,sl 2,λp O=>?_⟩;have G:=Yu O<|.tup [.str a,.str b];exact⟨_,by rw[<-L.pk a b];exact Vi.t (k:=[Sum.inr a,Sum.inr b]) (G _ _ J.pk) Yh,q _ G⟩
def Jz(C:Addr):Sp:=λL H Q _=>∃(t:Addr)(J:pF)(d:pG)(y:Str),L=[.ref t,.str y]/\KI H C t J d/\y∈J.map (·.1)/\
 ∀l G Z,Same H Z->H l=none->Z l=some (.lst G)->HasL Z G ((Y2 J 3 y).map W.dat)->Q (.ref l) Z
def BO:Yi ["self","kind"] ["self","kind"] (Ye WO):=Y4
def NG(B:Blt N)(T:KCl K C)(F:Fun K "worths_of" "Kinds.worths_of" WO f z):Yf P w K N base CX0 (n+1) f z ["self","kind"] (Jz C):=by
 refine F.oq BO λm A G s H p Q E I h=>?_;obtain⟨t,c,d,y,rfl,⟨u,S,rfl,M,O⟩,R,q⟩:=h;have D:=V7 I;obtain⟨l,J,j,X,U⟩:=O.wo y R;exists _,Yb<|Yn<|Ve Jv rfl B.list JU (pa1<|Vt D (Yt (pv 0) rfl) (pv 1) λ_ _=>rfl);refine⟨C,_,_,_,M.ins,T.cl,T.wo,zO _,_,by rw[<-j];exact Vi.k (k:=Sum.inr y) M.wo,l,J,Y,.inl<|Z3 X,λr Z=>?_⟩;have L:=Yu Z<|.lst J;exact q r J _ L Z Yh<|U.mono L
end
end K4
namespace L2
open PySem
def KFr(A:KA6)(H H':Hp):Prop:=∀b o,b∉A.ds->H b=some o->H' b=some o
def KFr.refl(A:KA6)(H:Hp):KFr A H H:=λ_ _ _ h=>h
def KFr.trans(a:KFr A H G)(b:KFr A G J):KFr A H J:=λc o Z h=>b c o Z<|a c o Z h
def Same.kfr(e:Same H Z):KFr A H Z:=λb o _ h=>e b o h
def KFr.put(a:KFr A H L)(G:x∈A.ds)(o:HO):KFr A H (upd L x o):=λb u Z h=>by
 have J:b≠x:=λz=>by rw[z]at Z;exact Z G
 rw[Yg J];exact a b u Z h
def KFr.tl(a:KFr A H O)(k:KD H C A S):TL H O:=by
 have G:∀b u,H b=some u->(∀l,u≠.dK l)->(∀l,u≠.dT l)->b∉A.ds:=λb u Z J N L=>by
  simp only[KA6.ds,Zd,jB,or_false]at L;rcases L with z|z|z|z|z|z
  .rw [z,k.sh]at Z;exact J _ (ZT Z).symm
  .rw [z,k.wo]at Z;exact J _ (ZT Z).symm
  .rw [z,k.he]at Z;exact J _ (ZT Z).symm
  .rw [z,k.pd]at Z;exact J _ (ZT Z).symm
  .rw [z,k.tk]at Z;exact J _ (ZT Z).symm
  .rw [z,k.pk]at Z;exact N _ (ZT Z).symm
 exact⟨λb M h=>a b _ (G b _ h (λl=>by intro z;cases z) (λl=>by intro z;cases z)) h,λb M h=>a b _ (G b _ h (λl=>by intro z;cases z) (λl=>by intro z;cases z)) h⟩
def KA6.apart{A:KA6}(n:A.ds.Nodup):(A.sh≠A.wo/\A.sh≠A.he/\A.sh≠A.pd/\A.sh≠A.tk/\A.sh≠A.pk)/\(A.wo≠A.he/\A.wo≠A.pd/\A.wo≠A.tk/\A.wo≠A.pk)/\(A.he≠A.pd/\A.he≠A.tk/\A.he≠A.pk)/\(A.pd≠A.tk/\A.pd≠A.pk)/\A.tk≠A.pk:=by
 simpa[KA6.ds]using n
section
def KD.put_sh(k:KD H C A S)(l:pj):KD (upd H A.sh<|.dK l) C A {S with sh:=l}:=by
 obtain⟨⟨M,L,G,J,Z⟩,_⟩:=KA6.apart k.nd;exact⟨(Yg<|Jc k.ins k.sh (by intro z;cases z)).trans k.ins,Yh,(Yg M.symm).trans k.wo,(Yg L.symm).trans k.he,(Yg G.symm).trans k.pd,(Yg J.symm).trans k.tk,(Yg Z.symm).trans k.pk,k.nd⟩
def KD.put_wo(k:KD H C A S)(l:pj):KD (upd H A.wo<|.dK l) C A {S with wo:=l}:=by
 obtain⟨⟨M,_⟩,⟨L,G,J,Z⟩,_⟩:=KA6.apart k.nd;exact⟨(Yg<|Jc k.ins k.wo (by intro z;cases z)).trans k.ins,(Yg M).trans k.sh,Yh,(Yg L.symm).trans k.he,(Yg G.symm).trans k.pd,(Yg J.symm).trans k.tk,(Yg Z.symm).trans k.pk,k.nd⟩
def KD.put_he(k:KD H C A S)(l:pj):KD (upd H A.he<|.dK l) C A {S with he:=l}:=by
 obtain⟨⟨_,M,_⟩,⟨L,_⟩,⟨G,J,Z⟩,_⟩:=KA6.apart k.nd;exact⟨(Yg<|Jc k.ins k.he (by intro z;cases z)).trans k.ins,(Yg M).trans k.sh,(Yg L).trans k.wo,Yh,(Yg G.symm).trans k.pd,(Yg J.symm).trans k.tk,(Yg Z.symm).trans k.pk,k.nd⟩
def KD.put_pd(k:KD H C A S)(l:pj):KD (upd H A.pd<|.dK l) C A {S with pd:=l}:=by
 obtain⟨⟨_,_,M,_⟩,⟨_,L,_⟩,⟨G,_⟩,⟨J,Z⟩,_⟩:=KA6.apart k.nd;exact⟨(Yg<|Jc k.ins k.pd (by intro z;cases z)).trans k.ins,(Yg M).trans k.sh,(Yg L).trans k.wo,(Yg G).trans k.he,Yh,(Yg J.symm).trans k.tk,(Yg Z.symm).trans k.pk,k.nd⟩
def KD.put_tk(k:KD H C A S)(l:pj):KD (upd H A.tk<|.dK l) C A {S with tk:=l}:=by
 obtain⟨⟨_,_,_,M,_⟩,⟨_,_,L,_⟩,⟨_,G,_⟩,⟨J,_⟩,Z⟩:=KA6.apart k.nd;exact⟨(Yg<|Jc k.ins k.tk (by intro z;cases z)).trans k.ins,(Yg M).trans k.sh,(Yg L).trans k.wo,(Yg G).trans k.he,(Yg J).trans k.pd,Yh,(Yg Z.symm).trans k.pk,k.nd⟩
end
def UL{α:Type}{l:List α}{x a:α}(h:l[i]?=some a):x∈l.take (i+1)↔x∈l.take i\/x=a:=by
 rw[take_snoc h,ZX,ZQ]
end L2
namespace K4
open PySem L2
section
variable{f g C:Addr}
def BH(C:Addr):Sp:=λL H Q _=>∃(A:KA6)(S:KC)(y:Str)(l:Addr)(Z:kZ),L=[.ref A.t,.str y,.ref l]/\KD H C A S/\H l=some (.tup<|Z.map V.str)/\1<=Z.length/\Z.length<=4/\Wds 65 Z/\(∀x∈Z,VB S.tk (Sum.inr x)=none)/\
 S.tk.length<=100/\S.wo.length<=100/\S.he.length<=100/\S.pd.length<=100/\
 ∀G J r,KFr A H G->KD G C A ⟨S.sh,putK S.wo (Sum.inr y)<|.ref r,putK S.he (Sum.inr y)<|.int 1,putK S.pd (Sum.inr y)<|.int 0,J,S.pk⟩->
  (∀x:Str,VB J (Sum.inr x)=if x∈Z then some (.str y)else VB S.tk (Sum.inr x))->J.length<=S.tk.length+4->G r=some (.lst (.non::Z.map V.str))->Q .non G
def IV:Yi ["self","name","tags","tag"] ["self","name","tags"] (Ye Id):=Y4
def O0(B:Blt mg)(T:KCl K C)(F:Fun K "take_tags" "Kinds.take_tags" Id f fd)(hM:mg "MOST_TAGS"=some u)(rM:RelV (.int 4) u)(G:Yf P w K mg base CX0 n g gd ["text"] (Us 65))(bG:Binds K gd ["text"] [])(kG:W.keepIn K (.ref g)=true)(mG:mg "is_tag"=some (.ref g)):Yf P w K mg base CX0 (n+1) f fd ["self","name","tags"] (BH C):=by
 refine F.oq IV λO1 A J2 s H vs Q E hr h=>?_;obtain⟨D,S,y,l,J,rfl,kd,hl,l1,l4,wt,tn,b1,b2,b3,b4,q⟩:=h;have t:=V7 hr;refine⟨_,YZ (Y5 (JX<|Gn Xp Xp Yc (VF Y8 rfl B.len Zu (pa1<|pv 2))<|Ja rfl hM rM) (Yb JV) Yo)
  (YZ (V5 Zv rfl (Ub<|pv 2) (Yj 3 IV.nd)
   (YZ (Y5 (JX<|JS<|JF G hr rfl mG kG bG .nil Y1 (pa1<|pv 3)) (Yb JV) Yo)
   (YZ (Y5 (Jh<|U0 t (pv 3)<|Yt (pv 0) rfl) (Yb JV) Yo)
   (Yb<|Vs t (Yt (pv 0) rfl) (pv 3) (pv 1) rfl))))
  (YZ (Vs t (Yt (pv 0) rfl) (pv 1) (VE KO (Vg<|pa1 JJ)<|Ve Jv rfl B.list JU (pa1<|pv 2)) rfl)
  (YZ (Vs t (Yt (pv 0) rfl) (pv 1) Yc rfl)
  (Yb<|Vs t (Yt (pv 0) rfl) (pv 1) Yc rfl)))),?_⟩
 show let a:=_;let b:=Yk _ a;let c:=Yk _ b;let d:=_;let e:=_;let f:=Yk (VG _ e _) d;let g:=_;let h:=Yk (VG _ g _) f;let i:=Yk (UX _ _ h) c;let j:=_;Yk (VG _ j _) i _ _ _
 intros
 have lt:(J.map V.str).length=J.length:=ZA _;exists l,_,Y,.inr<|Z2 hl,_,rfl;refine VP (by simp;omega) ?_;exists _,Y;refine Y6 (by simp;omega) ?_;exists ⟨_,Z2 hl⟩
 let I:pB:=λi U R=>KFr D H R/\∃L z,KD R C D {S with tk:=L}/\(∀x:Str,VB L (Sum.inr x)=if x∈J.take i then some (.str y)else VB S.tk (Sum.inr x))/\L.length<=S.tk.length+i/\R l=some (.tup<|J.map V.str)/\
  U=[some (.ref D.t),some<|.str y,some<|.ref l,z]
 refine TH (xs:=J.map V.str) I ⟨KFr.refl _ _,S.tk,_,kd,λx=>by simp,ZG _,hl,Y⟩ ?_ ?_ ?_
 .rintro i U R _ ⟨_,L,z,_,_,_,hl',_⟩
  exact Z2 hl'
 .rintro BB RR i v U R hv ⟨fr,L,z,kd',tv,tl,hl',rfl⟩
  rw[ZH]at hv
  cases hx:J[i]? with
  |none=>rw[hx]at hv;cases hv
  |some x=>
   rw[hx]at hv;cases hv;have mx:x∈J:=ZJ hx
   have nx:x∉J.take i:=λhm=>by
    have q':(J.take i++[x]).Nodup:=by rw[<-take_snoc hx];exact wt.nd.sublist<|jg _ _
    exact(jt.mp q').2.2 x hm x (by simp) rfl
   have M2:=(ZF.mp hx).1;obtain⟨w1,w8⟩:=wt.len x mx;refine⟨x,Y,w1,w8,wt.abc x mx,λH2 s2=>⟨_,Y,?_⟩⟩;refine Y6 (by simp) ?_;have Z:=kd'.mono s2
   have gx:Vi H2 D.tk (.str x) none:=by
    have e:=tv x;rw[Zq nx,tn x mx]at e;rw[<-e];exact Vi.k (k:=Sum.inr x) Z.tk
   exists C,_,_,_,Z.ins,T.cl,T.tk,Aa _,_,gx,_,Y;refine Y6 (by simp) ?_;refine⟨C,_,_,_,Z.ins,T.cl,T.tk,Aa _,_,UU.k (k:=Sum.inr x) Z.tk<|Yv (by show L.length<=1000;omega),?_⟩;have o:=s2 _ _ hl';refine⟨(fr.trans s2.kfr).put (by simp[KA6.ds]) _,putK L (Sum.inr x)<|.str y,_,Z.put_tk _,λX=>?_,?_,?_,rfl⟩
   .rw [V8]
    by_cases e:X=x
    .subst e
     rw[Zp rfl,Zp ((UL hx).mpr<|.inr rfl)]
    .rw [Zq (λz=>e<|Sum.inr.inj z),tv X]
     have:(X∈J.take (i+1))↔X∈J.take i:=⟨λz=>((UL hx).mp z).resolve_right e,λz=>(UL hx).mpr<|.inl z⟩
     by_cases m:X∈J.take i
     .rw [Zp m,Zp (this.mpr m)]
     .rw [Zq m,Zq (λz=>m<|this.mp z)]
   .have:=Vd L (Sum.inr x)<|.str y;omega
   .rw [Yg (Jc o Z.tk (by intro z;cases z))];exact o
 .rintro U R ⟨fr,L,z,kd',tv,tl,hl',rfl⟩
  rw[lt]at tl;rw[Zg (by omega)]at tv;refine⟨sl 1,λp1 r=>⟨l,_,Y,.inr<|Z2<|(Yu r _) _ _ hl',λp2 p=>?_⟩⟩;refine⟨p1,p2,_,_,Y,Y,(Yg<|Ya Yh p).trans Yh,Yh,Zh (Yv (by simp;omega)),λM G2=>?_⟩;have sx:Same R _:=((Yu r<|.lst [V.non]).trans<|Yu p<|.lst<|J.map V.str).trans<|Yu G2<|.lst<|[V.non]++ J.map V.str;have hp:upd (upd (upd R p1<|.lst [V.non]) p2<|.lst<|J.map V.str) M (.lst<|[V.non]++ J.map V.str) M=some (.lst (.non::J.map V.str)):=Yh;generalize upd (upd (upd R p1<|.lst [V.non]) p2<|.lst<|J.map V.str) M (.lst<|[V.non]++ J.map V.str)=H2 at sx hp |-;have Z:=kd'.mono sx;refine⟨C,_,_,_,Z.ins,T.cl,T.wo,zO _,_,UU.k (k:=Sum.inr y) Z.wo<|Yv (by show S.wo.length<=1000;omega),?_⟩;have O:=Z.put_wo<|putK S.wo (Sum.inr y)<|.ref M;have G3:upd H2 D.wo (.dK<|putK S.wo (Sum.inr y)<|.ref M) M=some (.lst (.non::J.map V.str)):=by rw[Yg (Jc hp Z.wo (by intro z;cases z))];exact hp
  refine⟨C,_,_,_,O.ins,T.cl,T.he,vC _,_,UU.k (k:=Sum.inr y) O.he<|Yv (by show S.he.length<=1000;omega),?_⟩;have N:=O.put_he<|putK S.he (Sum.inr y)<|.int 1;refine⟨C,_,_,_,N.ins,T.cl,T.pd,vA _,_,UU.k (k:=Sum.inr y) N.pd<|Yv (by show S.pd.length<=1000;omega),?_⟩;have G1:=N.put_pd<|putK S.pd (Sum.inr y)<|.int 0;refine q _ L M ?_ G1 tv (by omega) ?_
  .exact ((((fr.trans sx.kfr).put (by simp[KA6.ds]) _).put (by simp[KA6.ds]) _).put (by simp[KA6.ds]) _)
  .have h3:=G3
   have h4:upd (upd H2 D.wo<|.dK<|putK S.wo (Sum.inr y)<|.ref M) D.he (.dK<|putK S.he (Sum.inr y)<|.int 1) M=some (.lst (.non::J.map V.str)):=by rw[Yg (Jc h3 O.he (by intro z;cases z))];exact h3
   rw[Yg (Jc h4 N.pd (by intro z;cases z))];exact h4
end
end K4
namespace L2
open PySem
end L2
namespace K4
open PySem L2
end K4
namespace L2
open PySem
def Ms{L:pF}(e:Z.map (·.1)=L.map (λk=>(Sum.inr k.1:Key)))(h:y∉L.map (·.1)):VB Z (Sum.inr y)=none:=by
 unfold VB
 cases q:Z.find? λJ=>decide (J.1=Sum.inr y)with
 |none=>rfl
 |some J=>
  have m:=vp q;have M:=List.find?_some q;have z:J.1=Sum.inr y:=Zt M;have G:(Sum.inr y:Key)∈Z.map (·.1):=ZW.mpr ⟨J,m,z⟩;rw[e]at G;obtain⟨k,N,O⟩:=ZW.mp G;exact Zr (ZW.mpr ⟨k,N,Sum.inr.inj O⟩) h
def UI{Z:pF}{s:Shp}(h:z∈(Z++[(y,s)]).map (·.1))(n:z≠y):z∈Z.map (·.1):=by
 rw[ZK,ZX]at h;rcases h with h|h
 .exact h
 .exact Zr (ZQ.mp h) n
def KR.snoc(k:KR H S Z d)(t:TL H A)(L:KK 30 c d Z)(P:KK1 30 c d (Z.map (·.1)) y s)(E:y∉Z.map (·.1))(M:S'.sh=putK S.sh (Sum.inr y) v)(hv:Has A v s.dat)(R:S'.wo=putK S.wo (Sum.inr y) (.ref r))(hr:∃D,A r=some (.lst D)/\HasL A D ((wOf Z 3 s).map W.dat))(B:S'.he=putK S.he (Sum.inr y) (.int (hOf Z 3 s:Nat)))(T:S'.pd=putK S.pd (Sum.inr y) (.int (d y:Nat)))(C:∀x:Str,VB S'.tk (Sum.inr x)=if JK x s=true then some (.str y)else VB S.tk (Sum.inr x))(i:S'.tk.length<=S.tk.length+4)(I:∀x,JK x s=true->JD Z x=none)(X:∀a b:Str,VB S'.pk [Sum.inr a,Sum.inr b]=if JB a b s=true then some (.str y)else VB S.pk [Sum.inr a,Sum.inr b])(h:S'.pk.length<=S.pk.length+4)(U:∀a b,JB a b s=true->Vk Z a b=none):
  KR A S' (Z++[(y,s)]) d:=by
 have Q:=k.tl t;have j:=Ms k.ke E
 have hw:Y2 (Z++[(y,s)]) 3 y=wOf Z 3 s:=by
  rw[X6 (Gc E)]
  cases s with
  |tags m=>rfl
  |pair a b=>
   obtain⟨O,N,w,u,f,p⟩:=P;have o:=jr (d a)<|d b;have l:=jm (d a)<|d b;show(W.non::_)=(W.non::_);rw[Jm L _ 2 a O,Jm L _ 2 b N,UC L 2 3 a O (by omega)<|by omega,UC L 2 3 b N (by omega) (by omega)]
 have hh:Wq (Z++[(y,s)]) 3 y=hOf Z 3 s:=by
  rw[Xs (Gc E)]
  cases s with
  |tags m=>rfl
  |pair a b=>
   obtain⟨O,N,w,u,f,p⟩:=P;have o:=jr (d a)<|d b;have l:=jm (d a)<|d b;show 1+_+_=1+_+_;rw[US L _ 2 a O,US L _ 2 b N,XI L 2 3 a O (by omega)<|by omega,XI L 2 3 b N (by omega) (by omega)]
 have F:∀{z:Str},z≠y->¬(Sum.inr z:Key)=Sum.inr y:=λn q=>n<|Sum.inr.inj q;obtain⟨b1,b2,b3,b4,b5,b6⟩:=k.ln;exists ?_,λz g G=>?_,λz G=>?_,λz G=>?_,λz G=>?_,λx=>?_,λa b=>?_
 .rw [M,putK_new v j,ZK,ZK,k.ke];rfl
 .rw [M,V8]
  by_cases e:z=y
  .subst e
   rw[Gc E]at G;cases G;rw[Zp rfl];exact⟨v,Y,hv⟩
  .rw [Zq (F e)]
   have J:=UI (ZW.mpr ⟨_,Xl G,rfl⟩) e;rw[WM J]at G;exact Q.sh z g G
 .rw [R,V8]
  by_cases e:z=y
  .subst e
   rw[Zp rfl,hw];obtain⟨D,g1,g2⟩:=hr;exact⟨r,D,Y,g1,g2⟩
  .rw [Zq (F e)]
   have J:=UI G e;rw[Jm L _ 3 z J];exact Q.wo z J
 .rw [B,V8]
  by_cases e:z=y
  .subst e
   rw[Zp rfl,hh]
  .rw [Zq (F e)]
   have J:=UI G e;rw[US L _ 3 z J];exact k.he z J
 .rw [T,V8]
  by_cases e:z=y
  .subst e
   rw[Zp rfl]
  .rw [Zq (F e)]
   exact k.pd z<|UI G e
 .rw [C x]
  have e:JD (Z++[(y,s)]) x=(JD Z x).or (if JK x s=true then some y else none):=by
   unfold JD;rw[XM]
   cases Z.find? λk=>JK x k.2 with
   |some k=>rfl
   |none=>
    show Option.map _ (if JK x s=true then some (y,s)else none)=_;cases JK x s <;> rfl
  rw[e]
  cases hx:JK x s with
  |true=>rw[I x hx];rfl
  |false=>
   rw[k.tk x];cases JD Z x <;> rfl
 .rw [X a b]
  have e:Vk (Z++[(y,s)]) a b=(Vk Z a b).or (if JB a b s=true then some y else none):=by
   unfold Vk;rw[XM]
   cases Z.find? λk=>JB a b k.2 with
   |some k=>rfl
   |none=>
    show Option.map _ (if JB a b s=true then some (y,s)else none)=_;cases JB a b s <;> rfl
  rw[e]
  cases hx:JB a b s with
  |true=>rw[U a b hx];rfl
  |false=>
   rw[k.pk a b];cases Vk Z a b <;> rfl
 .rw [ZL,vc,M,R,B,T]
  have:=Vd S.sh (Sum.inr y) v;have:=Vd S.wo (Sum.inr y)<|.ref r;have:=Vd S.he (Sum.inr y)<|.int (hOf Z 3 s:Nat);have:=Vd S.pd (Sum.inr y)<|.int (d y:Nat);exact⟨by omega,by omega,by omega,by omega,by omega,by omega⟩
end L2
namespace K4
open PySem L2
section
variable{f g C gt gp gn:Addr}
def Rl(C:Addr):Sp:=λM H Q _=>∃(A:KA6)(S:KC)(y:Str)(v:V)(s:Shp)(Z:pF)(c d:pG),M=[.ref A.t,.str y,v]/\KD H C A S/\KR H S Z d/\KK 30 c d Z/\KK1 30 c d (Z.map (·.1)) y s/\y∉Z.map (·.1)/\
 (1<=y.length/\y.length<=8/\∀c∈y.cps.toList,97<=c/\c<97+26)/\(∃G,s=.tags G/\Wds 65 G)/\(∀x,JK x s=true->JD Z x=none)/\(∀a b,JB a b s=true->Vk Z a b=none)/\Has H v s.dat/\Z.length<=6/\
 ∀J L,KFr A H J->KD J C A L->KR J L (Z++[(y,s)]) d->Q .non J
def y6(A:KA6):(TF A).lookup ("take_tags":Str)=none:=rfl
def OS:Yi ["self","name","shape"] ["self","name","shape"] (Ye Bb):=Y4
def KZ(B:Blt D)(T:KCl K C)(F:Fun K "take" "Kinds.take" Bb f fd)(GN:Yf P w K D base CX0 n gn nd' ["text"] (Us 97))(bN:Binds K nd' ["text"] [])(kN:W.keepIn K (.ref gn)=true)(mN:D "is_name"=some (.ref gn))(GT:Yf P w K D base CX0 n gt td ["self","name","tags"] (BH C))(bT:Binds K td ["self","name","tags"] [])(mT:VN K C "take_tags" gt):
  Yf P w K D base CX0 (n+1) f fd ["self","name","shape"] (Rl C):=by
 refine F.oq OS λG1 A X s H vs Q E e h=>?_;obtain⟨G,S,y,v,s,ks,c,d,rfl,kd,I,kk,k1,ny,⟨y1,y8,yc⟩,⟨L,rfl,wt⟩,N,j,hv,k6,q⟩:=h;have hu:=V7 e;refine⟨_,YZ (Y5 (JX<|JS<|JF GN e rfl mN kN bN .nil Y1 (pa1<|pv 1)) (Yb JV) Yo)
  (YZ (Y5 (Jh<|U0 hu (pv 1)<|Yt (pv 0) rfl) (Yb JV) Yo)
  (YZ (Y5 (PW.pt<|Br (Yp Vl (VF Y8 rfl B.len Zu (pa1<|pv 2)) Yc<|Yz _)<|MC<|Yp Vl (Ys Yy (pv 2) Yc) Y0<|Yz _)
   (Yb<|VW<|Y3 (pv 0) T.cl mT GT e bT .nil Y1<|pa2 (pv 1)<|Ys Yy (pv 2) Yc)
   (Yb JV))
  (Yb<|Vs hu (Yt (pv 0) rfl) (pv 1) (pv 2) rfl))),?_⟩
 show let a:=_;let b:=_;let f:=Yk (VG _ b _) a;let g:=_;let h:=Yk (VG _ g _) f;let i:=_;Yk (VG _ i _) h _ _ _
 intros
 refine⟨y,Y,y1,y8,yc,λH1 R=>⟨_,Y,?_⟩⟩;refine Y6 (by simp) ?_;have J:=kd.mono R;have z:=I.tl R.tl;have O:=hv.mono R;have gn:Vi H1 G.sh (.str y) none:=by rw[<-Ms I.ke ny];exact Vi.k (k:=Sum.inr y) J.sh
 exists C,_,_,_,J.ins,T.cl,T.sh,FZ _,_,gn,_,Y;refine Y6 (by simp) ?_;obtain⟨b1,b2,b3,b4,b5,b6⟩:=I.ln;obtain⟨p,l,rfl,o,hl⟩:=G5 O;have l2:([V.str "tags",V.ref l]:px).length=2:=rfl;exists p,_,Y,.inr<|Z2 o,rfl,_,rfl;refine VP (by simp) ?_;exists _,_,Z2 o,Y,Y,_,Y;refine VP (by simp) ?_;obtain⟨t1,t4,_,t0,_⟩:=k1;refine⟨_,_,J.ins,y6 _,_,_,Z2 o,Y,G,S,y,l,L,Y,J,hl,t1,t4,wt,λx hx=>?_,by omega,by omega,by omega,by omega,λH2 J2 r f2 Z tv tl u=>?_⟩
 .rw [I.tk x,N x (by unfold JK;exact decide_eq_true hx)];rfl
 .have tl2:=f2.tl J
  refine⟨C,_,_,_,Z.ins,T.cl,T.sh,FZ _,_,UU.k (k:=Sum.inr y) Z.sh<|Yv (by show S.sh.length<=1000;omega),?_⟩;have t:=Z.put_sh<|putK S.sh (Sum.inr y)<|.ref p;have f3:=f2.put (x:=G.sh) (by simp[KA6.ds])<|.dK<|putK S.sh (Sum.inr y)<|.ref p;have M:=tl2.trans<|(KFr.put (KFr.refl G H2) (x:=G.sh) (by simp[KA6.ds])<|.dK<|putK S.sh (Sum.inr y)<|.ref p).tl Z;have U:=(KFr.put (KFr.refl G H2) (x:=G.sh) (by simp[KA6.ds])<|.dK<|putK S.sh (Sum.inr y)<|.ref p).tl Z;refine q _ _ (R.kfr.trans f3) t<|KR.snoc (v:=.ref p) (r:=r) z M kk ⟨t1,t4,by assumption,t0,by assumption⟩ ny rfl (Has.tl M _ O) rfl ⟨_,U.2 _ _ u,?_⟩ rfl (by rw[t0];rfl) (λx=>?_) tl N (λa b=>rfl) (vR _ _) j
  .show HasL _ (V.non::L.map V.str) ((W.non::L.map W.tag).map W.dat)
   exact Z4 PY<|Mx L
  .rw [tv x]
   unfold JK
   by_cases m:x∈L
   .rw [Zp m,Zp (decide_eq_true m)]
   .rw [Zq m,Zq (by simp[m])]
end
end K4
namespace L2
open PySem
def Je(L:H x=some (.ins C Z fs))(G:H p=none):
  upd (upd H p o) x (.ins C Z<|VX f (.ref p) fs) x=some (.ins C Z<|VX f (.ref p) fs)/\upd (upd H p o) x (.ins C Z<|VX f (.ref p) fs) p=some o/\p≠x/\∀b u,b≠x->H b=some u->upd (upd H p o) x (.ins C Z<|VX f (.ref p) fs) b=some u:=by
 have J:p≠x:=(Ya L G).symm;exact⟨Yh,(Yg J).trans Yh,J,λb u M h=>by rw[Yg M,Yg (Ya h G)];exact h⟩
def KK.take(h:KK top c d J)(i:Nat):KK top c d (J.take i):=λj y s e=>by
 have Z:j<i:=by
  have:=(ZF.mp e).1;rw[ZN]at this;omega
 rw[jp,Zp Z]at e;have q:=h j y s e;rw[List.take_take,jf (Zh Z)];exact q
def Pf{i j a b:Nat}(h:4*i+a=4*j+b)(J:a<4)(Z:b<4):i=j:=by omega
def KG.apart(g:KG M){i j:Nat}(E:M[i]?=some (y,.tags G))(D:M[j]?=some (z,.tags J))(A:x∈G)(F:x∈J):i=j:=by
 obtain⟨Z,wd,q⟩:=g.tg;obtain⟨r,X,rfl⟩:=q i y G E;obtain⟨C,B,rfl⟩:=q j z J D;obtain⟨a,O,T⟩:=vZ.mp A;obtain⟨b,N,R⟩:=vZ.mp F;rw[ZN,jz]at O N;obtain⟨Q,U⟩:=Nat.lt_min.mp O;obtain⟨P,S⟩:=Nat.lt_min.mp N;rw[List.getElem_take,List.getElem_drop]at T R;have e:Z[4*i+a]'(Nat.add_lt_of_lt_sub' U)=Z[4*j+b]'(Nat.add_lt_of_lt_sub' S):=T.trans R.symm;have L:=vV.mp wd.nd
 have I:4*i+a=4*j+b:=by
  rcases kH (4*i+a) (4*j+b)with h|h|h
  .exact Zr e (L _ _ _ _ h)
  .exact h
  .exact Zr e.symm (L _ _ _ _ h)
 exact Pf I (by omega)<|by omega
def KG.ntk(g:KG Z)(T:Z[i]?=some (y,s))(x:Str)(h:JK x s=true):JD (Z.take i) x=none:=by
 cases s with
 |pair a b=>cases h
 |tags N=>
  have R:x∈N:=Zt h;unfold JD
  cases e:(Z.take i).find? λk=>JK x k.2 with
  |none=>rfl
  |some k=>
   have m:=vp e;have q:=List.find?_some e;obtain⟨z,O⟩:=k
   cases O with
   |pair a b=>cases q
   |tags L=>
    have J:x∈L:=Zt q;obtain⟨j,M,B⟩:=vZ.mp m;have G:j<i:=by rw[ZN]at M;omega
    have D:Z[j]?=some (z,.tags L):=by
     have:=ZD M;rw[B,jp,Zp G]at this;exact this
    have:=g.apart T D R J;omega
def KG.npk(g:KG J)(N:J[i]?=some (y,s))(a b:Str)(h:JB a b s=true):Vk (J.take i) a b=none:=by
 have L:∀{Z:Shp},JB a b Z=true->Z=.pair a b:=λ{Z} h=>by
  cases Z with
  |tags D=>cases h
  |pair c e=>
   unfold JB at h;rw[ZZ]at h;rw[Zt h.1,Zt h.2]
 unfold Vk
 cases e:(J.take i).find? λk=>JB a b k.2 with
 |none=>rfl
 |some k=>
  have m:=vp e;have q:=List.find?_some e;obtain⟨z,Z⟩:=k;have B:=L h;have R:Z=.pair a b:=L q;subst B R;obtain⟨j,M,O⟩:=vZ.mp m;have G:j<i:=by rw[ZN]at M;omega
  have T:J[j]?=some (z,.pair a b):=by
   have:=ZD M;rw[O,jp,Zp G]at this;exact this
  have:=g.pr i j y z a b N T;omega
end L2
namespace K4
open PySem L2
section
variable{f g C gt:Addr}
def BJ(C:Addr):Sp:=λL H Q _=>∃(x N l:Addr)(G:px)(Z:pF)(c d:pG),L=[.ref x,.ref l]/\H x=some (.ins C N [])/\H l=some (.lst G)/\HasL H G (Z.map NQ)/\KK 30 c d Z/\(Z.map (·.1)).Nodup/\KG Z/\(∀k∈Z,∃M,k.2=.tags M)/\0<Z.length/\Z.length<=6/\
 ∀J,(∀b o,b≠x->H b=some o->J b=some o)->KI J C x Z d->Q .non J
def zP(A:KA6):(TF A).lookup ("take":Str)=none:=rfl
def BR:Yi ["self","told","name","shape"] ["self","told"] (Ye Ii):=Y4
def O7(B:Blt mg)(T:KCl K C)(F:Fun K "__init__" "Kinds.__init__" Ii f fd)(hM:mg "MOST_KINDS"=some u)(rM:RelV (.int 6) u)(GT:Yf P w K mg base CX0 n gt td ["self","name","shape"] (Rl C))(bT:Binds K td ["self","name","shape"] [])(mT:VN K C "take" gt):
  Yf P w K mg base CX0 (n+1) f fd ["self","told"] (BJ C):=by
 refine F.oq BR λcdv A T6 s H vs Q E hr h=>?_;obtain⟨x,M,l,xs,ks,c,d,rfl,hx,hl,G3,kk,nd,kg,tg,k0,k6,q⟩:=h;refine⟨_,YZ (Y5 (JX<|Gn Xp Xp Yc (VF Y8 rfl B.len Zu (pa1<|pv 1))<|Ja rfl hM rM) (Yb JV) Yo)
  (YZ (VZ (pv 0) Vp rfl) (YZ (VZ (pv 0) Vp rfl) (YZ (VZ (pv 0) Vp rfl) (YZ (VZ (pv 0) Vp rfl) (YZ (VZ (pv 0) Vp rfl) (YZ (VZ (pv 0) Iy rfl)
  (Yb (V5 Zv rfl (JM<|pv 1) (Vb (n:=2) rfl (Yl (Yj 2 BR.nd)<|Yl (Yj 3 BR.nd) VJ))
   (Yb<|VW<|Y3 (pv 0) T.cl mT GT hr bT .nil Y1<|pa2 (pv 2)<|pv 3))))))))),?_⟩
 show let a:=_;let b:=UX _ _ a;let c:=Yk _ b;let d:=Yk _ c;let e:=Yk _ d;let f:=Yk _ e;let g:=Yk _ f;let h:=Yk _ g;let i:=_;Yk (VG _ i _) h _ _ _
 intros
 have lx:=G3.length;rw[ZA]at lx;exists l,_,Y,.inl<|Z3 hl,_,rfl;refine VP (by simp;omega) ?_;exists _,Y;refine Y6 (by simp;omega) ?_;intro X J2;refine⟨x,C,M,_,Y,by rw[Yg (Ya hx J2)];exact hx,T.cl,T.sh,by decide,?_⟩;obtain⟨x1,a1,n1,r⟩:=Je (f:="shapes") (o:=.dK []) hx J2;generalize upd (upd H X<|.dK []) x (.ins C M<|VX "shapes" (.ref X) [])=H1 at x1 a1 r |-;intro p2 N;refine⟨x,C,M,_,Y,by rw[Yg (Ya x1 N)];exact x1,T.cl,T.wo,(by show 1<1000;decide),?_⟩;obtain⟨x2,a2,n2,p⟩:=Je (f:="worths") (o:=.dK []) x1 N;generalize upd (upd H1 p2<|.dK []) x (.ins C M<|VX "worths" (.ref p2)<|VX "shapes" (.ref X) [])=H2 at x2 a2 p |-;intro p3 L;refine⟨x,C,M,_,Y,by rw[Yg (Ya x2 L)];exact x2,T.cl,T.he,(by show 2<1000;decide),?_⟩;obtain⟨x3,a3,n3,k⟩:=Je (f:="heights") (o:=.dK []) x2 L;generalize upd (upd H2 p3<|.dK []) x (.ins C M<|VX "heights" (.ref p3)<|VX "worths" (.ref p2)<|VX "shapes" (.ref X) [])=H3 at x3 a3 k |-;intro p4 G;refine⟨x,C,M,_,Y,by rw[Yg (Ya x3 G)];exact x3,T.cl,T.pd,(by show 3<1000;decide),?_⟩;obtain⟨x4,a4,n4,m⟩:=Je (f:="pairs_deep") (o:=.dK []) x3 G;generalize upd (upd H3 p4<|.dK []) x (.ins C M<|VX "pairs_deep" (.ref p4)<|VX "heights" (.ref p3)<|VX "worths" (.ref p2)<|VX "shapes" (.ref X) [])=H4 at x4 a4 m |-;intro p5 J;refine⟨x,C,M,_,Y,by rw[Yg (Ya x4 J)];exact x4,T.cl,T.tk,(by show 4<1000;decide),?_⟩;obtain⟨x5,a5,n5,t⟩:=Je (f:="tag_kinds") (o:=.dK []) x4 J;generalize upd (upd H4 p5<|.dK []) x (.ins C M<|VX "tag_kinds" (.ref p5)<|VX "pairs_deep" (.ref p4)<|VX "heights" (.ref p3)<|VX "worths" (.ref p2)<|VX "shapes" (.ref X) [])=H5 at x5 a5 t |-;intro p6 Z;refine⟨x,C,M,_,Y,by rw[Yg (Ya x5 Z)];exact x5,T.cl,T.pk,(by show 5<1000;decide),?_⟩;obtain⟨x6,a6,n6,j⟩:=Je (f:="pair_kinds") (o:=.dT []) x5 Z;generalize upd (upd H5 p6<|.dT []) x (.ins C M<|VX "pair_kinds" (.ref p6)<|VX "tag_kinds" (.ref p5)<|VX "pairs_deep" (.ref p4)<|VX "heights" (.ref p3)<|VX "worths" (.ref p2)<|VX "shapes" (.ref X) [])=H6 at x6 a6 j |-
 let D:KA6:=⟨x,M,X,p2,p3,p4,p5,p6⟩
 have frame:∀b o,b≠x->H b=some o->H6 b=some o:=λb o R h=>j b o R<|t b o R<|m b o R<|k b o R<|p b o R<|r b o R h;have T4:=p _ _ n1 a1;have T3:=k _ _ n1 T4;have T2:=m _ _ n1 T3;have T1:=t _ _ n1 T2;have c16:=j _ _ n1 T1;have T0:=k _ _ n2 a2;have R8:=m _ _ n2 T0;have R7:=t _ _ n2 R8;have c26:=j _ _ n2 R7;have R6:=m _ _ n3 a3;have R1:=t _ _ n3 R6;have I9:=j _ _ n3 R1;have O1:=t _ _ n4 a4;have I8:=j _ _ n4 O1;have I7:=j _ _ n5 a5
 have T8:D.ds.Nodup:=by
  have I6:=Ya a1 N;have I5:=Ya T4 L;have I4:=Ya T3 G;have I3:=Ya T2 J;have I2:=Ya T1 Z;have I1:=Ya a2 L;have F9:=Ya T0 G;have F8:=Ya R8 J;have F7:=Ya R7 Z;have F6:=Ya a3 G;have F5:=Ya R6 J;have F4:=Ya R1 Z;have F3:=Ya a4 J;have F2:=Ya O1 Z;have F1:=Ya a5 Z;simp[KA6.ds,D,I6,I5,I4,I3,I2,I1,F9,F8,F7,F6,F5,F4,F3,F2,F1]
 have kd:KD H6 C D ⟨[],[],[],[],[],[]⟩:=⟨x6,c16,c26,I9,I8,I7,a6,T8⟩
 have T7:∀b,b∈D.ds->H b=none:=λb R=>by
  cases e:H b with
  |none=>rfl
  |some o=>
   simp only[KA6.ds,D,Zd,jB,or_false]at R;rcases R with z|z|z|z|z|z
   .subst z;rw[J2]at e;cases e
   .subst z;rw[r _ _ n2 e]at N;cases N
   .subst z;rw[p _ _ n3 (r _ _ n3 e)]at L;cases L
   .subst z;rw[k _ _ n4 (p _ _ n4<|r _ _ n4 e)]at G;cases G
   .subst z;rw[m _ _ n5 (k _ _ n5<|p _ _ n5<|r _ _ n5 e)]at J;cases J
   .subst z;rw[t _ _ n6 (m _ _ n6<|k _ _ n6<|p _ _ n6<|r _ _ n6 e)]at Z;cases Z
 have T9:l≠x:=Jc hl hx (by intro z;cases z);have M2:=frame _ _ T9 hl;have G1:TL H H6:=⟨λb ys h=>frame _ _ (Jc h hx (by intro z;cases z)) h,λb ys h=>frame _ _ (Jc h hx (by intro z;cases z)) h⟩;have D1:=HasL.tl G1 _ G3;exists ⟨_,Z3 M2⟩
 let I:pB:=λi U H'=>∃S z1 z2,KFr D H6 H'/\KD H' C D S/\KR H' S (ks.take i) d/\U=[some (.ref x),some<|.ref l,z1,z2]
 refine MZ (xs:=xs) I ⟨_,_,_,KFr.refl _ _,kd,?_,Y⟩ ?_ ?_ ?_
 .rw [qM]
  exact⟨Y,λy s e=>by simp[Vf]at e,λy hy=>by simp at hy,λy hy=>by simp at hy,λy hy=>by simp at hy,λy=>Y,λa b=>Y,by decide⟩
 .rintro i U H' _ ⟨S,z1,z2,fr,kd',kr',rfl⟩
  exact Z3<|(fr.tl kd).2 _ _ M2
 .rintro BB RR i v U H' hv ⟨S,z1,z2,fr,kd',kr',rfl⟩
  have ilt:=(ZF.mp hv).1;obtain⟨dv,O,D3⟩:=D1.get hv;rw[ZH]at O
  cases hk:ks[i]? with
  |none=>rw[hk]at O;cases O
  |some ys=>
   rw[hk]at O;cases O;obtain⟨y,sh⟩:=ys;have T5:=fr.tl kd;obtain⟨a,v2,rfl,ha,D2⟩:=LI<|Has.tl T5 _ D3;have my:y∈ks.map (·.1):=ZW.mpr ⟨_,ZJ hk,rfl⟩
   have ny:y∉(ks.take i).map (·.1):=λhm=>by
    have q':((ks.take i++[(y,sh)]).map (·.1)).Nodup:=by rw[<-take_snoc hk];exact nd.sublist<|(jg _ _).map _
    rw[ZK]at q';exact(jt.mp q').2.2 y hm y (by simp) rfl
   exists _,Z2 ha,Y;refine⟨_,_,kd'.ins,zP D,D,S,y,v2,sh,ks.take i,c,d,Y,kd',kr',kk.take i,kk i y sh hk,ny,⟨(kg.nm.len y my).1,(kg.nm.len y my).2,kg.nm.abc y my⟩,?_,kg.ntk hk,kg.npk hk,D2,by rw[ZN];omega,λH2 S2 f2 D0 G2=>?_⟩
   .obtain ⟨ts,e⟩:=tg _<|ZJ hk
    have e':sh=.tags ts:=e;subst e';exact⟨ts,Y,kg.tags<|ZJ hk⟩
   .rw [<-take_snoc hk]at G2
    exact⟨S2,_,_,fr.trans f2,D0,G2,Y⟩
 .rintro U H' ⟨S,z1,z2,fr,kd',kr',rfl⟩
  rw[Zg (by omega)]at kr';refine q H' (λb o R h=>fr b o (λhm=>?_)<|frame b o R h) ⟨D,S,rfl,kd',kr'⟩;rw[T7 b hm]at h;cases h
end
end K4
namespace L2
open PySem
def TN{α:Type}{p:α->Bool}{l:List α}{x:α}(h:(l.take i).find? p=none)(e:l[i]?=some x)(Z:p x=true):l.find? p=some x:=by
 have J:=(ZF.mp e).1;have G:l.drop i=x::l.drop (i+1):=by rw[List.drop_eq_getElem_cons J,(ZF.mp e).2]
 rw[<-List.take_append_drop i l,qg,h,G,vL,Z]
 rfl
def IT(h:Vf Z y=some s):∃i:Nat,Z[i]?=some (y,s):=vj.mp<|Xl h
def N9(g:KG Z)(h:Vf Z y=some (.tags J))(m:t∈J):JD Z t=some y:=by
 obtain⟨i,L⟩:=IT h;have G:JK t (.tags J)=true:=by unfold JK;exact decide_eq_true m
 have n:=g.ntk L t G;unfold JD at n |-
 rw[TN (by cases e:(Z.take i).find? λk=>JK t k.2 with
  |none=>rfl
  |some k=>rw[e]at n;cases n) L G]
 rfl
def NC(g:KG Z)(h:Vf Z y=some (.pair a b)):Vk Z a b=some y:=by
 obtain⟨i,G⟩:=IT h;have J:JB a b (.pair a b)=true:=by unfold JB;simp
 have n:=g.npk G a b J;unfold Vk at n |-
 rw[TN (by cases e:(Z.take i).find? λk=>JB a b k.2 with
  |none=>rfl
  |some k=>rw[e]at n;cases n) G J]
 rfl
def LG(h:Has H v (.tup [.str b,d])):∃a u,v=.ref a/\H a=some (.tup [.str b,u])/\Has H u d:=by
 obtain⟨t,R,rfl,L,M⟩:=Yr h;obtain⟨T,D,rfl,O,J⟩:=Yd M;obtain⟨G,B,rfl,N,Z⟩:=Yd J;obtain rfl:=Y9 Z;obtain rfl:=has_str O;exact⟨t,G,Y,L,N⟩
def Nw:List (Option Str)->Option (kZ)
 |[]=>some []
 |none::_=>none
 |some x::r=>(Nw r).map (x:: ·)
theorem Nv:∀Z:kZ,Nw (Z.map some)=some Z
 |[]=>rfl
 |z::Z=>by show(Nw<|Z.map some).map (z:: ·)=_;rw[Nv Z];rfl
theorem RT:∀{l:List (Option Str)},none∈l->Nw l=none
 |none::l,_=>rfl
 |some y::l,h=>by
  show(Nw l).map (y:: ·)=none;rw[RT ((Zd.mp h).resolve_left λe=>nomatch e)];rfl
theorem RS:∀{l:List (Option Str)}{Z:kZ},Nw l=some Z->l=Z.map some
 |[],_,h=>by cases h;rfl
 |none::_,_,h=>nomatch h
 |some y::l,Z,h=>by
  obtain⟨r,J,rfl⟩:=Zj.mp (show(Nw l).map (y:: ·)=some Z from h);rw[ZV,<-RS J]
theorem Ey:∀{l:List (Option Str)},none∉l->∃Z,l=List.map some Z
 |[],_=>⟨[],rfl⟩
 |none::_,h=>Zr Za h
 |some y::l,h=>let⟨Z,e⟩:=Ey (l:=l) λm=>h<|ZM _ m;⟨y::Z,by rw[e];rfl⟩
def OG:V->Option Str
 |.str y=>some y
 |_=>none
open Classical in
noncomputable def own (ks:pF) (hd:Hds) (kv:pj):Bd->List Str->Option Str
 |.tag t,_=>JD ks t
 |.name x,_=>(VB kv<|Sum.inr x).bind OG
 |.pair _ _,zs=>match zs with|[a,b]=>Vk ks a b|_=>none
 |.one _,zs=>match zs with|[z]=>(match Vf ks z with|some (.pair a _)=>some a|_=>none)|_=>none
 |.other _,zs=>match zs with|[z]=>(match Vf ks z with|some (.pair _ b)=>some b|_=>none)|_=>none
 |.choose _ ts _,zs=>match zs with|z::y::r=>if Vf ks z=some (.tags ts)/\∀u∈r,u=y then some y else none|_=>none
 |.ask f _,zs=>match hd f with|some (ps,k)=>if ps.map (·.2)=zs then some k else none|none=>none
 |.letb _ z _ _,zs=>match zs with|[a,y]=>if a=z then some y else none|_=>none
def Xe(ks:pF)(kv:pj):Bd->Prop
 |.letb x z _ _=>(VB kv<|Sum.inr x).isSome=true\/z∉ks.map (·.1)
 |_=>False
open Classical in
noncomputable def kdn (ks:pF) (hd:Hds):Nat->List (Key×V)->Bd->Option Str
 |0,_,_=>none
 |n+1,kv,b=>if Xe ks kv b then none else(Nw<|b.parts.map<|kdn ks hd n<|wth kv b).bind (own ks hd kv b)
def PR(h:Xe J Z b):kdn J G (n+1) Z b=none:=by unfold kdn;exact Zp h
def K3(h:none∈b.parts.map (kdn J G n<|wth Z b)):kdn J G (n+1) Z b=none:=by
 unfold kdn;split
 .rfl
 .rw [RT h];rfl
def Eb(h:¬Xe J Z b)(e:b.parts.map (kdn J G n<|wth Z b)=L.map some):kdn J G (n+1) Z b=own J G Z b L:=by unfold kdn;rw[Zq h,e,Nv];rfl
def NK(ns:kZ)(kv:pj):Prop:=∀q∈kv,∃(x k:Str),q=(Sum.inr x,V.str k)/\k∈ns
def HK(ns:kZ)(hd:Hds):Prop:=∀f Z k,hd f=some (Z,k)->k∈ns
def NK.wth(h:NK (J.map (·.1)) Z)(G:¬Xe J Z b):NK (J.map (·.1)) (wth Z b):=by
 cases b with
 |letb x z e g=>
  intro q L;rcases Ik L with m|rfl
  .exact h q m
  .exact ⟨x,z,rfl,Classical.not_not.mp λm=>G<|.inr m⟩
 |_=>exact h
def Nb{Z:pF}{p:Str×Shp->Bool}(h:(Z.find? p).map (·.1)=some y):y∈Z.map (·.1):=by
 obtain⟨k,J,rfl⟩:=Zj.mp h;exact ZW.mpr ⟨k,vp J,Y⟩
def NK.at(h:NK Z J)(e:VB J (Sum.inr x)=some v):∃k,v=.str k/\k∈Z:=by
 obtain⟨q,m,_,rfl⟩:=Fw e;obtain⟨_,k,rfl,G⟩:=h q m;exact⟨k,Y,G⟩
def Ot(G:KK 30 c d Z)(N:NK (Z.map (·.1)) J)(R:HK (Z.map (·.1)) T)(L:∀z∈M,z∈Z.map (·.1))(h:own Z T J b M=some y):y∈Z.map (·.1):=by
 cases b with
 |tag t=>exact Nb h
 |name x=>
  obtain⟨v,O,e⟩:=Option.bind_eq_some_iff.mp (show(VB J<|Sum.inr x).bind OG=some y from h);obtain⟨k,rfl,m⟩:=N.at O;cases e;exact m
 |pair a b=>
  unfold own at h;dsimp only at h;split at h
  .exact Nb h
  .cases h
 |one e=>
  unfold own at h;dsimp only at h;split at h
  .split at h
   .rename_i hs;cases h;exact(G.at hs).1
   .cases h
  .cases h
 |other e=>
  unfold own at h;dsimp only at h;split at h
  .split at h
   .rename_i hs;cases h;exact(G.at hs).2.1
   .cases h
  .cases h
 |choose e B D=>
  unfold own at h;dsimp only at h;split at h
  .split at h
   .cases h;exact L _<|by simp
   .cases h
  .cases h
 |ask f E=>
  unfold own at h;dsimp only at h;split at h
  .split at h
   .rename_i hf _;cases h;exact R _ _ _ hf
   .cases h
  .cases h
 |letb x z e g=>
  unfold own at h;dsimp only at h;split at h
  .split at h
   .cases h;exact L _<|by simp
   .cases h
  .cases h
theorem Ec(L:KK 30 c d Z)(M:HK (Z.map (·.1)) G):∀(n:Nat)(J:pj)(b:Bd)(y:Str),NK (Z.map (·.1)) J->kdn Z G n J b=some y->y∈Z.map (·.1)
 |0,_,_,_,_,h=>nomatch h
 |n+1,J,b,y,nk,h=>by
  by_cases nb:Xe Z J b
  .rw [PR nb]at h;cases h
  by_cases hn:none∈b.parts.map (kdn Z G n<|wth J b)
  .rw [K3 hn]at h;cases h
  obtain⟨R,N⟩:=Ey hn;rw[Eb nb N]at h;refine Ot L nk M (λz O=>?_) h;have m:some z∈b.parts.map (kdn Z G n<|wth J b):=by rw[N];exact ZW.mpr ⟨z,O,Y⟩
  obtain⟨p,_,e⟩:=ZW.mp m;exact Ec L M n _ p z (nk.wth nb) e
def Sn(N:KG L)(F:∀e G J,b=.choose e G J->1<=J.length)(h:Kr L D M y b R):own L D M b R=some y:=by
 cases b with
 |tag t=>obtain⟨_,G,Z,T⟩:=h;exact N9 N Z T
 |name x=>obtain⟨_,Z⟩:=h;show(VB M<|Sum.inr x).bind OG=_;rw[Z];rfl
 |pair a b=>obtain⟨U,O,rfl,Z⟩:=h;exact NC N Z
 |one e=>obtain⟨z,O,rfl,Z⟩:=h;show(match Vf L z with|some (.pair a _)=>some a|_=>none)=_;rw[Z]
 |other e=>obtain⟨z,O,rfl,Z⟩:=h;show(match Vf L z with|some (.pair _ b)=>some b|_=>none)=_;rw[Z]
 |choose e G J=>
  obtain⟨z,rfl,Z,I⟩:=h;have:=F e G J rfl;obtain⟨m,E⟩:∃m,J.length=m+1:=⟨J.length-1,by omega⟩;rw[E,ji];exact Zp ⟨Z,λu B=>List.eq_of_mem_replicate B⟩
 |ask f S=>
  obtain⟨A,Z,rfl⟩:=h;unfold own;dsimp only;rw[Z];exact Zp Y
 |letb x z e g=>obtain⟨rfl,_,_⟩:=h;exact Zp Y
theorem Kd.kdn(T:KG G)(O:∀z L,Vf G z=some (.tags L)->1<=L.length):∀(n:Nat)(J:pj)(b:Bd)(y:Str),Kd G D J y b->b.dep<n->L2.kdn G D n J b=some y
 |0,_,_,_,_,h=>nomatch h
 |n+1,J,b,y,h,hn=>by
  obtain⟨Z,M,R,A⟩:=h.inv
  have E:¬Xe G J b:=by
   cases b with
   |letb x z e g=>obtain⟨_,N,I⟩:=M;exact λm=>m.elim (λm=>by rw[N]at m;cases m) λm=>m I
   |_=>exact id
  have e:b.parts.map (L2.kdn G D n<|L2.wth J b)=Z.map some:=by
   refine qh λi=>?_;rw[ZH,ZH]
   cases hp:b.parts[i]? with
   |none=>
    have:Z[i]?=none:=vW.mpr (by rw[R];exact vW.mp hp);rw[this];rfl
   |some p=>
    have S:i<Z.length:=by rw[R];exact(ZF.mp hp).1
    have B:Z[i]?=some Z[i]:=ZD S;have:=Bd.dep_mem<|ZJ hp;rw[B];exact congrArg some<|Kd.kdn T O n _ p _ (A i p _ hp B)<|by omega
  rw[Eb E e];refine Sn T (λC L X U=>?_) M;subst U;obtain⟨z,_,N,F⟩:=M;rw[F];exact O _ _ N
end L2
namespace L2
open PySem PySem.Spec PyProof.Rows
section
variable{X:Cx}{CX:CXT}{k:Nat}{E:XK}{ta ti:TE}{t:TA}
def Qw(X:Cx)(CX:CXT)(k:Nat)(E:XK)(ta:TE)(t:TA):TE:=λU H Q=>ta U H λv L=>∃(f:Addr)(G:FuncData)(J:kZ)(Z:Sp),v=.ref f/\Yf X.prog X.w X.K X.mg X.base CX k f G J Z/\W.keepIn X.K (.ref f)=true/\Binds X.K G J []/\My Z [] E t U L Q
def KE(S:PE X (.Name x p) ta)(D:Vr k X.A)(B:Uj CX X E)(j:PA X (e::J) t)(C:starEach (e::J) X.env=(false,eval e X.env)::starEach J X.env:=by rfl)(G:(backTo pos<|starEach J X.env).any (·.1)=false:=by rfl):
  PE X (.Call (.Name x p) (e::J) [] pos) (Qw X CX k E ta t):=by
 intro Z s U H Q I h;refine jR<|thn (S Z s U H _ I h) λu N ⟨v,z,M,R,f,r,w,c,y,F,A,P,q⟩=>?_;subst y;obtain rfl:u=Value.ref f:=R;refine qP (h₀:=X.base) M.ok.mod.kin A (thn (j pos Z N U z _ M q) λg d ⟨m,l,L,O,T⟩=>⟨L.kIn,?_⟩) C G;exact Gh F D P .nil B L O T
def A2(a:Addr)(m:Key->Option Value)(ti:TE):TE:=λU H Q=>ti U H λv Z=>∃(q:Key)(u:Value)(y:V),v=kV q/\m q=some u/\RelV y u/\Q y Z
def Ol(A:Gl X x)(D:X.mg x=some (.ref a))(S:X.base.MapOf (Y7 X.prog X.w) a m)(f:X.A.units+1<cLine)(F:PE X i ti)(B:P6 i)(G:(x==("__debug__":Str))=false:=by decide):
  PE X (.Subscript (.Name x p) i pos) (A2 a m ti):=by
 intro Z s U H Q I h;refine Rb PySem.F.slot_dict_getitem.lookup B<|W1 I A D ?_ G;refine thn (F Z s U H _ I h) λd L ⟨v,c,N,O,q,u,y,P,T,J,R⟩=>?_;subst P;have M:L.heap.MapOf (Y7 X.prog X.w) a m:=let⟨o,j,z,C,r⟩:=S;⟨o,j,z,N.bk _ _ C,r⟩
 have g:L.TypeIs (.ref a) "dict":=M.typeIs;exists g;exact wpAny_getItem_of (U2 O) M T ⟨y,c,N.tok _,J,R⟩
end
end L2
namespace L2
open PySem
structure BA where
 t:Addr
 dx:Addr
 so:Addr
 td:Addr
 rd:Addr
 tn:Addr
def UK(A:BA):List (Str×V):=[("sorts",.ref A.so),("told",.ref A.td),("rows",.ref A.rd),("turns",.ref A.tn)]
def psD(ps:List (Str×Str)):Dat:=.tup<|ps.map λp=>.tup [.str p.1,.str p.2]
def Uq(x:Dd):Dat:=.tup [psD x.1.2.1,.str x.1.2.2,x.2.dat]
structure BD(H:Hp)(C CK:Addr)(A:BA)(kv:List (Key×V))(ks:List (Str×Shp))(d:Str->Nat)(ds:List Dd):Prop where
 ins:H A.t=some (.ins C A.dx (UK A))
 so:KI H CK A.so ks d
 td:H A.td=some (.dK kv)
 ke:kv.map (·.1)=ds.map (λx=>(Sum.inr x.1.1:Key))
 va:HasL H (kv.map (·.2)) (ds.map Uq)
 nd:(ds.map λx=>x.1.1).Nodup
def BI(H:Hp)(C CK t:Addr)(ks:pF)(d:pG)(ds:List Dd):Prop:=∃A Z,A.t=t/\BD H C CK A Z ks d ds
def BI.mono(b:BI H C M t J d G)(e:Same H L):BI L C M t J d G:=by
 obtain⟨A,Z,h,k⟩:=b;exact⟨A,Z,h,e _ _ k.ins,k.so.mono e,e _ _ k.td,k.ke,k.va.mono e,k.nd⟩
structure BCl(K:W.Frag)(C:Addr):Prop where
 cl:Cls K C
 so:VH K C "sorts"
 td:VH K C "told"
 rd:VH K C "rows"
 tn:VH K C "turns"
def LR(A:BA):(UK A).lookup ("sorts":Str)=some (V.ref A.so):=rfl
def FW(A:BA):(UK A).lookup ("told":Str)=some (V.ref A.td):=rfl
def AY(A:BA):(UK A).lookup ("told_of":Str)=none:=rfl
def BD.at(b:BD H C I A J E d O)(h:x∈O):∃v,Vi H A.td (.str x.1.1) (some v)/\Has H v (Uq x):=by
 obtain⟨i,M⟩:=vj.mp h;have Z:(J.map (·.1))[i]?=(O.map λx=>(Sum.inr x.1.1:Key))[i]?:=by rw[b.ke]
 rw[ZH,ZH,M]at Z
 cases ek:J[i]? with
 |none=>rw[ek]at Z;cases Z
 |some q=>
  rw[ek]at Z;have B:q.1=Sum.inr x.1.1:=ZT Z
  have T:(J.map (·.1)).Nodup:=by
   rw[b.ke];have G:=b.nd;unfold List.Nodup at G |-;rw[qe]at G |-;exact G.imp λL z=>L<|Sum.inr.inj z
  obtain⟨F,R,D⟩:=b.va.get (show(J.map (·.2))[i]?=some q.2 by rw[ZH,ek];rfl);rw[ZH,M]at R;cases R;refine⟨q.2,?_,D⟩;have N:=Dz T<|ZJ ek;rw[B]at N;rw[<-N];exact Vi.k (k:=Sum.inr x.1.1) b.td
def Xv(h:Has H v (Uq x)):∃a u w,v=.ref a/\H a=some (.tup [u,.str x.1.2.2,w])/\Has H u (psD x.1.2.1)/\Has H w x.2.dat:=by
 unfold Uq at h;obtain⟨t,D,rfl,N,O⟩:=Yr h;obtain⟨M,I,rfl,B,G⟩:=Yd O;obtain⟨E,A,rfl,T,J⟩:=Yd G;obtain⟨L,F,rfl,R,Z⟩:=Yd J;obtain rfl:=Y9 Z;obtain rfl:=has_str T;exact⟨t,M,L,Y,N,B,R⟩
end L2
namespace K4
open PySem L2
section
variable{f g C CK:Addr}
def J0(C CK:Addr):Sp:=λG H Q _=>∃(t:Addr)(J:pF)(d:pG)(L:List Dd),G=[.ref t]/\BI H C CK t J d L/\∀Z,KI H CK Z J d->Q (.ref Z) H
def Ia:Yi ["self"] ["self"] (Ye R4):=Y4
def FO(T:BCl K C)(F:Fun K "kinds" "Book.kinds" R4 f J):Yf P w K M base CX0 (n+1) f J ["self"] (J0 C CK):=by
 refine F.oq Ia λG A Z s H L Q E R h=>?_;obtain⟨t,O,d,B,rfl,⟨D,N,rfl,b⟩,q⟩:=h;exists _,Yb<|Yn<|Yt (pv 0) rfl;exact⟨C,_,_,_,b.ins,T.cl,T.so,LR _,q _ b.so⟩
def Ut(C CK:Addr):Sp:=λG H Q _=>∃(t:Addr)(L:pF)(d:pG)(J:List Dd),G=[.ref t]/\BI H C CK t L d J/\∀l Z,Same H Z->H l=none->Z l=some (.lst<|J.map λx=>V.str x.1.1)->Q (.ref l) Z
def IZ:Yi ["self"] ["self"] (Ye R3):=Y4
def FN(B:Blt L)(T:BCl K C)(F:Fun K "names" "Book.names" R3 f M):Yf P w K L base CX0 (n+1) f M ["self"] (Ut C CK):=by
 refine F.oq IZ λN A Z s H O Q E D h=>?_;obtain⟨t,R,d,I,rfl,⟨S,J,rfl,b⟩,q⟩:=h;exists _,Yb<|Yn<|Ve (U5 rfl) rfl B.list JU (pa1<|Yt (pv 0) rfl);refine⟨C,_,_,_,b.ins,T.cl,T.td,FW _,_,_,Y,b.td,λl G=>?_⟩;refine q l _ (Yu G _) G ?_;rw[Yh];have e:(J.map λq=>kV q.1)=(J.map (·.1)).map kV:=by rw[vm];rfl
 rw[e,b.ke,vm]
 rfl
def GP(C CK:Addr):Sp:=λJ H Q _=>∃(t:Addr)(G:pF)(d:pG)(Z:List Dd)(x:Dd),J=[.ref t,.str x.1.1]/\BI H C CK t G d Z/\x∈Z/\∀v,Has H v (Uq x)->Q v H
def OW:Yi ["self","F"] ["self","F"] (Ye Bf):=Y4
def Oy(B:Blt L)(T:BCl K C)(F:Fun K "told_of" "Book.told_of" Bf f R):Yf P w K L base CX0 (n+1) f R ["self","F"] (GP C CK):=by
 refine F.oq OW λD A Z s H I Q E N h=>?_;obtain⟨t,U,d,X,x,rfl,⟨j,S,rfl,b⟩,M,q⟩:=h;have J:=V7 N;obtain⟨v,G,O⟩:=b.at M;refine⟨_,YZ (Y5 (PW.pt<|UH (JX<|JS<|ME rfl B.isi rfl B.str Wh (pv 1))<|Jg<|Jh<|XE J (pv 1)<|Yt (pv 0) rfl) (Yb JV) Yo)
  (Yb<|Yn<|Vt J (Yt (pv 0) rfl) (pv 1) λ_ _=>rfl),?_⟩
 show let a:=_;let b:=_;Yk (VG _ b _) a _ _ _
 intros
 refine⟨_,_,_,_,Y,.str _,G0 K "str",_,Y,Y6 (by simp) ?_⟩;refine⟨C,_,_,_,b.ins,T.cl,T.td,FW _,_,G,_,Y,Y6 (by simp) ?_⟩;exact⟨C,_,_,_,b.ins,T.cl,T.td,FW _,v,G,q v O⟩
end
end K4
namespace L2
open PySem
def KL(o:Option Str):V:=(o.map V.str).getD .non
def yg{α:Type}{Z:List α}(h:Z.length=2):∃a b,Z=[a,b]:=match Z,h with|[a,b],_=>⟨a,b,rfl⟩
def Bd.word:Bd->Str
 |.tag _=>"tag"
 |.name _=>"name"
 |.pair _ _=>"pair"
 |.one _=>"one"
 |.other _=>"other"
 |.choose _ _ _=>"choose"
 |.ask _ _=>"ask"
 |.letb _ _ _ _=>"let"
def LJ{b:Bd}(h:Has H v b.dat):∃a Z,v=.ref a/\H a=some (.tup (.str b.word::Z)):=by
 obtain⟨J,e⟩:∃J,b.dat=.tup (.str b.word::J):=by cases b <;> exact⟨_,by unfold Bd.dat;rfl⟩
 rw[e]at h;obtain⟨t,Z,rfl,L,M⟩:=Yr h;obtain⟨O,G,rfl,N,_⟩:=Yd M;obtain rfl:=has_str N;exact⟨t,G,Y,L⟩
def Ef(h:Has H v (Bd.letb x k e b).dat):∃a T R,v=.ref a/\H a=some (.tup [.str "let",.str x,.str k,T,R]):=by
 unfold Bd.dat at h;obtain⟨t,I,rfl,B,D⟩:=Yr h;obtain⟨C,y,rfl,A,M⟩:=Yd D;obtain⟨U,j,rfl,F,L⟩:=Yd M;obtain⟨S,Q,rfl,E,G⟩:=Yd L;obtain⟨O,P,rfl,q,J⟩:=Yd G;obtain⟨N,X,rfl,z,Z⟩:=Yd J;obtain rfl:=Y9 Z;obtain rfl:=has_str A;obtain rfl:=has_str F;obtain rfl:=has_str E;exact⟨t,O,N,Y,B⟩
end L2
namespace K4
open PySem L2
section
variable{f g C CK:Addr}
def GS(C CK:Addr):Sp:=λJ H Q _=>∃(t:Addr)(G:pF)(d:pG)(Z:List Dd)(x:Dd),J=[.ref t,.str x.1.1]/\BI H C CK t G d Z/\x∈Z/\∀v,Has H v (psD x.1.2.1)->Q v H
def Rk(C CK:Addr):Sp:=λJ H Q _=>∃(t:Addr)(G:pF)(d:pG)(Z:List Dd)(x:Dd),J=[.ref t,.str x.1.1]/\BI H C CK t G d Z/\x∈Z/\Q (.str x.1.2.2) H
def SF:Yi ["self","F"] ["self","F"] (Ye Bh):=Y4
def OQ:Yi ["self","F"] ["self","F"] (Ye Bi):=Y4
def O2(T:BCl K C)(F:Fun K "parameters" "Book.parameters" Bh f I)(m:VN K C "told_of" g)(G:Yf P w K J base CX0 n g D ["self","F"] (GP C CK))(X:Binds K D ["self","F"] []):Yf P w K J base CX0 (n+1) f I ["self","F"] (GS C CK):=by
 refine F.oq SF λU A Z s H k Q E R h=>?_;obtain⟨t,L,d,S,x,rfl,b,M,q⟩:=h;obtain⟨y,p,rfl,j⟩:=id b;exists _,Yb<|Yn<|Ys Yy (Y3 (pv 0) T.cl m G R X .nil Y1<|pa1<|pv 1) Yc;refine⟨_,_,j.ins,AY _,y.t,L,d,S,x,Y,b,M,λv N=>?_⟩;obtain⟨a,u,z,rfl,B,O,_⟩:=Xv N;exact⟨_,_,Z2 B,Y,q u O⟩
def Kb(T:BCl K C)(F:Fun K "kind_of" "Book.kind_of" Bi f D)(m:VN K C "told_of" g)(G:Yf P w K J base CX0 n g B ["self","F"] (GP C CK))(U:Binds K B ["self","F"] []):Yf P w K J base CX0 (n+1) f D ["self","F"] (Rk C CK):=by
 refine F.oq OQ λS A Z s H z Q E O h=>?_;obtain⟨t,L,d,I,x,rfl,b,M,q⟩:=h;obtain⟨j,k,rfl,X⟩:=id b;exists _,Yb<|Yn<|Ys Yy (Y3 (pv 0) T.cl m G O U .nil Y1<|pa1<|pv 1) Yc;refine⟨_,_,X.ins,AY _,j.t,L,d,I,x,Y,b,M,λv N=>?_⟩;obtain⟨a,u,y,rfl,R,p,_⟩:=Xv N;exact⟨_,_,Z2 R,Y,q⟩
def GQ(C CK:Addr)(p:Bd->Prop):Sp:=λO H Q _=>∃(t a M:Addr)(v:V)(Z:pF)(c d:pG)(L:List Dd)(G:pj)(b:Bd)(J:kZ),
 O=[.ref t,.ref a,v,.ref M]/\BI H C CK t Z d L/\KK 30 c d Z/\NK (Z.map (·.1)) G/\(∀x∈L,x.1.2.1.length<=3)/\Rd H a (.dK G)/\Has H v b.dat/\b.ok/\p b/\H M=some (.lst<|J.map V.str)/\J.length=b.parts.length/\(∀z∈J,z∈Z.map (·.1))/\∀N,Same H N->Q (KL<|own Z (Jt<|L.map (·.1)) G b J) N
abbrev rps:kZ:=["book","around","body","found"]
def SL:Yi ["book","around","body","found"] ["book","around","body","found"] (Ye Ie):=Y4
def OT:Yi ["book","around","body","found"] ["book","around","body","found"] (Ye Bc):=Y4
def SM:Yi ["book","around","body","found"] ["book","around","body","found"] (Ye Ig):=Y4
def O4(r:BCl K C)(TK:KCl K CK)(F:Fun K "kind_of_tag_body" "kind_of_tag_body" Ie f X)(B:VN K C "kinds" U)(e:Yf P w K J base CX0 n U z ["self"] (J0 C CK))(p:Binds K z ["self"] [])(T:VN K CK "kind_of_tag" S)(l:Yf P w K J base CX0 n S y ["self","tag"] (GU CK))(k:Binds K y ["self","tag"] []):Yf P w K J base CX0 (n+1) f X rps (GQ C CK λb=>∃t,b=.tag t):=by
 refine F.oq SL λm A Z s H vs Q E N h=>?_;obtain⟨t,a,fl,v,G,c,d,j,kv,b,x,rfl,O,kk,nk,pl,ha,M,ok,⟨R,rfl⟩,hf,lz,hz,q⟩:=h;obtain⟨i,kt,rfl,u⟩:=id O;exists _,Yb<|Yn<|Y3 (Vo (pv 0) r.cl B e N p .nil Y1) TK.cl T l N k .nil Y1<|pa1<|Ys Yy (pv 2) Yc;unfold Bd.dat at M;obtain⟨bt,rfl,I⟩:=Xu M;refine⟨_,_,u.ins,Y,i.t,G,d,j,Y,O,λso L=>?_⟩;obtain⟨o,SK,rfl,D,kr⟩:=id L;exact⟨_,_,D.ins,Y,_,_,Z2 I,Y,o.t,G,d,R,Y,L,q H<|Z8 _⟩
def Ka(F:Fun K "kind_of_name_body" "kind_of_name_body" Bc f B):Yf P w K j base CX0 (n+1) f B rps (GQ C CK λb=>∃x,b=.name x):=by
 refine F.oq OT λD A G s H S Q E R h=>?_;obtain⟨t,a,r,v,z,c,d,l,J,b,I,rfl,i,m,N,U,M,L,X,⟨x,rfl⟩,u,y,p,q⟩:=h;have O:=V7 R;exists _,Yb<|Yn<|Gq O (pv 1) (Ys Yy (pv 2) Yc) ⟨rfl,rfl,rfl,rfl⟩;unfold Bd.dat at L;obtain⟨o,rfl,T⟩:=Xu L;exists .inl ⟨J,M⟩,_,_,Z2 T,Y,_,.inl ⟨J,Sum.inr x,M,Y,Y⟩;have Z:Q (KL<|(VB J<|Sum.inr x).bind OG) H:=q H<|Z8 _
 cases e:VB J (Sum.inr x)with
 |none=>rw[e]at Z;exact Z
 |some v=>
  obtain⟨k,rfl,_⟩:=N.at e;rw[e]at Z;exact Z
def O5(F:Fun K "kind_of_let_body" "kind_of_let_body" Ig f T):Yf P w K z base CX0 (n+1) f T rps (GQ C CK λb=>∃x k e g,b=.letb x k e g):=by
 refine F.oq SM λB A J s H I Q E l h=>?_;obtain⟨t,a,i,v,p,c,d,ds,m,b,D,rfl,bi,u,y,X,o,O,j,⟨x,k,e,g,rfl⟩,L,N,r,q⟩:=h;obtain⟨G,M,rfl⟩:=yg N;refine⟨_,YZ (Y5 (Yp UO (Ys VI (pv 3) Yc) (Ys Yy (pv 2) Yc)<|Yz _) (Yb<|Yn JJ) Yo)
  (Yb<|Yn<|Ys VI (pv 3) Yc),?_⟩
 obtain⟨bt,U,S,rfl,R⟩:=Ef O;have Z:Q (KL<|if G=k then some M else none) H:=q H<|Z8 _;exists _,_,Z3 L,Y,_,_,Z2 R,Y,Y,_,Y
 by_cases c1:G=k
 .rw [Zp c1]at Z
  exact Y6 (by simp[c1]) ⟨_,_,Z3 L,Y,Z⟩
 .rw [Zq c1]at Z
  exact VP (by simpa using c1) Z
end
end K4
namespace L2
open PySem
def Pa(h:Has H v (Bd.ask fn B).dat):∃a u,v=.ref a/\H a=some (.tup [.str "ask",.str fn,u])/\Has H u (.tup<|Bd.dats B):=by
 unfold Bd.dat at h;obtain⟨t,D,rfl,M,N⟩:=Yr h;obtain⟨F,S,rfl,T,G⟩:=Yd N;obtain⟨E,I,rfl,R,J⟩:=Yd G;obtain⟨L,A,rfl,O,Z⟩:=Yd J;obtain rfl:=Y9 Z;obtain rfl:=has_str T;obtain rfl:=has_str R;exact⟨t,L,Y,M,O⟩
def Ee(h:Jt J fn=some (Z,y)):(fn,Z,y)∈J:=by
 unfold Jt at h
 cases e:J.find? (λh=>decide<|h.1=fn)with
 |none=>rw[e]at h;cases h
 |some g=>
  rw[e]at h;have m:=vp e;have q:g.1=fn:=by simpa using List.find?_some e
  have G:g.2=(Z,y):=ZT h;obtain⟨M,L⟩:=g;dsimp only at q G;subst q G;exact m
theorem Gp:∀Z J:kZ,Dat.pqs (Z.map Dat.str) (J.map Dat.str)=decide (Z=J)
 |[],[]=>by unfold List.map Dat.pqs;rfl
 |[],w::J=>by unfold List.map Dat.pqs;rfl
 |z::Z,[]=>by unfold List.map Dat.pqs;rfl
 |z::Z,w::J=>by
  rw[ZV,ZV];unfold Dat.pqs;rw[Gp Z J,jq];simp[Dat.pq]
def LB{ds:List Dd}(Z:(ds.map λx=>x.1.1).Nodup)(h:x∈ds):Jt (ds.map (·.1)) x.1.1=some x.1.2:=
 LC (h:=x.1) (by rw[vm];exact Z) (ZW.mpr ⟨x,h,rfl⟩)
def AT{Z:List Dd}(h:fn∉Z.map λx=>x.1.1):Jt (Z.map (·.1)) fn=none:=by
 cases e:Jt (Z.map (·.1)) fn with
 |none=>rfl
 |some p=>
  obtain⟨x,J,G⟩:=ZW.mp<|Ee e;exact Zr (ZW.mpr ⟨x,J,by rw[G]⟩) h
end L2
namespace K4
open PySem L2
section
def SN:Yi ["book","around","body","found"] ["book","around","body","found"] (Ye Ih):=Y4
def Kp:List.Nodup [("name":Str),"kind"]:=by decide +kernel
def O6(TB:BCl K C)(F:Fun K "kind_of_ask_body" "kind_of_ask_body" Ih f fd)(m1:VN K C "names" g)(G1:Yf P w K mg base CX0 (n+2) g d1 ["self"] (Ut C CK))(b1:Binds K d1 ["self"] [])(m2:VN K C "parameters" g2)(G2:Yf P w K mg base CX0 (n+2) g2 d2 ["self","F"] (GS C CK))(b2:Binds K d2 ["self","F"] [])(m3:VN K C "kind_of" g3)(G3:Yf P w K mg base CX0 (n+2) g3 d3 ["self","F"] (Rk C CK))(b3:Binds K d3 ["self","F"] []):
  Yf P w K mg base CX0 (n+2+1) f fd rps (GQ C CK λb=>∃p as,b=.ask p as):=by
 refine F.oq SN λR7 A i s H O Q E m h=>?_;obtain⟨t,a,fl,v,ks,c,d,I,kv,b,o,rfl,r,kk,nk,pl,ha,hv,ok,⟨p,as,rfl⟩,hf,lz,hz,q⟩:=h;have M2:=m.mono (show 2<=n+2 by omega);refine⟨_,YZ (Y5 (Yp Jb (Ys Yy (pv 2) Yc) (Vo (pv 0) TB.cl m1 G1 m b1 .nil Y1) Y) (Yb<|Yn JJ) Yo)
  (YZ (Y5 (Yp (MH M2) (JN ["name","kind"] [] (Ub<|Y3 (pv 0) TB.cl m2 G2 m b2 .nil Y1<|pa1<|Ys Yy (pv 2) Yc) G7 (λcl C fp s H=>Vb (n:=2) rfl (Yl (Yj 0 Kp rfl (Or.inl rfl) (Or.inr rfl))<|Yl (Yj 1 Kp rfl (Or.inl rfl) (Or.inr rfl)) VJ))
    (λcl C fp s H=>pv 1)) (pv 3)<|Yz _) (Yb<|Yn JJ) Yo)
  (Yb<|Yn<|Y3 (pv 0) TB.cl m3 G3 m b3 .nil Y1<|pa1<|Ys Yy (pv 2) Yc)),?_⟩
 show let a:=_;let b:=_;let c:=Yk (VG _ b _) a;let d:=_;Yk (VG _ d _) c _ _ _
 intros
 obtain⟨bt,ub,rfl,hb,_⟩:=Pa hv;obtain⟨A',kt,rfl,e⟩:=id r;have T:∀N,Same H N->Q (KL<|match Jt (I.map (·.1)) p with|some (L,k)=>if L.map (·.2)=o then some k else none|none=>none) N:=q;refine⟨_,_,Z2 hb,Y,_,_,e.ins,Y,A'.t,ks,d,I,Y,r,λl H1 S hl g=>?_⟩;have el:(I.map λx=>V.str x.1.1)=(I.map λx=>x.1.1).map V.str:=by rw[vm];rfl
 rw[el]at g;exists l,_,Y,.inl<|Z3 g,rfl,Jx _,_,rfl;rw[UR]
 by_cases mf:p∈I.map λx=>x.1.1
 case neg=>
  rw[AT mf]at T;exact VP (by simp only[if_true,qi,decide_eq_false_iff_not];exact mf)<|T _ S
 refine Y6 (by simp only[if_true,qi,decide_eq_false_iff_not,Classical.not_not];exact mf) ?_;obtain⟨x,X,D⟩:=ZW.mp mf;have Z:=LB e.nd X;rw[D]at Z;rw[Z]at T;obtain⟨⟨_,L,y⟩,bx⟩:=x;dsimp only at D T;subst D;have R6:L.length<=3:=pl _ X;have R1:=r.mono S;refine⟨_,_,S _ _ e.ins,Y,_,_,Z2<|S _ _ hb,rfl,A'.t,ks,d,I,_,rfl,R1,X,λv B=>?_⟩;unfold psD at B;dsimp only at B;obtain⟨pa,G,rfl,M,U⟩:=Yr B;have lp:=U.length;rw[ZA]at lp;exists ⟨_,Z2 M⟩;refine Vj G.length (Yv<|by omega) (λj O N=>Same H1 N/\O.length=j/\O=((L.map (·.2)).take j).map V.str) ⟨Z8 _,rfl,rfl⟩ (λj O N z=>z.2.1) ?_ ?_ ?_ ?_
 .intro j O N hj z
  exact⟨G,G[j],Z2<|z.1 _ _ M,by simp[hj]⟩
 .intro O N z
  exact⟨G,Z2<|z.1 _ _ M,ZG _⟩
 .intro j O N u H'' R hj z yl hR
  obtain⟨rfl,yy⟩:=yl;obtain⟨dd,Z,O1⟩:=U.get<|yy G<|Z2<|z.1 _ _ M;rw[ZH]at Z
  cases hp:L[j]? with
  |none=>rw[hp]at Z;cases Z
  |some pr=>
   rw[hp]at Z;cases Z;obtain⟨t2,rfl,J2⟩:=Xu O1;exists _,Z2<|z.1 _ _ J2,rfl;refine hR _ _ ⟨z.1,by rw[ZL,z.2.1];rfl,?_⟩;rw[z.2.2,show(L.map (·.2)).take (j+1)=(L.map (·.2)).take j++[pr.2]from take_snoc (by rw[ZH,hp];rfl),ZK]
   rfl
 .intro O N l2 z hl2
  obtain⟨z1,_,rfl⟩:=z;rw[Zg (by rw[ZA];omega)];refine up_in hl2 _ λH2 s2 g2=>?_;have J:=(S.trans z1).trans s2;exists .lst<|(L.map (·.2)).map Dat.str,.lst<|o.map Dat.str,zA g2,zA<|J _ _ hf,M0 _,_,rfl;unfold Dat.pq;rw[Gp]
  by_cases cz:L.map (·.2)=o
  .rw [Zp cz]at T
   refine Y6 (by simp[cz]) ?_;exact⟨_,_,J _ _ e.ins,Y,_,_,Z2<|J _ _ hb,rfl,A'.t,ks,d,I,_,rfl,r.mono J,X,T H2 J⟩
  .rw [Zq cz]at T
   exact VP (by simp[cz])<|T H2 J
end
end K4
namespace L2
open PySem PySem.Spec PyProof.Rows
def Fk(S:X.calm=true):UA X (.builtin "any") (λL H Q=>∃(p:Addr)(Z:List Bool),L=[.ref p]/\SqL X.K H p (Z.map V.bl)/\Q (.bl<|Z.any id) H):=by
 intro N s U H L P Q I r h;obtain⟨p,Z,rfl,D,q⟩:=h;obtain⟨u,rfl,R⟩:=vals1 r;cases R;obtain⟨J,M,G,j⟩:=I.list D;have E:p<s.heap.objs.size:=let⟨o,_,e,_⟩:=G;ZP e
 have B:=M.length;rw[ZA]at B
 have T:((List.range J.toArray.size).any λi=>(Z[i]?).getD false)=Z.any id:=by
  rw[jq,jV,jV]
  constructor
  .rintro ⟨i,_,h⟩
   cases e:Z[i]? with
   |none=>rw[e]at h;cases h
   |some b=>rw[e]at h;exact⟨b,ZJ e,h⟩
  .rintro ⟨b,hb,h⟩
   obtain⟨i,O⟩:=vj.mp hb;exact⟨i,by have:=(ZF.mp O).1;simp;omega,by rw[O];exact h⟩
 refine call_any_walk<|qA G.isList ⟨s.heap.objs.size,_,_,J.toArray.size,_,_,λi=>(Z[i]?).getD false,rfl,Walks.list (A:=X.A.in1) (I.ok.hd S) _ p (Ze E) J.toArray,⟨⟨_,ZY _ rfl,rfl,rfl⟩,G.isList.push _⟩,?_,?_⟩
 .intro i v s' Q' E' hP hQ
  obtain⟨b,e,rfl⟩:=Wi M i v (by simpa using hP);dsimp only at hQ;rw[e]at hQ;exact vJ hQ
 .intro h' tk hk
  rw[T];refine⟨.bl<|Z.any id,H,I.kept λb o e=>hk b o (λF=>?_)<|ZE _ e,rfl,q⟩;have C:b=s.heap.objs.size:=by simpa using F
  rw[C]at e;exact vy _<|ZP e
end L2
namespace L2
open PySem
def DV(h:Has H v (Bd.choose e N F).dat):∃a u l Z,v=.ref a/\H a=some (.tup [.str "choose",u,.ref l])/\H l=some (.tup Z)/\HasL H Z (Bd.brs F N):=by
 unfold Bd.dat at h;obtain⟨t,A,rfl,O,R⟩:=Yr h;obtain⟨S,X,rfl,E,L⟩:=Yd R;obtain⟨M,C,rfl,P,G⟩:=Yd L;obtain⟨I,U,rfl,D,J⟩:=Yd G;obtain rfl:=Y9 J;obtain rfl:=has_str E;obtain⟨l,Z,rfl,B,T⟩:=Yr D;exact⟨t,M,l,Z,Y,O,B,T⟩
theorem brs_len:∀{bs:List Bd}{ts:kZ},bs.length=ts.length->(Bd.brs bs ts).length=ts.length
 |[],[],_=>by simp[Bd.brs]
 |[],_::_,h=>by simp at h
 |_::_,[],h=>by simp at h
 |b::bs,t::ts,h=>by
  unfold Bd.brs;have:=brs_len (bs:=bs) (ts:=ts) (by simpa using h);simp[this]
theorem brs_get:∀{bs:List Bd}{ts:kZ}{i:Nat}{d:Dat},(Bd.brs bs ts)[i]?=some d->∃t b,ts[i]?=some t/\d=.tup [.str t,Bd.dat b]
 |[],ts,i,d,h=>by unfold Bd.brs at h;simp at h
 |b::bs,[],i,d,h=>by unfold Bd.brs at h;simp at h
 |b::bs,t::ts,0,d,h=>by
  unfold Bd.brs at h;exact⟨t,b,Y,(ZT h).symm⟩
 |b::bs,t::ts,i+1,d,h=>by
  unfold Bd.brs at h;exact brs_get (bs:=bs) (ts:=ts) h
def vE{z y:Str}{r:kZ}:Uo ((z::y::r).map V.str) (some 2) none=r.map V.str:=by
 have e:HT.sIx ((z::y::r).map V.str).length 0 (some 2)=2:=by
  unfold HT.sIx;simp
  try omega
 unfold Uo;rw[e];simp[HT.sIx];exact Zg (by rw[ZA];exact ZG _)
def Ou(h:Vf J z=some (.tags Z))(g:∀u∈r,u=y):own J L G (.choose e Z M) (z::y::r)=some y:=Zp ⟨h,g⟩
def MF(h:¬(Vf J z=some (.tags Z)/\∀u∈r,u=y)):own J L G (.choose e Z M) (z::y::r)=none:=Zq h
def Lw(y:Str)(r:kZ):((r.map λu=>!decide (V.str u=V.str y)).any id=false)↔∀u∈r,u=y:=by
 rw[ka]
 constructor
 .intro h u Z
  have:=h _<|ZW.mpr ⟨u,Z,rfl⟩;simpa using this
 .intro h b hb
  obtain⟨u,Z,rfl⟩:=ZW.mp hb;simp[h u Z]
end L2
namespace K4
open PySem L2
section
def Fn:bootBuiltins "any"=some (.builtin "any"):=by decide +kernel
def WN:Yi ["book","around","body","found","shape","kind"] ["book","around","body","found"] (Ye Gg):=Y4
def Ko:List.Nodup [("tag":Str),"branch"]:=by decide +kernel
def C1:List.Nodup [("other":Str),"kind"]:=by decide +kernel
def B2(B:Blt X)(ma:X "any"=none)(TB:BCl K C)(TK:KCl K p)(F:Fun K "kind_of_choose_body" "kind_of_choose_body" Gg f fd)(m1:VN K C "kinds" g1)(G1:Yf P w K X base CX0 (n+2) g1 d1 ["self"] (J0 C p))(b1:Binds K d1 ["self"] [])(m2:VN K p "shape_of" g2)(G2:Yf P w K X base CX0 (n+2) g2 d2 ["self","kind"] (WH p))(b2:Binds K d2 ["self","kind"] []):Yf P w K X base CX0 (n+2+1) f fd rps (GQ C p λb=>∃e L k,b=.choose e L k/\1<=k.length):=by
 refine F.oq WN λT0 A J2 s H Z Q E hr h=>?_;obtain⟨t,a,fl,v,ks,c,d,ds,kv,b,zs,rfl,bi,kk,nk,pl,ha,hv,ok,⟨e,L,k,rfl,b0⟩,hf,lz,hz,q⟩:=h;have O1:=hr.mono (show 2<=n+2 by omega);refine⟨_,YZ (Yw 4 WN.nd<|Y3 (Vo (pv 0) TB.cl m1 G1 hr b1 .nil Y1) TK.cl m2 G2 hr b2 .nil Y1<|pa1<|Ys VI (pv 3) Yc)
  (YZ (Y5 (PW.pt<|UH (Yp UO (Ys Yy (pv 4) Yc) Y0<|Yz _)<|Jg<|Yp (MH O1) (Ve Jl rfl B.tuple Jp (pa1<|JN ["tag","branch"] [] (Ub<|Ys Yy (pv 2) Yc) G7 (λcl C fp s H=>Vb (n:=2) rfl (Yl (Yj 0 Ko rfl (Or.inl rfl) (Or.inr rfl))<|Yl (Yj 1 Ko rfl (Or.inl rfl) (Or.inr rfl)) VJ)) λcl C fp s H=>pv 0)) (Ys Yy (pv 4) Yc)<|Yz _) (Yb<|Yn JJ) Yo)
  (YZ (Yw 5 WN.nd (hx:=Or.inr rfl)<|Ys VI (pv 3) Yc)
  (YZ (Y5 (JS<|VF (Fk rfl) rfl ma Fn (pa1<|JN ["other"] [5] (JM<|JA Wx (pv 3) (JY Yc) JZ) (Vv (i:=0)<|by decide) (λcl C fp s H=>Yj 0 C1 rfl (Or.inl rfl) (Or.inr rfl)) λcl C fp s H=>JE UO (pv 0) (pv 1) rfl)) (Yb<|Yn JJ) Yo)
  (Yb<|Yn<|pv 5)))),?_⟩
 dsimp only[Vh,Cx.nox,Cx.wish];show let a:=_;let b:=_;let c:=Yk (VG _ b _) a;let d:=Yk _ c;let e:=_;let f:=Yk (VG _ e _) d;Yk _ f _ _ _
 intros
 obtain⟨bt,ub,bl,T,rfl,hb,N,I⟩:=DV hv;obtain⟨A',kt,rfl,b'⟩:=id bi;unfold Bd.ok at ok;obtain⟨_,lb,l7,_⟩:=ok;have lx:=I.length;rw[brs_len lb]at lx;obtain⟨z,O,rfl⟩:∃z O,zs=z::O:=match zs,lz with|z::O,_=>⟨z,O,rfl⟩
 have lr:O.length=k.length:=Nat.succ.inj lz;obtain⟨y,r,rfl⟩:∃y r,O=y::r:=match O,lr with|[],e=>by rw[<-e]at b0;exact Zr b0 (by decide)|y::r,_=>⟨y,r,rfl⟩
 rw[Zf]at lr;obtain⟨sz,M⟩:=UF (hz z<|by simp);refine⟨_,_,b'.ins,Y,A'.t,ks,d,ds,Y,bi,λso ki=>?_⟩;obtain⟨AK,SK,rfl,kd,kr⟩:=id ki;refine⟨_,_,kd.ins,Y,_,_,Z3 hf,VC (j:=0) Y,AK.t,ks,d,z,sz,Y,ki,M,λv S=>?_⟩
 cases sz with
 |pair pa pb=>
  obtain⟨ps,rfl,m⟩:=G6 S;rw[MF (λz=>by rw[M]at z;cases z.1)]at q;exact⟨_,_,Z2 m,Y,Y,_,Y,VP (by decide +kernel)<|q H<|Z8 _⟩
 |tags us=>
 obtain⟨ps,l,rfl,m,hl⟩:=G5 S;refine⟨_,_,Z2 m,Y,Y,_,Y,Y6 (by decide +kernel) ?_⟩;exists _,_,Z2 hb,Y,⟨_,Z2 N⟩;refine Vj T.length (Yv<|by omega) (λj Z G=>Same H G/\Z.length=j/\Z=(L.take j).map V.str) ⟨Z8 _,rfl,rfl⟩ (λj Z G z=>z.2.1) ?_ ?_ ?_ ?_
 .intro j Z G hj z
  exact⟨T,T[j],Z2<|z.1 _ _ N,by simp[hj]⟩
 .intro Z G z
  exact⟨T,Z2<|z.1 _ _ N,ZG _⟩
 .intro j Z G u H'' R hj z yl hR
  obtain⟨rfl,x⟩:=yl;obtain⟨dd,R7,R6⟩:=I.get<|x T<|Z2<|z.1 _ _ N;obtain⟨tg,bb,ht,rfl⟩:=brs_get R7;obtain⟨t2,R8,rfl,M2,_⟩:=LG R6;exists _,Z2<|z.1 _ _ M2,rfl;refine hR _ _ ⟨z.1,by rw[ZL,z.2.1];rfl,?_⟩;rw[z.2.2,take_snoc ht,ZK]
  rfl
 .intro Z H1 l2 z hl2
  obtain⟨o,_,rfl⟩:=z;rw[Zg (by omega)];refine up_in hl2 (.lst<|L.map V.str) λH2 s2 g2=>?_;refine⟨l2,_,Y,.inl ⟨Z3 g2,λt3 G3=>?_⟩⟩;refine up_in G3 (.tup<|L.map V.str) λH3 s3 g3=>?_;have J:=(o.trans s2).trans s3;exists _,_,Z2<|J _ _ m,rfl,.tup<|L.map Dat.str,.tup<|us.map Dat.str,Yx g3<|U9 L,Yx (J _ _ hl)<|U9 us,?_,_,rfl
  .have:=M0 L
   unfold Dat.dep at this |-;exact this
  unfold Dat.pq;rw[Gp]
  by_cases ct:L=us
  case neg=>
   rw[MF (λz=>ct (by have o:=M.symm.trans z.1;injection o with z2;injection z2 with z3;exact z3.symm))]at q;exact VP (by simp[ct])<|q H3 J
  subst ct;refine Y6 (by simp) ?_;have U:=J _ _ hf;exists _,.str y,Z3 U,VC (j:=1) Y;refine⟨2,Y,fl,_,Y,Z3 U,λl4 R1=>?_⟩;rw[vE];refine up_in R1 (.lst<|r.map V.str) λH4 s4 g=>?_;exists ⟨_,Z3 g⟩;refine Vj r.length (Yv<|by omega) (λj Z G=>Same H4 G/\Z=((r.take j).map λu=>!decide (V.str u=V.str y)).map V.bl/\Z.length=j) ⟨Z8 _,rfl,rfl⟩ (λj Z G z=>z.2.2) ?_ ?_ ?_ ?_
  .intro j Z G hj z
   exact⟨_,.str r[j],Z3<|z.1 _ _ g,by rw[ZH,ZD hj];rfl⟩
  .intro Z G z
   exact⟨_,Z3<|z.1 _ _ g,by rw[ZA];exact ZG _⟩
  .intro j Z G u H'' R hj z yl hR
   obtain⟨rfl,x⟩:=yl;have e5:=x _<|Z3<|z.1 _ _ g;rw[ZH,ZD hj]at e5;cases ZT e5;refine⟨Y,hR _ _ ⟨z.1,?_,by rw[ZL,z.2.2];rfl⟩⟩;rw[z.2.1,take_snoc<|ZD hj,ZK,ZK]
   rfl
  .intro Z H5 l6' z hl6
   obtain⟨z5,rfl,_⟩:=z;rw[qt];refine up_in hl6 (.lst<|(r.map λu=>!decide (V.str u=V.str y)).map V.bl) λH6 s6 g6=>?_;have D:=((J.trans s4).trans z5).trans s6;exists l6',_,Y,Z3 g6,_,Y
   by_cases cu:∀u∈r,u=y
   .rw [Ou M cu]at q
    exact Y6 (by rw[(Lw y r).mpr cu];simp)<|q H6 D
   .rw [MF (λz=>cu z.2)]at q
    refine VP ?_<|q H6 D
    cases ea:(r.map λu=>!decide (V.str u=V.str y)).any id with
    |true=>rfl
    |false=>exact Zr ((Lw y r).mp ea) cu
end
end K4
namespace L2
open PySem
def NZ{g:TG}{O:TS}{D:Ends}(Z:pB)(Q:Z 0 U H)(S:∀i U H,i<=xs.length->Z i U H->Sq K tp H a xs)(A:∀i x U H r,xs[i]?=some x->Z i U H->H r=none->g (.ref r) U (upd H r<|.tup [.int ((i:Nat):Int),x]) fun σ2 M=>O {D with nx:=Z<|i+1,ct:=Z<|i+1,bk:=D.nx} σ2 M)(P:∀U H,Z xs.length U H->D.nx U H):
  ∃W:Nat->Nat->St->Hp->Prop,(∃m,W 0 m U H)/\∀i m U H,W i m U H->
   ((Ite K tp a).stop i H/\D.nx U H)\/((Ite K tp a).go i H/\∃N:pC,(∀L J,N L J->∃R,R<m/\W (i+1) R L J)/\∀x J,(Ite K tp a).yld i H x J->g x U J fun σ2 M=>O {D with nx:=N,ct:=N,bk:=D.nx} σ2 M):=by
 refine⟨λi m U H=>m=xs.length-i/\i<=xs.length/\Z i U H,⟨xs.length,by simp,Zc _,Q⟩,λi m U H z=>?_⟩;obtain⟨rfl,C,p⟩:=z;have q:=S i U H C p;rcases jn i xs.length with G|X
 .refine .inr ⟨⟨xs,xs[i],q,ZD G⟩,Z<|i+1,λL J B=>⟨xs.length-(i+1),by omega,rfl,G,B⟩,λx J y=>?_⟩
  obtain⟨r,T,rfl,I,rfl,F⟩:=y;exact A i T U H r (F xs q) p I
 .have e:i=xs.length:=by omega
  exact .inl ⟨⟨xs,q,by omega⟩,by subst e;exact P U H p⟩
def Ma{g:TG}{L:TS}{D:Ends}(Z:pB)(C:Z 0 U H)(I:∀i U H,i<=xs.length->Z i U H->Sq K tp H a xs)(F:∀(B:pC)(R:VK) i x U H r,xs[i]?=some x->Z i U H->H r=none->g (.ref r) U (upd H r<|.tup [.int ((i:Nat):Int),x]) fun σ2 G=>L {nx:=Z<|i+1,rt:=R,bk:=B,ct:=Z (i+1)} σ2 G)(S:∀U H,Z xs.length U H->D.nx U H):
  ∃W:Nat->Nat->St->Hp->Prop,(∃m,W 0 m U H)/\∀i m U H,W i m U H->
   ((Ite K tp a).stop i H/\D.nx U H)\/((Ite K tp a).go i H/\∃N:pC,(∀O J,N O J->∃M,M<m/\W (i+1) M O J)/\∀x J,(Ite K tp a).yld i H x J->g x U J fun σ2 G=>L {D with nx:=N,ct:=N,bk:=D.nx} σ2 G):=
 NZ Z C I (λi x U H r E p A=>F _ _ i x U H r E p A) S
def Rd.same(r:Rd H a u)(e:Same H Z):Rd Z a u:=r.imp (λh=>e _ _ h) λ⟨o,h⟩=>⟨o,e _ _ h⟩
def L6(Z:pj)(b:Bd):(wth Z b).length<=Z.length+1:=by
 cases b with
 |letb x z e g=>exact NA Z _ _
 |_=>exact jK _
end L2
namespace K4
open PySem L2
section
variable{f g C CK:Addr}
def Ti:Yi ["book","around","body","within","found","number","part","kind","place","rule"] ["book","around","body"] (Ye sKP):=Y4
def EE(h:U[i]?=some (some v))(k:u D (U.set j<|some v) H):Yk (BF (BC i)<|Vm j) u D U H:=by
 show Fv U[i]? _;rw[h];exact k
end
end K4
namespace L2
open PySem
def Uk(ks:pF)(ps:List (Str×Str)):List (List W):=ps.foldl (λrows p=>rows.flatMap λr=>(Y2 ks 3 p.2).map λu=>r++[u]) [[]]
def WT(r:List W):Dat:=.tup<|r.map W.dat
def Bo(Z:pF)(J:List (Str×Str))(p:Str×Str):Uk Z (J++[p])=(Uk Z J).flatMap λr=>(Y2 Z 3 p.2).map λu=>r++[u]:=by
 unfold Uk;rw[qf]
 rfl
theorem RH{α β:Type}(f:α->List β)(k:Nat):∀l:List α,(∀a∈l,(f a).length=k)->(l.flatMap f).length=l.length*k
 |[],_=>by simp
 |a::l,h=>by
  rw[kD,ZL,h a Za,RH f k l λb Z=>h b<|ZM _ Z,Zf,qx,Nat.add_comm]
theorem UZ(c:pG):∀(Z:List (Str×Str))(n:Nat),Z.foldl (λr p=>r*c p.2) n=n*V0 c Z
 |[],n=>by unfold V0;simp
 |p::Z,n=>by
  unfold V0;rw[je,je,UZ c Z<|n*c p.2,UZ c Z<|1*c p.2,Nat.one_mul,Nat.mul_assoc]
def Gi(h:∀p∈ps,0<c p.2)(i:Nat):V0 c (ps.take i)<=V0 c ps/\0<V0 c ps:=by
 have J:∀Z:List (Str×Str),(∀p∈Z,0<c p.2)->0<V0 c Z:=λZ=>by
  induction Z with
  |nil=>intro _;exact Nat.one_pos
  |cons q Z ih=>
   intro L;unfold V0;rw[je,UZ,Nat.one_mul];exact Nat.mul_pos (L q Za)<|ih λp G=>L p<|ZM _ G
 refine⟨?_,J ps h⟩
 have e:V0 c ps=V0 c (ps.take i)*V0 c (ps.drop i):=by
  conv=>lhs;rw[<-List.take_append_drop i ps]
  unfold V0;rw[qf,UZ]
  rfl
 rw[e];exact Nat.le_mul_of_pos_right _<|J _ λp G=>h p<|jX G
def KK.c0(h:KK 30 c d Z)(J:y∈Z.map (·.1)):(Y2 Z 3 y).length=c y/\0<c y:=by
 have s:=h.small J;obtain⟨a,b,_⟩:=X5 h 3 y J (by omega);exact⟨a,b⟩
def FC(h:KK 30 c d J)(Z:List (Str×Str))(L:∀p∈Z,p.2∈J.map (·.1)):(Uk J Z).length=V0 c Z:=by
 have go:∀(Z:List (Str×Str))(rows:List (List W)),(∀p∈Z,p.2∈J.map (·.1))->(Z.foldl (λrows p=>rows.flatMap λr=>(Y2 J 3 p.2).map λu=>r++[u]) rows).length=Z.foldl (λr p=>r*c p.2) rows.length:=λZ=>by
  induction Z with
  |nil=>intro rows _;rfl
  |cons p Z ih=>
   intro rows G;rw[je,je,ih _ λq m=>G q<|ZM _ m,RH _ (c p.2) rows λa _=>by rw[ZA];exact(h.c0<|G p Za).1]
 exact go Z [[]] L
def Bp(Z:List (Str×Str)):∀r∈Uk ks Z,r.length=Z.length:=by
 have go:∀(Z:List (Str×Str))(n:Nat)(rows:List (List W)),(∀r∈rows,r.length=n)->∀r∈Z.foldl (λrows p=>rows.flatMap λr=>(Y2 ks 3 p.2).map λu=>r++[u]) rows,r.length=n+Z.length:=λZ=>by
  induction Z with
  |nil=>intro n rows h r J;exact h r J
  |cons p Z ih=>
   intro n rows h r J
   have:=ih (n+1) _ (λr J=>by
    obtain⟨G,M,L⟩:=List.mem_flatMap.mp J;obtain⟨u,_,rfl⟩:=ZW.mp L;rw[ZL,h G M];rfl) r J
   rw[this,Zf];omega
 intro r J;have:=go Z 0 [[]] (λr J=>by rw[ZQ.mp J];rfl) r J;omega
def Py(N:Has H x (WT r))(J:H b=some (.tup [wv]))(O:Has H wv u.dat)(B:r.length<=3)(q:∀v G,Same H G->Has G v (WT<|r++[u])->Q v G):
  Ux K x (.ref b) H Q\/Uw K x (.ref b) H Q:=by
 unfold WT at N q;obtain⟨a,L,rfl,R,Z⟩:=Yr N;have M:=Z.length;rw[ZA]at M
 cases r with
 |nil=>
  obtain rfl:=Y9 Z;exact .inl ⟨a,b,[wv],Y,Y,Z2 R,Z2 J,q _ _ (Z8 _)<|Yx J<|Z5 O⟩
 |cons y r=>
  refine .inr ⟨a,b,L,[wv],Y,Y,Z2 R,Z2 J,(λz=>by subst z;cases M),Zh (Yv (by simp only[vc];omega)),(λz=>nomatch z),λ_ p T=>?_⟩;have s:=Yu T<|.tup<|L++[wv];refine q _ _ s<|Yx Yh ?_;rw[ZK];exact Z7 (Z.mono s)<|Z5<|O.mono s
def Bw{J:List (Str×Str)}{i:Nat}(h:HasL H G (J.map λp=>.tup [.str p.1,.str p.2]))(L:G[i]?=some x):∃p t,J[i]?=some p/\x=.ref t/\H t=some (.tup [.str p.1,.str p.2]):=by
 obtain⟨d,Z,N⟩:=h.get L;rw[ZH]at Z
 cases e:J[i]? with
 |none=>rw[e]at Z;cases Z
 |some p=>
  rw[e]at Z;cases Z;obtain⟨t,rfl,M⟩:=Xu N;exact⟨p,t,Y,Y,M⟩
end L2
namespace K4
open PySem L2
section
variable{f g C CK:Addr}
def Rt(CK:Addr):Sp:=λM H Q _=>∃(G:Addr)(J:pF)(d:pG)(Z:List (Str×Str))(v:V),M=[.ref G,v]/\KI H CK G J d/\J.length<=6/\Has H v (psD Z)/\Z.length<=3/\(∀p∈Z,p.2∈J.map (·.1))/\(Z.map (·.1)).Nodup/\(∀p∈Z,WdS p.1)/\
 ∀L,Same H L->Q (.bl true) L
def Wy:Yi ["kinds","parameters","seen","name","kind"] ["kinds","parameters"] (Ye Bn):=Y4
def Ki(B:Blt T)(TC:KCl K CK)(F:Fun K "are_parameters" "are_parameters" Bn f fd)(hM:T "MOST_PARAMETERS"=some u)(rM:RelV (.int 3) u)(DN:Df P w K T base n "is_name" ["text"] (Us 97))(m2:VN K CK "names" g)(G2:Yf P w K T base CX0 n g gd ["self"] (XA CK))(b2:Binds K gd ["self"] []):Yf P w K T base CX0 (n+1) f fd ["kinds","parameters"] (Rt CK):=by
 refine F.oq Wy λJ2 A j s H vs Q E m h=>?_;obtain⟨so,y,d,ps,v,rfl,ki,k6,hv,l3,pk,nd,S,q⟩:=h;have hu:=V7 m;unfold psD at hv;obtain⟨pa,xs,rfl,Z,M⟩:=Yr hv;have lx:=M.length;rw[ZA]at lx;refine⟨_,YZ (Y5 (Yp Gs (VF Y8 Y B.len Zu (pa1<|pv 1)) (Ja rfl hM rM)<|Yz _) (Yb JV) Yo)
  (YZ (Yw 2 Wy.nd Vp)
  (YZ (V5 Zv rfl (Ub<|pv 1) (Vb (n:=2) rfl (Yl (Yj 3 Wy.nd)<|Yl (Yj 4 Wy.nd) VJ))
   (YZ (Y5 (PW.pt<|UH (JX<|JS<|Vc DN m<|pa1<|pv 3)<|UH (Jh<|U0 hu (pv 3)<|pv 2)<|Jg<|Yp Jb (pv 4) (Vo (pv 0) TC.cl m2 G2 m b2 .nil Y1) rfl) (Yb JV) Yo)
   (Yb<|Vs hu (pv 2) (pv 3) J4 rfl)))
  (Yb<|Yn J4))),?_⟩
 dsimp only[Vh,Cx.nox,Cx.wish];show let a:=_;let b:=_;let c:=_;let d:=Yk (VG _ c _) b;let e:=Yk (UX _ _ d) a;let f:=Yk _ e;let g:=_;Yk (VG _ g _) f _ _ _
 intros
 refine⟨pa,_,Y,.inr<|Z2 Z,_,rfl,Y6 (by simp;omega) ?_⟩;intro X N;refine up_in N _ λH1 s1 g1=>?_;exists ⟨_,Z2<|s1 _ _ Z⟩
 let I:pB:=λi U J=>Same H J/\∃G z3 z4,J X=some (.dK G)/\G.map (·.1)=(ps.take i).map (λp=>(Sum.inr p.1:Key))/\U=[some (.ref so),some<|.ref pa,some<|.ref X,z3,z4]
 refine TH (xs:=xs) I ⟨s1,[],_,_,g1,Y,Y⟩ (λi U J _ z=>Z2<|z.1 _ _ Z) ?_ ?_
 .rintro BB RR i x U J hx ⟨si,G,z3,z4,hk,ek,rfl⟩
  obtain⟨p,t,D,rfl,ht⟩:=Bw M hx;have O:=ZJ D;have i3:=(ZF.mp D).1;obtain⟨w1,w2,w3⟩:=S p O
  have nk:VB G (Sum.inr p.1)=none:=RX (by
   rw[ek];intro z;obtain⟨q1,r,o⟩:=ZW.mp z;exact Tv nd (show(ps.map (·.1))[i]?=some p.1 by rw[ZH,D];rfl) (by rw[<-qV];exact ZW.mpr ⟨q1,r,Sum.inr.inj o⟩))
  exists _,Z2<|si _ _ ht,rfl;refine⟨p.1,Y,w1,w2,w3,λH2 R=>⟨_,Y,Y6 (by simp) ?_⟩⟩;refine⟨_,(show Vi H2 X (.str p.1) none by rw[<-nk];exact Vi.k (k:=Sum.inr p.1)<|R _ _ hk),_,Y,Y6 (by simp) ?_⟩;have L:=ki.mono<|si.trans R;obtain⟨AK,SK,o,kd,kr⟩:=id L;refine⟨_,_,by rw[<-o];exact kd.ins,Y,so,y,d,Y,L,λl H3 s3 hl g3=>?_⟩;have el:(y.map λk=>V.str k.1)=(y.map (·.1)).map V.str:=by rw[vm];rfl
  rw[el]at g3;refine⟨l,_,Y,.inl<|Z3 g3,rfl,Jx _,_,rfl,Y6 ?_ ?_⟩
  .rw [UR]
   simp only[if_true,qi,decide_eq_false_iff_not,Classical.not_not];exact pk p O
  have lk:G.length<=3:=by
   have:=congrArg List.length ek;rw[ZA,ZA,ZN]at this;omega
  refine⟨_,UU.k (k:=Sum.inr p.1) (s3 _ _<|R _ _ hk)<|Yv<|by omega,?_⟩;refine⟨((si.trans R).trans s3).putN N,_,_,_,Yh,?_,Y⟩;rw[putK_new _ nk,ZK,ek,take_snoc D,ZK]
  rfl
 .rintro U J ⟨si,_⟩
  exact q J si
def XW(CK:Addr):Sp:=λM H Q _=>∃(G:Addr)(J:pF)(c d:pG)(Z:List (Str×Str))(v:V),M=[.ref G,v]/\KI H CK G J d/\KK 30 c d J/\Has H v (psD Z)/\(∀p∈Z,p.2∈J.map (·.1))/\V0 c Z<=1000/\
 ∀L,Same H L->Q (.int (V0 c Z:Nat)) L
def J3:Yi ["kinds","parameters","count","name","kind"] ["kinds","parameters"] (Ye WQ):=Y4
def NI(B:Blt S)(TC:KCl K CK)(F:Fun K "row_count" "row_count" WQ f fd)(o:VN K CK "worths_of" g)(G2:Yf P w K S base CX0 n g gd ["self","kind"] (Jz CK))(b2:Binds K gd ["self","kind"] []):Yf P w K S base CX0 (n+1) f fd ["kinds","parameters"] (XW CK):=by
 refine F.oq J3 λJ2 A R s H vs Q E hr h=>?_;obtain⟨T,ks,c,d,ps,v,rfl,ki,j,y,D,top,q⟩:=h;unfold psD at y;obtain⟨r,xs,rfl,G,J⟩:=Yr y;have lx:=J.length;rw[ZA]at lx;refine⟨_,YZ (Yw 2 J3.nd Yc)
  (YZ (V5 Zv rfl (Ub<|pv 1) (Vb (n:=2) rfl (Yl (Yj 3 J3.nd)<|Yl (Yj 4 J3.nd) VJ))
   (Yb<|Iq (i:=2) J3.nd rfl (Or.inl rfl) (VF Y8 rfl B.len Zu (pa1<|Y3 (pv 0) TC.cl o G2 hr b2 .nil Y1<|pa1<|pv 4)) PU))
  (Yb<|Yn<|pv 2)),?_⟩
 dsimp only[Vh,Cx.nox,Cx.wish];show let a:=_;let b:=_;let c:=Yk (UX _ _ b) a;Yk _ c _ _ _
 intros
 refine Lv ?_;exists ⟨_,Z2 G⟩
 let I:pB:=λi U L=>Same H L/\∃O N,U=[some (.ref T),some<|.ref r,some<|.int (V0 c (ps.take i):Nat),O,N]
 refine TH (xs:=xs) I ⟨Z8 _,_,_,Y⟩ (λi U L _ z=>Z2<|z.1 _ _ G) ?_ ?_
 .rintro BB RR i x U L hx ⟨si,O,N,rfl⟩
  obtain⟨p,t,M,rfl,ht⟩:=Bw J hx;have m:=D p<|ZJ M;exists _,Z2<|si _ _ ht,rfl;have Z:=ki.mono si;obtain⟨AK,SK,e1,kd,kr⟩:=id Z;refine⟨_,Y,_,_,by rw[<-e1];exact kd.ins,Y,T,ks,d,p.2,Y,Z,m,λl k H3 u hl g3 hy=>?_⟩;have X:=hy.length;obtain⟨c1,c2⟩:=j.c0 m;rw[ZA,c1]at X;have le:=(Gi (c:=c) (ps:=ps) (λp M=>(j.c0<|D p M).2) i).1;refine⟨l,_,Y,.inl<|Z3 g3,.inl ⟨by omega,by omega⟩,?_⟩;have e:((V0 c (ps.take i):Nat):Int)*((k.length:Nat):Int)=((V0 c (ps.take<|i+1):Nat):Int):=by rw[take_snoc M,Gj,X,Int.natCast_mul]
  exact⟨si.trans u,some<|.str p.1,some<|.str p.2,by rw[<-e];rfl⟩
 .rintro U L ⟨si,O,N,rfl⟩
  rw[Zg (by omega)];exact q L si
def XU(CK:Addr):Sp:=λN H Q _=>∃(M:Addr)(J:pF)(c d:pG)(Z:List (Str×Str))(v:V),N=[.ref M,v]/\KI H CK M J d/\KK 30 c d J/\Has H v (psD Z)/\(∀p∈Z,p.2∈J.map (·.1))/\Z.length<=3/\V0 c Z<=1000/\
 ∀l L G,Same H G->H l=none->G l=some (.lst L)->HasL G L ((Uk J Z).map WT)->Q (.ref l) G
def J1:Yi ["kinds","parameters","rows","name","kind"] ["kinds","parameters"] (Ye WP):=Y4
def QP:List.Nodup [("row":Str),"worth","kinds","kind"]:=by decide +kernel
def NH(B:Blt mg)(TC:KCl K CK)(F:Fun K "rows_over" "rows_over" WP f fd)(m2:VN K CK "worths_of" g)(G2:Yf P w K mg base CX0 n g gd ["self","kind"] (Jz CK))(b2:Binds K gd ["self","kind"] []):Yf P w K mg base CX0 (n+1) f fd ["kinds","parameters"] (XU CK):=by
 refine F.oq J1 λT4 A R7 s H vs Q E hr h=>?_;obtain⟨so,ks,c,d,ps,v,rfl,ki,kk,hv,pk,l3,top,q⟩:=h;unfold psD at hv;obtain⟨pa,xs,rfl,O1,M2⟩:=Yr hv;have lx:=M2.length;rw[ZA]at lx;refine⟨_,YZ (Yw 2 J1.nd<|Vg<|pa1<|Yq VR)
  (YZ (V5 Zv rfl (Ub<|pv 1) (Vb (n:=2) rfl (Yl (Yj 3 J1.nd)<|Yl (Yj 4 J1.nd rfl (Or.inr rfl)) VJ))
   (Yb (Of (i0:=2) (wi2:=QV K<|IH CK "worths_of" (Jz CK) [] E (BC 2)<|V4 (BC 3) Tf) [0,4] J1.nd rfl (Or.inl rfl) (JM<|pv 2)
    (λcl C fp s H=>Yj 0 QP rfl (Or.inl rfl) (Or.inr rfl)) (λcl C fp s H=>JM<|Y3 (pv 2) TC.cl m2 G2 hr b2 .nil Y1<|pa1<|pv 3) (λcl C fp s H=>Yj 1 QP rfl (Or.inl rfl) (Or.inr rfl))
    (λcl C fp s H=>VE (r:=λx y H Q=>Ux K x y H Q\/Uw K x y H Q) Ud (pv 0)<|Yq<|pa1<|pv 1))))
  (Yb<|Yn<|pv 2)),?_⟩
 dsimp only[Vh,Cx.nox,Cx.wish];show let a:=_;let b:=_;let c:=Yk (UX _ _ b) a;Yk _ c _ _ _
 intros
 refine⟨sl 0,λt0 R8=>⟨sl 1,λl0 S=>?_⟩⟩;have s1:=Yu R8<|.tup [];have g1:upd H t0 (.tup []) t0=some (.tup []):=Yh;generalize upd H t0 (.tup [])=H1 at s1 g1 S |-;refine up_in S _ λH2 s2 g2=>?_;have J2:=s1.trans s2;exists ⟨_,Z2<|J2 _ _ O1⟩;refine TH (xs:=xs) (λi U T=>Same H T/\∃l G z3 k,H l=none/\T l=some (.lst G)/\HasL T G ((Uk ks<|ps.take i).map WT)/\U=[some (.ref so),some<|.ref pa,some<|.ref l,z3,k]) ⟨J2,l0,_,_,_,s1.free S,g2,Z5<|Yx (s2 _ _ g1) Z6,rfl⟩ (λi U T _ z=>Z2<|z.1 _ _ O1) ?_ ?_
 .rintro BB RR i x U T hx ⟨si,l,G,z3,k,fl,hl,hy,rfl⟩
  obtain⟨p,t,O,rfl,ht⟩:=Bw M2 hx;have hk:=pk p<|ZJ O;obtain⟨c1,c2⟩:=kk.c0 hk;have i3:=(ZF.mp O).1;have lR:=FC kk (ps.take i) λp O=>pk p<|Zk O;have rl:=Bp (ks:=ks)<|ps.take i;have le:=(Gi (c:=c) (ps:=ps) (λp O=>(kk.c0<|pk p O).2)<|i+1).1;have eR:Uk ks (ps.take<|i+1)=(Uk ks<|ps.take i).flatMap λr=>(Y2 ks 3 p.2).map λu=>r++[u]:=by rw[take_snoc O,Bo]
  rw[take_snoc O,Gj,<-lR,<-c1]at le;rw[eR];have ly:=hy.length;rw[ZA]at ly;rw[ZN]at rl;generalize Uk ks (ps.take i)=R at lR rl le hy ly |-;generalize hus:Y2 ks 3 p.2=us at le |-;exists _,Z2<|si _ _ ht,rfl;exists ⟨G,Z3 hl⟩;refine Dl G.length (λJ N m=>Same T m/\N.length=J*us.length/\J<=R.length/\HasL m N (((R.take J).flatMap λr=>us.map λu=>r++[u]).map WT)) ⟨Z8 _,by simp,Zc _,by rw[qM];exact Z6⟩
   (λJ N m z=>Yv (by rw[z.2.1];have:J*us.length<=R.length*us.length:=Nat.mul_le_mul_right _ z.2.2.1;omega)) ?_ ?_ ?_ ?_
  .intro J N m hi z
   exact⟨G,G[J],Z3<|z.1 _ _ hl,by simp[hi]⟩
  .intro N m z
   exact⟨G,Z3<|z.1 _ _ hl,ZG _⟩
  .intro J N m x H'' RR' hi z yl hR
   obtain⟨rfl,yy⟩:=yl;obtain⟨dx,M,T1⟩:=hy.get<|yy G<|Z3<|z.1 _ _ hl;rw[ZH]at M
   cases hr1:R[J]? with
   |none=>rw[hr1]at M;cases M
   |some r=>
    rw[hr1]at M;cases M;have ri:=rl r<|ZJ hr1;have G3:=ki.mono<|si.trans z.1;obtain⟨AK,SK,e1,kd,kr⟩:=id G3;refine⟨_,_,by rw[<-e1];exact kd.ins,Y,so,ks,d,p.2,Y,G3,hk,λlw D H3 e T3 gw hw=>⟨⟨D,Z3 gw⟩,?_⟩⟩;rw[hus]at hw;have G1:=hw.length;rw[ZA]at G1;have R1:=(T1.mono z.1).mono e;refine K9 D.length (λj I X=>Same H3 X/\I.length=J*us.length+j/\j<=us.length/\HasL X I (((R.take J).flatMap λr=>us.map λu=>r++[u]).map WT++ ((us.take j).map λu=>r++[u]).map WT)) ⟨Z8 _,by rw[z.2.1];rfl,Zc _,by rw[qM,jh,jh,j0];exact z.2.2.2.mono e⟩
     (λj I X Z=>Yv (by
      rw[Z.2.1];have:(J+1)*us.length<=R.length*us.length:=Nat.mul_le_mul_right _ (by omega);rw[qx]at this;have:=Z.2.2.1;omega)) ?_ ?_ ?_ ?_
    .intro j I X hj Z
     exact⟨D,D[j],Z3<|Z.1 _ _ gw,by simp[hj]⟩
    .intro I X Z
     exact⟨D,Z3<|Z.1 _ _ gw,ZG _⟩
    .intro j I X x2 H5 T2 hj Z yl2 hT
     obtain⟨rfl,R6⟩:=yl2;obtain⟨dz,L,T0⟩:=hw.get<|R6 D<|Z3<|Z.1 _ _ gw;rw[ZH]at L
     cases hv1:us[j]? with
     |none=>rw[hv1]at L;cases L
     |some v=>
      rw[hv1]at L;cases L;refine⟨sl 1,λb hb=>?_⟩;have sb:=Yu hb<|.tup [x2];have gb:upd H5 b (.tup [x2]) b=some (.tup [x2]):=Yh;refine Py ((R1.mono Z.1).mono sb) gb ((T0.mono Z.1).mono sb) (by omega) λv' H6 s6 h6=>hT _ _ ?_;have o:=sb.trans s6;exists Z.1.trans o,by rw[ZL,Z.2.1];rfl,(ZF.mp hv1).1;rw[take_snoc hv1,ZK,ZK,<-qc];exact Z7 (Z.2.2.2.mono o)<|Z5 h6
    .intro I X Z
     refine hR _ _ ⟨z.1.trans<|e.trans Z.1,by rw[Z.2.1,G1,qx],(ZF.mp hr1).1,?_⟩;have y4:=Z.2.2.2;rw[show us.take D.length=us from Zg (by omega)]at y4;rw[take_snoc hr1,List.flatMap_append,ZK];simp only[kD,List.flatMap_nil,j0];exact y4
  .intro N m p3 z hp3
   have e:=Yu hp3<|.lst N;have k:=z.2.2.2;rw[Zg (by omega)]at k;exact⟨si.trans<|z.1.trans e,p3,N,_,_,(si.trans z.1).free hp3,Yh,k.mono e,rfl⟩
 .rintro U T ⟨si,l,G,z3,k,fl,hl,hy,rfl⟩
  rw[Zg (by omega)]at hy;exact q l G T si fl hl hy
end
end K4
namespace L2
open PySem
def Xo(H:Hp)(x:Addr):Hp:=λb=>if b=x then none else H b
structure BB(Hm H:Hp)(C CK:Addr)(A:BA)(ks:List (Str×Shp))(d:Str->Nat):Prop where
 ins:H A.t=some (.ins C A.dx (UK A))
 sm:Same Hm H
 so:KI Hm CK A.so ks d
 nd:Hm A.td=none
 nr:Hm A.rd=none
 ne:A.td≠A.rd
 n1:A.t≠A.td
 n2:A.t≠A.rd
def BB.same(b:BB J H C L A Z d)(s:Same H G):BB J G C L A Z d:=⟨s _ _ b.ins,b.sm.trans s,b.so,b.nd,b.nr,b.ne,b.n1,b.n2⟩
def BB.td(b:BB J H C G A Z d)(o:HO):BB J (upd H A.td o) C G A Z d:=⟨by rw[Yg b.n1];exact b.ins,b.sm.putN b.nd,b.so,b.nd,b.nr,b.ne,b.n1,b.n2⟩
def BB.rd(b:BB J H C G A Z d)(o:HO):BB J (upd H A.rd o) C G A Z d:=⟨by rw[Yg b.n2];exact b.ins,b.sm.putN b.nr,b.so,b.nd,b.nr,b.ne,b.n1,b.n2⟩
structure BT(H:Hp)(A:BA)(kv rv:List (Key×V))(ks:List (Str×Shp))(ds:List Dd):Prop where
 td:H A.td=some (.dK kv)
 rd:H A.rd=some (.dK rv)
 ke:kv.map (·.1)=ds.map (λx=>(Sum.inr x.1.1:Key))
 va:HasL H (kv.map (·.2)) (ds.map Uq)
 ro:∀x∈ds,∃l xs,VB rv (Sum.inr x.1.1)=some (.ref l)/\H l=some (.lst xs)/\HasL H xs ((Uk ks x.1.2.1).map WT)
 ln:rv.length<=ds.length
def BT.same(b:BT H A G J L T)(s:Same H B):BT B A G J L T:=
 ⟨s _ _ b.td,s _ _ b.rd,b.ke,b.va.mono s,λx M=>let⟨l,Z,R,O,N⟩:=b.ro x M;⟨l,Z,R,s _ _ O,N.mono s⟩,b.ln⟩
theorem MQ(e:TK H L):∀(u:W){v:V},Has H v u.dat->Has L v u.dat
 |.non,_,h=>by unfold W.dat Has at h |-;exact h
 |.tag _,_,h=>by unfold W.dat Has at h |-;exact h
 |.pair a b,_,h=>by
  obtain⟨p,N,M,rfl,Z,G,J⟩:=NW h;unfold W.dat Has;exact⟨p,_,Y,e _ _ Z,Z4 (MQ e a G)<|Z5<|MQ e b J⟩
theorem MR{α:Type}{D:α->Dat}(e:∀u {v:V},Has H v (D u)->Has G v (D u)):∀{J:List α}{Z:px},HasL H Z (J.map D)->HasL G Z (J.map D)
 |[],[],_=>Z6
 |[],_::_,h=>by rw[jh]at h;unfold HasL at h;exact h.elim
 |_::_,[],h=>by rw[ZV]at h;unfold HasL at h;exact h.elim
 |u::J,x::Z,h=>by
  rw[ZV]at h |-;unfold HasL at h;exact Z4 (e u h.1)<|MR e h.2
def Eg(e:TK H R){Z:List (List W)}(h:HasL H L (Z.map WT)):HasL R L (Z.map WT):=MR (λu v J=>by
 unfold WT Has at J |-;obtain⟨a,G,O,N,M⟩:=J;exact⟨a,G,O,e _ _ N,MR (λu {v}=>MQ e u) M⟩) h
def Mv(x:Dd):(Uq x).st=true:=by
 unfold Uq psD;simp[Dat.st,Dat.sts,EM,Bd.st]
theorem GE:∀Z:List Dd,Dat.sts (Z.map Uq)=true
 |[]=>by unfold List.map Dat.sts;rfl
 |x::Z=>by rw[ZV];unfold Dat.sts;rw[GE Z,Mv];rfl
def PZ(h:Has H v (Ws x)):∃a u w,v=.ref a/\H a=some (.tup [.str x.1.1,u,.str x.1.2.2,w])/\Has H u (psD x.1.2.1)/\Has H w x.2.dat:=by
 unfold Ws at h;obtain⟨t,F,rfl,O,R⟩:=Yr h;obtain⟨I,X,rfl,E,L⟩:=Yd R;obtain⟨N,C,rfl,D,G⟩:=Yd L;obtain⟨A,U,rfl,B,J⟩:=Yd G;obtain⟨M,S,rfl,T,Z⟩:=Yd J;obtain rfl:=Y9 Z;obtain rfl:=has_str E;obtain rfl:=has_str B;exact⟨t,N,M,Y,O,D,T⟩
def yt(A:BA):(UK A).lookup ("is_head":Str)=none:=rfl
def yq(A:BA):(UK A).lookup ("rows":Str)=some (V.ref A.rd):=rfl
def EO(Z:X.calm=true)(M:PG X (.Name x1 p1) t1)(L:PG X (.Name x2 p2) t2)(G:PG X (.Name x3 p3) t3)(J:PG X (.Name x4 p4) t4):
  PG X (.Tuple [.Name x1 p1,.Name x2 p2,.Name x3 p3,.Name x4 p4] k pos) (MV X.K 4<|JL t1<|JL t2<|JL t3<|JL t4 Wr):=
 Vb (n:=4) Z (Yl M<|Yl L<|Yl G<|Yl J VJ)
def BT.put(b:BT H0 A N M Q S)(P:A.td≠A.rd)(C:x.1.1∉S.map λy=>y.1.1)(R:U=upd H0 A.td (.dK<|putK N (Sum.inr x.1.1) v))(r:Has H0 v (Uq x))(s:Same U Hb)(j:Hb l=some (.lst B))(w:HasL Hb B ((Uk Q x.1.2.1).map WT))(L:H4=upd Hb A.rd (.dK<|putK M (Sum.inr x.1.1)<|.ref l)):
  BT H4 A (putK N (Sum.inr x.1.1) v) (putK M (Sum.inr x.1.1)<|.ref l) Q (S++[x]):=by
 have X:VB N (Sum.inr x.1.1)=none:=RX (by
  rw[b.ke];intro z;obtain⟨t,I,i⟩:=ZW.mp z;exact C<|ZW.mpr ⟨t,I,Sum.inr.inj i⟩)
 have F:U A.td=some (.dK<|putK N (Sum.inr x.1.1) v):=by rw[R];exact Yh
 have Z:Hb A.rd=some (.dK M):=s _ _ (by rw[R,Yg (Zs P)];exact b.rd);have D:TK H0 U:=by rw[R];exact N8 b.td λq z=>nomatch z
 have G:TK Hb H4:=by rw[L];exact N8 Z λq z=>nomatch z
 have E:TK H0 H4:=λb J h=>G _ _<|s _ _<|D _ _ h
 have p:∀b J,H0 b=some (.lst J)->H4 b=some (.lst J):=λc J h=>by
  have k:c≠A.td:=Jc h b.td (by intro z;cases z);have O:Hb c=some (.lst J):=s _ _ (by rw[R,Yg k];exact h);have g:c≠A.rd:=Jc O Z (by intro z;cases z);rw[L,Yg g];exact O
 have d:H4 l=some (.lst B):=by
  rw[L,Yg (Jc j Z (by intro z;cases z))];exact j
 exists by rw[L,Yg P];exact s _ _ F,by rw[L];exact Yh,by rw[putK_new _ X,ZK,b.ke,ZK];rfl,?_,λy u=>?_
 .rw [putK_new _ X,ZK,ZK]
  exact Z7 (W5 E _ (GE S) b.va)<|Z5<|DU E _ (Mv x) r
 .rw [V8]
  rcases ZX.mp u with m|m
  .have ny:¬(Sum.inr y.1.1:Key)=Sum.inr x.1.1:=λz=>C<|ZW.mpr ⟨y,m,Sum.inr.inj z⟩
   rw[Zq ny];obtain⟨f,T,o,O,e⟩:=b.ro y m;exact⟨f,T,o,p _ _ O,Eg E e⟩
  .cases ZQ.mp m
   rw[Zp rfl];exact⟨l,B,Y,d,Eg G w⟩
 .have:=NA M (Sum.inr x.1.1)<|.ref l
  have:=b.ln;rw[ZL,vc];omega
end L2
namespace K4
open PySem L2
section
variable{f g C CK:Addr}
def Rq(C CK:Addr):Sp:=λM H Q _=>∃(A:BA)(G:pj)(J:pF)(d:pG)(y k:Str)(Z:List (Str×Str))(v:V),M=[.ref A.t,.str y,v,.str k]/\H A.t=some (.ins C A.dx<|UK A)/\H A.td=some (.dK G)/\KI H CK A.so J d/\J.length<=6/\VB G (Sum.inr y)=none/\WdS y/\
 Has H v (psD Z)/\Z.length<=3/\(∀p∈Z,p.2∈J.map (·.1))/\(Z.map (·.1)).Nodup/\(∀p∈Z,WdS p.1)/\k∈J.map (·.1)/\∀L,Same H L->Q (.bl true) L
def OY:Yi ["self","name","parameters","kind"] ["self","name","parameters","kind"] (Ye Bk):=Y4
def Kh(G:BCl K C)(TC:KCl K CK)(F:Fun K "is_head" "Book.is_head" Bk f fd)(DN:Df P w K T base n "is_name" ["text"] (Us 97))(DA:Df P w K T base n "are_parameters" ["kinds","parameters"] (Rt CK))(r:VN K CK "names" g)(G2:Yf P w K T base CX0 n g gd ["self"] (XA CK))(b2:Binds K gd ["self"] []):Yf P w K T base CX0 (n+1) f fd ["self","name","parameters","kind"] (Rq C CK):=by
 refine F.oq OY λJ2 A R s H vs Q E N h=>?_;obtain⟨D,kv,L,d,y,k,m,v,rfl,B,ht,I,i,c,⟨j,X,U⟩,a,b,p,u,O,hk,q⟩:=h;have x:=V7 N;refine⟨_,YZ (Y5 (PW.pt<|UH (JX<|JS<|Vc DN N<|pa1<|pv 1)<|Jg<|Jh<|U0 x (pv 1)<|Yt (pv 0) rfl) (Yb JV) Yo)
  (Yb<|Yn<|Xa (Vc DA N<|pa2 (Yt (pv 0) rfl)<|pv 2)<|Uz<|JE XF (pv 3) (Vo (Yt (pv 0) rfl) TC.cl r G2 N b2 .nil Y1) rfl),?_⟩
 dsimp only[Vh,Cx.nox,Cx.wish];refine⟨y,Y,j,X,U,λH1 J=>⟨_,Y,Y6 (by simp) ?_⟩⟩;refine⟨C,_,_,_,J _ _ B,G.cl,G.td,FW _,_,(show Vi H1 D.td (.str y) none by rw[<-c];exact Vi.k (k:=Sum.inr y)<|J _ _ ht),_,Y,Y6 (by simp) ?_⟩;refine⟨C,_,_,_,J _ _ B,G.cl,G.so,LR _,D.so,L,d,m,v,Y,I.mono J,i,a.mono J,b,p,u,O,λH2 t=>⟨true,Y,VP Y ?_⟩⟩;have Z:=J.trans t;have M:=I.mono Z;obtain⟨AK,SK,e1,o,kr⟩:=id M;refine⟨C,_,_,_,Z _ _ B,G.cl,G.so,LR _,_,_,by rw[<-e1];exact o.ins,Y,D.so,L,d,Y,M,λl H3 z hl S=>?_⟩;have el:(L.map λk=>V.str k.1)=(L.map (·.1)).map V.str:=by rw[vm];rfl
 rw[el]at S;exists l,_,Y,.inl<|Z3 S,rfl,Jx _;rw[UR];have e:decide (k∈L.map (·.1))=true:=decide_eq_true hk;dsimp only[rI0,rI,U3];rw[e];exact q H3<|Z.trans z
end
section
variable{f g C CK:Addr}
def IR(C CK:Addr):Sp:=λO H Q _=>∃(G:Hp)(A:BA)(N:Addr)(M:px)(Z:pF)(c d:pG)(J:List Dd),O=[.ref A.t,.ref N]/\BB G H C CK A Z d/\BT H A [] [] Z []/\KK 30 c d Z/\Z.length<=6/\G N=some (.lst M)/\HasL G M (J.map Ws)/\0<J.length/\J.length<=8/\
 Wds 97 (J.map λx=>x.1.1)/\(∀x∈J,P7 (Z.map (·.1)) c 50 x.1)/\∀L T R,BB G L C CK A Z d->BT L A T R Z J->Q .non L
def Xm:Yi ["self","definitions","in_all","number","name","parameters","kind","body","count"] ["self","definitions"] (Ye Bg):=Y4
def Kf(B:Blt T)(me:T "enumerate"=none)(R:BCl K C)(F:Fun K "take_heads" "Book.take_heads" Bg f fd)(h1:T "MOST_DEFINITIONS"=some u1)(r1:RelV (.int 8) u1)(h2:T "MOST_ROWS"=some u2)(r2:RelV (.int 200) u2)(h3:T "MOST_ROWS_IN_ALL"=some u3)(r3:RelV (.int 400) u3)(mH:VN K C "is_head" g)(GH:Yf P w K T base CX0 n g gd ["self","name","parameters","kind"] (Rq C CK))(bH:Binds K gd ["self","name","parameters","kind"] [])(DC:Df P w K T base n "row_count" ["kinds","parameters"] (XW CK))(DO:Df P w K T base n "rows_over" ["kinds","parameters"] (XU CK)):Yf P w K T base CX0 (n+1) f fd ["self","definitions"] (IR C CK):=by
 refine F.oq Xm λD1 A R8 s H vs Q E hr h=>?_;obtain⟨Hm,D,dl,zs,o,c,d,ds,rfl,bb,bt,kk,k6,X,J2,d0,d8,wd,ho,q⟩:=h;have hu:=V7 hr;have lz:=J2.length;rw[ZA]at lz;refine⟨_,YZ (Y5 (Yp Vl (VF Y8 Y B.len Zu (pa1<|pv 1)) Yc<|Yz _) (Yb JV) Yo)
  (YZ (Yw 2 Xm.nd Yc)
  (Yb (V5 Zv rfl (W0 rfl me (pa1<|pv 1)) (Vb (n:=2) rfl (Yl (Yj 3 Xm.nd)<|Yl (EO rfl (Yj 4 Xm.nd) (Yj 5 Xm.nd) (Yj 6 Xm.nd) (Yj 7 Xm.nd)) VJ))
   (YZ (Y5 (PW.pt<|UH (Yp KN (pv 3) (Ja rfl h1 r1)<|Yz _)<|Jg<|JX<|JS<|Y3 (pv 0) R.cl mH GH hr bH .nil Y1<|pa3 (pv 4) (pv 5)<|pv 6) (Yb JV) Yo)
   (YZ (Yw 8 Xm.nd<|Vc DC hr<|pa2 (Yt (pv 0) rfl)<|pv 5)
   (YZ (Iq (i:=2) Xm.nd rfl (Or.inl rfl) (pv 8) PV)
   (YZ (Y5 (PW.pt<|UH (Yp Gs (pv 8) (Ja rfl h2 r2)<|Yz _)<|Jg<|Yp Gs (pv 2) (Ja rfl h3 r3)<|Yz _) (Yb JV) Yo)
   (YZ (Vs hu (Yt (pv 0) rfl) (pv 4) (Yq<|pa3 (pv 5) (pv 6)<|pv 7) rfl)
   (Yb<|Vs hu (Yt (pv 0) rfl) (pv 4) (Vc DO hr<|pa2 (Yt (pv 0) rfl)<|pv 5) rfl))))))))),?_⟩
 dsimp only[Vh,Cx.nox,Cx.wish];show let a:=_;let b:=Yk _ a;let c:=_;let d:=Yk (VG _ c _) b;let e:=Yk _ d;let f:=Yk _ e;let g:=_;let h:=Yk (VG _ g _) f;let i:=UX _ _ h;let j:=Yk _ i;let k:=_;Yk (VG _ k _) j _ _ _
 intros
 refine⟨dl,_,Y,.inl<|Z3<|bb.sm _ _ X,rfl,_,rfl,Y6 (λz=>by have z1:=Zt z;injection z1 with z2;omega) ?_⟩;refine Lv ?_;exists dl,false,zs,Y,Z3<|bb.sm _ _ X
 let I:pB:=λi U t=>BB Hm t C CK D o d/\∃(M v:pj)(n:Nat)(z3 z4 z5 z6 z7 z8:pD),BT t D M v o (ds.take i)/\n<=50*i/\U=[some (.ref D.t),some<|.ref dl,some<|.int (n:Nat),z3,z4,z5,z6,z7,z8]
 refine Ma (tp:=false) (xs:=zs) I
  ⟨bb,[],[],0,_,_,_,_,_,_,bt,ZG _,rfl⟩ (λi U t _ z=>Z3<|z.1.sm _ _ X) ?_ ?_
 .rintro BB' RR i x U t r hx ⟨bbi,M,v,n',z3,z4,z5,z6,z7,z8,bti,n40,rfl⟩ hr'
  obtain⟨dd,G,T6⟩:=J2.get hx;rw[ZH]at G
  cases hc:ds[i]? with
  |none=>rw[hc]at G;cases G
  |some Z=>
   rw[hc]at G;cases G;have i8:=(ZF.mp hc).1;have hm:=ZJ hc;obtain⟨p3,pk,hk,R7,R6,D0⟩:=ho Z hm;refine up_in hr' _ λHR sR gR=>?_;have J:=bbi.same sR;have btR:=bti.same sR;obtain⟨ta,u,wv,rfl,T4,G1,T1⟩:=PZ<|T6.mono J.sm
   have nx:Z.1.1∉(ds.take i).map λy=>y.1.1:=by
    rw[qV];exact Tv wd.nd (show(ds.map λy:Dd=>y.1.1)[i]?=some Z.1.1 by rw[ZH,hc];rfl)
   have nk:VB M (Sum.inr Z.1.1)=none:=RX (by
    rw[bti.ke];intro z;obtain⟨q1,T5,e1⟩:=ZW.mp z;exact nx<|ZW.mpr ⟨q1,T5,Sum.inr.inj e1⟩)
   have lk:M.length<=8:=by
    have:=congrArg List.length bti.ke;rw[ZA,ZA,ZN]at this;omega
   have lr:=bti.ln;rw[ZN]at lr;refine⟨_,Z2 gR,Y,⟨_,Z2 T4,Y,?_⟩⟩;refine⟨_,Y,Y6 (by simp;omega) ?_⟩;refine⟨_,_,J.ins,yt _,D,M,o,d,Z.1.1,Z.1.2.2,Z.1.2.1,u,Y,J.ins,btR.td,J.so.mono J.sm,k6,nk,wd.wdS<|ZW.mpr ⟨Z,hm,rfl⟩,G1,p3,pk,R7,R6,hk,λH1 s1=>⟨_,rfl,Y6 (by simp) ?_⟩⟩;have O:=J.same s1;have T8:=btR.same s1;have S:=G1.mono s1;refine⟨C,_,_,_,O.ins,R.cl,R.so,LR _,D.so,o,c,d,Z.1.2.1,u,Y,O.so.mono O.sm,kk,S,pk,by omega,λH2 p=>?_⟩;have T9:=O.same p;have T7:=T8.same p;exists _,Y;refine⟨_,Y,Y6 (by simp;omega) ?_⟩;refine⟨_,Y,Y6 (by simp;omega) ?_⟩;refine⟨sl 3,λtt T3=>?_⟩;refine up_in T3 _ λH3 m g3=>?_;have M2:=T9.same m;have N:=T7.same m;have T2:Has H3 (.ref tt) (Uq Z):=Yx g3<|Z4 ((S.mono p).mono m)<|Z4 VA<|Z5<|((T1.mono s1).mono p).mono m;refine⟨C,_,_,_,M2.ins,R.cl,R.td,FW _,_,UU.k (k:=Sum.inr Z.1.1) N.td<|Yv<|by omega,?_⟩;have L:=M2.td<|.dK<|putK M (Sum.inr Z.1.1)<|.ref tt;obtain⟨H4,e4⟩:∃H4,H4=upd H3 D.td (.dK<|putK M (Sum.inr Z.1.1)<|.ref tt):=⟨_,rfl⟩;have O1:TK H3 H4:=by rw[e4];exact N8 N.td λys z=>nomatch z
   have R1:H4 D.rd=some (.dK v):=by rw[e4,Yg (Zs bb.ne)];exact N.rd
   rw[<-e4]at L;dsimp only[rI0,rI,U3];rw[<-e4];refine⟨C,_,_,_,L.ins,R.cl,R.so,LR _,D.so,o,c,d,Z.1.2.1,u,Y,L.so.mono L.sm,kk,DU O1 _ (by unfold psD;unfold Dat.st;exact EM _)<|(S.mono p).mono m,pk,p3,by omega,λl xs H5 s5 fl hl T0=>?_⟩;have G3:=L.same s5;refine⟨C,_,_,_,G3.ins,R.cl,R.rd,yq _,_,UU.k (k:=Sum.inr Z.1.1) (s5 _ _ R1)<|Yv<|by omega,?_⟩;have G2:=N.put bb.ne nx e4 T2 s5 hl T0 rfl;rw[<-take_snoc hc]at G2;exact⟨G3.rd _,_,_,n'+V0 c Z.1.2.1,_,_,_,_,_,_,G2,by omega,Y⟩
 .rintro U t ⟨bbi,M,v,n',z3,z4,z5,z6,z7,z8,bti,n40,rfl⟩
  rw[Zg (by omega)]at bti;exact q t M v bbi bti
end
end K4
namespace L2
open PySem
def BD.mono(k:BD H C M A Z J d G)(e:Same H L):BD L C M A Z J d G:=⟨e _ _ k.ins,k.so.mono e,e _ _ k.td,k.ke,k.va.mono e,k.nd⟩
def By(n:b≠x)(h:H b=some o):Xo H x b=some o:=by unfold Xo;rw[Zq n];exact h
def KI.out(k:KI H R t L d)(N:H x=some (.ins C O [])):KI (Xo H x) R t L d:=by
 obtain⟨A,S,rfl,Z,M⟩:=k;have go:∀{b:Addr}{o:HO},H b=some o->o≠.ins C O []->Xo H x b=some o:=λ{b o} h n=>By (Jc h N n) h;have G:TL H (Xo H x):=⟨λb J h=>go h (by intro z;cases z),λb J h=>go h (by intro z;cases z)⟩;refine⟨A,S,Y,⟨go Z.ins λz=>?_,go Z.sh (λz=>by cases z),go Z.wo (λz=>by cases z),go Z.he (λz=>by cases z),go Z.pd (λz=>by cases z),go Z.tk (λz=>by cases z),go Z.pk (λz=>by cases z),Z.nd⟩,M.tl G⟩;injection z with _ _ z;unfold TF at z;cases z
end L2
namespace K4
open PySem L2
section
variable{f g C CK N fI:Addr}
structure vH(x:Dd):Prop where
 ok:x.2.ok
 dep:x.2.dep<=12
 size:x.2.size<=100
def Jn:Yi ["self","number","name","parameters","kind","body","found","place"] ["self"] (Ye R5):=Y4
def zN(A:BA):(UK A).lookup ("names":Str)=none:=rfl
def OX:Yi ["self","kinds","definitions"] ["self","kinds","definitions"] (Ye Bj):=Y4
def yp(A:BA):(UK A).lookup ("take_heads":Str)=none:=rfl
def yu(A:BA):(UK A).lookup ("check_bodies":Str)=none:=rfl
end
end K4
namespace L2
open PySem
def PN{K:W.Frag}(X:K.In h)(L:K.lookup a=some ⟨.type "dict",none,.dict Z n,#[]⟩)(M:W.KeysLit w.params Z.toList):h.MapOf (Y7 P w) a λk=>findBy JH Z k:=by
 have keys:KeysOf (Y7 P w) Z:=λd N=>by
  have⟨x,t,J,G⟩:=W.KeysLit.all M d (by simpa using N);refine⟨Sum.inr x,?_,G⟩;show JH (Sum.inr x) d.key=true;rw[J,Wc]
 exact⟨_,Z,n,X a _ L,⟨Y,Y,Y⟩,Y,keys,λk=>Y⟩
def Gx(Z:K.lookup a=some ⟨.type "dict",none,.dict J n,#[]⟩)(e:W.nsIn K a x=some (some v)):findBy JH J (Sum.inr x)=some v:=by
 have q:=W.find_K Z e;exact q
end L2
namespace K4
open PySem L2
section
variable{f g C CK:Addr}
abbrev wps:kZ:=["book","around","body"]
def RA(P:Program)(w:World)(K:W.Frag)(mg:Str->Option Value)(base:Heap)(C CK:Addr)(mR:Key->Option Value)(x:Str)(p:Bd->Prop):Prop:=∃g Z,mR (Sum.inr x)=some (.ref g)/\Yf P w K mg base CX0 3 g Z rps (GQ C CK p)/\W.keepIn K (.ref g)=true/\Binds K Z rps []
def RA.at(r:RA P w K J base C CK G x p)(L:Nat)(e:b.word=x)(h:p b):∃(g:Addr)(Z:FuncData)(p:Bd->Prop),G (Sum.inr b.word)=some (.ref g)/\Yf P w K J base CX0 (L+3) g Z rps (GQ C CK p)/\p b/\W.keepIn K (.ref g)=true/\Binds K Z rps []:=by
 obtain⟨g,Z,R,O,N,M⟩:=r;exact⟨g,Z,p,by rw[e];exact R,O.mono<|by omega,h,N,M⟩
end
end K4
namespace L2
open PySem PySem.Spec PyProof.Rows
end L2
namespace L2
open PySem
def Fun.oi{K:W.Frag}{L:Stmt}(F:Fun K x qual L f B)(S:Yi N R (Ye L))(J:∀(M:Value)(A:Around)(Z:List Env)(s:Shared)(H:Hp)(G:px)(Q:VK)(E:XK),Vr k (A.deeper<|PyProof.Rows.envOfC qual (Ye L) s.heap.objs.size f M)->O G H Q E->
   ∃t,PSs (Vh CX0 P w K T base N qual (Ye L) f M A Z s H E).nox (Vw L) t/\t {nx:=λ_ D=>Q .non D,rt:=Q} (start N G) H)(len:∀G H Q E,O G H Q E->G.length=R.length:=by intro G H Q E h;cases h;rfl):Yf P w K T base CX0 (k+1) f B R O:=F.ok S len J
def JR(h:n<=10000):n<sizeLine:=j8 h<|by decide
structure Itx(J:It)(H:Hp)(xs:List V):Prop where
 go:∀i,i<xs.length->J.go i H
 stop:J.stop xs.length H
 yld:∀i x H',J.yld i H x H'->H'=H/\xs[i]?=some x
def itl(h:SqL K H a Z):Itx (Itl K a) H Z:=⟨λi J=>⟨Z,Z[i],h,ZD J⟩,⟨Z,h,ZG _⟩,λi x G y=>⟨y.1,y.2 Z h⟩⟩
def itt(h:SqT K H a Z):Itx (Itt K a) H Z:=⟨λi J=>⟨Z,Z[i],h,ZD J⟩,⟨Z,h,ZG _⟩,λi x G y=>⟨y.1,y.2 Z h⟩⟩
def getD{α:Type}{J:List α}{D:α->Dat}{H:Hp}{Z:px}{i:Nat}{x:V}(h:HasL H Z (J.map D))(e:Z[i]?=some x):∃u,J[i]?=some u/\Has H x (D u):=by
 obtain⟨d,G,M⟩:=h.get e;rw[ZH]at G;obtain⟨u,L,rfl⟩:=Zj.mp G;exact⟨u,L,M⟩
def Ng{α:Type}{us:List α}{D E:α->Dat}(L:Itx J H M)(O:HasL H M (us.map D))(C:us.length<=10000)(I:∀u x (R:V->Hp->Prop),u∈us->Has H x (D u)->(∀v,Has H v (E u)->R v H)->g x s0 H λB U=>te B U R)(S:∀Z p G,H p=none->Same H G->G p=some (.lst Z)->HasL G Z (us.map E)->Q (.ref p) G):Te J g te s0 Q H:=by
 have N:=O.length;rw[ZA]at N;refine Vj M.length (JR<|by omega) (λi Z G=>G=H/\Z.length=i/\HasL H Z ((us.take i).map E)) ⟨rfl,rfl,Z6⟩ (λi Z G z=>z.2.1) ?_ ?_ ?_ ?_
 .rintro i Z G hi ⟨rfl,_⟩
  exact L.go i hi
 .rintro Z G ⟨rfl,_⟩
  exact L.stop
 .rintro i Z G x H'' R hi ⟨rfl,z2,z3⟩ yl rT
  obtain⟨rfl,y⟩:=L.yld i x H'' yl;obtain⟨u,T,A⟩:=getD O y;refine I u x R (ZJ T) A λv F=>rT _ _ ⟨Y,by rw[ZL,z2];rfl,?_⟩;rw[take_snoc T,ZK];exact Z7 z3<|Z5 F
 .rintro Z G p ⟨rfl,z2,z3⟩ hp
  rw[Zg (qv N.symm)]at z3;exact S Z p _ hp (Yu hp _) Yh<|z3.mono<|Yu hp _
def Nh{α:Type}{us:List α}{D F:α->Dat}(O:∀Z,Same H Z->Itx J Z T)(A:HasL H T (us.map D))(j:us.length<=10000)(U:∀u x N (R:V->Hp->Prop),u∈us->Same H N->Has N x (D u)->(∀v M,Same N M->Has M v (F u)->R v M)->g x s0 N λL P=>te L P R)(C:∀G q Z,H q=none->Same H Z->Z q=some (.lst G)->HasL Z G (us.map F)->Q (.ref q) Z):Te J g te s0 Q H:=by
 have E:=A.length;rw[ZA]at E;refine Vj T.length (JR<|by omega) (λi G Z=>Same H Z/\G.length=i/\HasL Z G ((us.take i).map F)) ⟨Z8 _,rfl,Z6⟩ (λi G Z z=>z.2.1) ?_ ?_ ?_ ?_
 .rintro i G Z hi ⟨s,_⟩
  exact(O Z s).go i hi
 .rintro G Z ⟨s,_⟩
  exact(O Z s).stop
 .rintro i G Z x H'' R hi ⟨s,z2,z3⟩ yl rT
  obtain⟨rfl,y⟩:=(O Z s).yld i x H'' yl;obtain⟨u,I,S⟩:=getD A y;refine U u x _ R (ZJ I) s (S.mono s) λv M B X=>rT _ _ ⟨s.trans B,by rw[ZL,z2];rfl,?_⟩;rw[take_snoc I,ZK];exact Z7 (z3.mono B)<|Z5 X
 .rintro G Z q ⟨s,z2,z3⟩ hq
  rw[Zg (qv E.symm)]at z3;have L:=Yu hq<|.lst G;exact C G q _ (s.free hq) (s.trans L) Yh<|z3.mono L
def XN{K:W.Frag}{Q:VK}(O:Has H x (Jy Z))(L:Has H y (Jy J))(n:J≠[])(l:Z.length+J.length<=1000)(q:∀u G,Same H G->Has G u (Jy<|Z++ J)->Q u G):Ux K x y H Q\/Uw K x y H Q:=by
 obtain⟨a,rfl,N⟩:=Ju O;obtain⟨b,rfl,M⟩:=Ju L
 cases Z with
 |nil=>exact .inl ⟨a,b,_,Y,Y,Z2 N,Z2 M,q _ H (Z8 _) L⟩
 |cons w Z=>
  refine .inr ⟨a,b,_,_,Y,Y,Z2 N,Z2 M,(by simp),?_,(λz=>Zr (List.map_eq_nil_iff.mp z) n),λ_ p R=>?_⟩
  .rw [ZA,ZA];exact Zh<|Yv l
  .exact q _ _ (Yu R _) (JC<|by rw[Yh,ZK])
def XG(h:H a=some (.tup [.int k])):Has H (.ref a) (Jy [k]):=JC h
end L2
namespace K4
open PySem L2
end K4
namespace L2
open PySem
end L2
namespace K4
open PySem L2
end K4
namespace L2
open PySem
end L2
namespace K4
open PySem L2
section
def JU:bootBuiltins "list"=some (.type "list"):=by decide +kernel
end
end K4
namespace L2
open PySem
end L2
namespace K4
open PySem L2
end K4
namespace L2
open PySem
end L2
namespace K4
open PySem L2
end K4
namespace L2
open PySem
end L2
namespace K4
open PySem L2
end K4
namespace L2
open PySem
def okW(ks:pF):W->Str->Prop
 |.non,_=>True
 |.tag x,y=>∃ts,Vf ks y=some (.tags ts)/\x∈ts
 |.pair u v,y=>∃a b,Vf ks y=some (.pair a b)/\okW ks u a/\okW ks v b
end L2
namespace K4
open PySem L2
section
variable{CK:Addr}
def Ab(A:KA6):(TF A).lookup ("is_worth":Str)=none:=rfl
abbrev iwp:kZ:=["self","kind","thing"]
def QJ:Yi ["self","kind","thing","shape"] iwp (Ye Xn):=Y4
inductive zX(CK:Addr)(n:Nat)(H:Hp)(Q:VK):List V->Prop
 |mk (t:Addr) (y:Str) (v:V) (ks:List (Str×Shp)) (d:Str->Nat) (wo:W) (ki:KI H CK t ks d) (hv:Has H v wo.dat) (ok:okW ks wo y) (dn:wo.dep<n) (q:Q (.bl true) H):zX CK n H Q [.ref t,.str y,v]
def M5(CK:Addr)(n:Nat):Sp:=λZ H Q _=>zX CK n H Q Z
def S4(B:Blt r)(T:KCl K CK)(F:Fun K "is_worth" "Kinds.is_worth" Xn f g)(G:Yf P w K r base CX0 L f g iwp (M5 CK n))(bG:Binds K g iwp [])(l:VN K CK "is_worth" f):Yf P w K r base CX0 (L+1) f g iwp (M5 CK<|n+1):=by
 refine F.oi QJ λJ2 A R s H vs Q E C h=>?_;obtain⟨t,y,v,o,d,wo,ki,N,O,dn,q⟩:=h;have hu:=V7 C;refine⟨_,YZ (Y5 (Yp Gr (pv 2) JJ<|Yz _) (Yb<|Yn<|J4) Yo)
  (YZ (Yw 3 QJ.nd<|Vt hu (Yt (pv 0) rfl) (pv 1) λ_ _=>rfl)
  (YZ (Y5 (Yp Vl (Ys Yy (pv 3)<|Yc) Y0<|Yz _) (Yb<|Yn<|Xa (ME rfl B.isi rfl B.str Wh (pv 2))<|Uz<|JE XF (pv 2) (Ys Yy (pv 3)<|Yc) rfl) Yo)
  (YZ (Y5 (PW.pt<|UH (JX<|JS<|ME rfl B.isi rfl B.tuple Jp (pv 2))<|Jg<|Yp UO (VF Y8 rfl B.len Zu (pa1<|pv 2)) Yc<|Yz _) (Yb<|Yn<|J4) Yo)
  (Yb<|Yn<|Xa (Y3 (pv 0) T.cl l G C bG .nil Y1<|pa2 (Ys Yy (pv 3)<|Yc)<|Ys Yy (pv 2)<|Yc)<|Uz<|Y3 (pv 0) T.cl l G C bG .nil Y1<|pa2 (Ys Yy (pv 3)<|Yc)<|Ys Yy (pv 2)<|Yc)))),?_⟩
 dsimp only[Vh,Cx.nox,Cx.wish];show let T0:=_;let T1:=_;let T2:=Yk (VG _ T1 _) T0;let T3:=_;let T4:=Yk (VG _ T3 _) T2;let T5:=Yk _ T4;let T6:=_;Yk (VG _ T6 _) T5 _ _ _
 intros
 have M:=ki;obtain⟨A',S,rfl,Z,i⟩:=ki
 cases wo with
 |non=>
  have e:v=.non:=by unfold W.dat Has at N;exact N
  subst e;exact⟨Y,_,Y,VP Y q⟩
 |tag x=>
  have e:v=.str x:=has_str N;subst e;unfold okW at O;obtain⟨ts,U,hm⟩:=O;refine⟨Y,_,Y,Y6 (by simp) ?_⟩;obtain⟨v0,m,z⟩:=WL Z i U;obtain⟨b,c,rfl,J,I⟩:=G5 z;exists CK,_,_,_,Z.ins,T.cl,T.sh,FZ _,_,m;refine⟨_,.str "tags",Z2 J,VC (j:=0) Y,Y,_,Y,VP (by decide +kernel) ?_⟩;refine⟨_,_,_,_,Y,.str x,G0 K "str",_,Y,VP Y ?_⟩;exists _,.ref c,Z2 J,VC (j:=1) Y,c,_,Y,.inr<|Z2 I,rfl,Jx _;rw[UR x ts,decide_eq_true hm];exact q
 |pair u k=>
  have D:=N;obtain⟨p,x1,x2,rfl,X,h1,h2⟩:=NW N;unfold okW at O;obtain⟨a,b,U,o1,o2⟩:=O;have da:u.dep<n:=by unfold W.dep at dn;omega
  have db:k.dep<n:=by unfold W.dep at dn;omega
  refine⟨Y,_,Y,Y6 (by simp) ?_⟩;obtain⟨v0,m,z⟩:=WL Z i U;obtain⟨b',rfl,J⟩:=G6 z;exists CK,_,_,_,Z.ins,T.cl,T.sh,FZ _,_,m;refine⟨_,.str "pair",Z2 J,VC (j:=0) Y,Y,_,Y,Y6 (by decide +kernel) ?_⟩;refine⟨_,_,_,_,Y,AW (K:=K) D,AI K _ (by simp),_,Y,Y6 (by simp[isD,tyD,W.dat]) ?_⟩;refine⟨p,_,Y,.inr<|Z2 X,rfl,_,rfl,Y6 (by simp) ?_⟩;exists _,_,Z.ins,Ab _,_,_,Z2 J,VC (j:=1) Y,_,_,Z2 X,VC (j:=0) Y;refine⟨_,a,x1,o,d,u,M,h1,o1,da,_,Y,VP Y ?_⟩;exists _,_,Z.ins,Ab _,_,_,Z2 J,VC (j:=2) Y,_,_,Z2 X,VC (j:=1) Y;exact⟨_,b,x2,o,d,k,M,h2,o2,db,q⟩
theorem K6(B:Blt L)(T:KCl K CK)(F:Fun K "is_worth" "Kinds.is_worth" Xn f J)(G:Binds K J iwp [])(Z:VN K CK "is_worth" f):∀n:Nat,Yf P w K L base CX0 (n+1) f J iwp<|M5 CK n
 |0=>.none λO H Q E h=>by
  obtain⟨t,y,v,D,d,N,A,I,R,M,q⟩:=h;exact Zr M<|by omega
 |n+1=>S4 B T F (K6 B T F G Z n) G Z
end
end K4
namespace L2
open PySem
def Fe{K:W.Frag}(T:∀Z,Same H Z->Sq K t1 Z a L)(O:∀Z,Same H Z->Sq K t2 Z b G)(X:L.length=n)(C:G.length=n)(P:n<=100)(A:∀(i:Nat) x y r N (R:V->Hp->Prop),L[i]?=some x->G[i]?=some y->Same H N->N r=some (.tup [x,y])->R (.bl true) N->g (.ref r) s0 N λM U=>te M U R)(S:∀p Z,H p=none->Same H Z->Z p=some (.lst<|(List.replicate n true).map V.bl)->Q (.ref p) Z):Te (Itz K t1 a t2 b) g te s0 Q H:=by
 refine Vj n (JR<|by omega) (λi J Z=>Same H Z/\J.length=i/\J=(List.replicate i true).map V.bl) ⟨Z8 _,rfl,rfl⟩ (λi J Z z=>z.2.1) ?_ ?_ ?_ ?_
 .rintro i J Z hi ⟨s,_⟩
  exact⟨L,G,L[i]'(by omega),G[i]'(by omega),T Z s,O Z s,ZD _,ZD _⟩
 .rintro J Z ⟨s,_⟩
  exact⟨L,G,T Z s,O Z s,.inr<|by omega⟩
 .rintro i J Z x H'' R hi ⟨s,z2,z3⟩ yl rT
  obtain⟨r,D,B,rfl,I,rfl,F,E⟩:=yl;have M:=Yu I<|.tup [D,B];refine A i D B r _ R (F L<|T Z s) (E G<|O Z s) (s.trans M) Yh<|rT _ _ ⟨s.trans M,by rw[ZL,z2];rfl,?_⟩;rw[z3,List.replicate_succ',ZK];rfl
 .rintro J Z p ⟨s,z2,z3⟩ hp
  have M:=Yu hp<|.lst J;exact S p _ (s.free hp) (s.trans M)<|by rw[Yh,z3]
def Pb{K:W.Frag}:∀x U H (Q Z:pC),(∀a b,Q a b->Z a b)->MV K 2 (JL (Vm i)<|JL (Vm j) Wr) x U H Q->MV K 2 (JL (Vm i)<|JL (Vm j) Wr) x U H Z:=λx U H Q Z h q=>by
 match x,q with
 |.ref a,q=>
  obtain⟨J,L,G,q⟩:=q;exists J,L,G
  match J,G,q with
  |[u,v],_,q=>exact h _ _ q
def zK{K:W.Frag}:GK 3 (MV K 2<|JL (MV K 2<|JL (Vm 0)<|JL (Vm 1) Wr)<|JL (Vm 2) Wr):=
 DX (XJ (DX (XJ (Vv (i:=0)<|by decide) (XJ (Vv (i:=1)<|by decide) DY (λ_ _ _ _ _ h z=>h _ _ z) (λx _ _ _ _ h z=>by
  match x,z with
  |[],z=>exact h _ _ z)) (λ_ _ _ _ _ h z=>h _ _ z) (λx _ _ _ _ h z=>by
  match x,z with
  |[v],z=>exact h _ _ z))) (XJ (Vv (i:=2)<|by decide) DY (λ_ _ _ _ _ h z=>h _ _ z) (λx _ _ _ _ h z=>by
  match x,z with
  |[],z=>exact h _ _ z)) Pb (λx _ _ _ _ h z=>by
  match x,z with
  |[v],z=>exact h _ _ z))
end L2
namespace K4
open PySem L2
section
variable{C CK:Addr}
def OV:Yi ["self","F"] ["self","F"] (Ye Bl):=Y4
inductive Lz(C CK:Addr)(H:Hp)(Q:VK):List V->Prop
 |mk (t:Addr) (ks:List (Str×Shp)) (d:Str->Nat) (ds:List Dd) (x:Dd) (b:BI H C CK t ks d ds) (hx:x∈ds) (q:∀v,Has H v x.2.dat->Q v H):Lz C CK H Q [.ref t,.str x.1.1]
def Rn(C CK:Addr):Sp:=λZ H Q _=>Lz C CK H Q Z
def Kg(T:BCl K C)(F:Fun K "body_of" "Book.body_of" Bl f S)(m:VN K C "told_of" g)(G:Yf P w K L base CX0 n g I ["self","F"] (GP C CK))(j:Binds K I ["self","F"] []):Yf P w K L base CX0 (n+1) f S ["self","F"] (Rn C CK):=by
 refine F.oi OV λX A Z s H k Q E B h=>?_;obtain⟨t,M,d,U,x,b,N,q⟩:=h;obtain⟨z,p,rfl,y⟩:=id b;exists _,Yb<|Yn<|Ys Yy (Y3 (pv 0) T.cl m G B j .nil Y1<|pa1<|pv 1) Yc;refine⟨_,_,y.ins,AY _,z.t,M,d,U,x,Y,b,N,λv R=>?_⟩;obtain⟨a,u,J,rfl,D,_,O⟩:=Xv R;exact⟨_,_,Z2 D,Y,q J O⟩
def yH:Yi ["kinds","parameters","worths"] ["kinds","parameters","worths"] (Ye XY):=Y4
def B5:List.Nodup [("name":Str),"kind","worth","kinds"]:=by decide +kernel
inductive SRO(CK:Addr)(H:Hp)(Q:VK):List V->Prop
 |mk (so a b:Addr) (us xs:List V) (ks:List (Str×Shp)) (d:Str->Nat) (ps:List (Str×Str)) (wos:List W) (ki:KI H CK so ks d) (ha:H a=some (.tup us)) (hu:HasL H us (ps.map λp=>.tup [.str p.1,.str p.2])) (hb:H b=some (.tup xs)) (hx:HasL H xs (wos.map W.dat))
  (ln:wos.length=ps.length) (l3:ps.length<=3) (ok:∀(i:Nat)(p:Str×Str)(u:W),ps[i]?=some p->wos[i]?=some u->okW ks u p.2/\u.dep<3) (q:∀H',Same H H'->Q (.bl true) H'):SRO CK H Q [.ref so,.ref a,.ref b]
def Q2(CK:Addr):Sp:=λZ H Q _=>SRO CK H Q Z
def Cg(B:Blt k)(T:KCl K CK)(F:Fun K "is_row_over" "is_row_over" XY f fd)(m:VN K CK "is_worth" g)(G:Yf P w K k base CX0 n g gd iwp (M5 CK 3))(bG:Binds K gd iwp []):Yf P w K k base CX0 (n+1) f fd ["kinds","parameters","worths"] (Q2 CK):=by
 refine F.oi yH λG1 A J s H vs Q E hr h=>?_;obtain⟨so,a,b,us,xs,ks,d,z,J2,u,X,l,U,v,ln,l3,ok,q⟩:=h;refine⟨_,YZ (Y5 (Yp UO (VF Y8 Y B.len Zu (pa1<|pv 2)) (VF Y8 rfl B.len Zu (pa1<|pv 1))<|Yz _) (Yb<|Yn<|J4) Yo)
  (Yb<|Yn<|VF (Nn rfl) rfl B.all RL (pa1<|JN ["name","kind","worth"] [0] (Sg rfl B.zip (pa2 (pv 1)<|pv 2)) zK (λcl C o s H=>Vb (n:=2) rfl (Yl (Vb (n:=2) rfl (Yl (Yj 0 B5 rfl (Or.inl rfl) (Or.inr rfl))<|Yl (Yj 1 B5 rfl (Or.inl rfl) (Or.inr rfl)) VJ))<|Yl (Yj 2 B5 rfl (Or.inl rfl) (Or.inr rfl)) VJ)) λcl C o s H=>Y3 (pv 3) T.cl m G hr bG .nil Y1<|pa2 (pv 1)<|pv 2)),?_⟩
 dsimp only[Vh,Cx.nox,Cx.wish];show let T0:=_;let T1:=_;Yk (VG _ T1 _) T0 _ _ _
 intros
 have L:=l.length;have c:=v.length;rw[ZA]at L c;refine⟨b,_,Y,.inr<|Z2 U,a,_,rfl,.inr<|Z2 X,rfl,_,rfl,Y6 (by simp[L,c,ln]) ?_⟩;exists a,b,true,true,us,xs,Y,Z2 X,Z2 U;refine Fe (n:=z.length) (λH' s=>Z2<|s _ _ X) (λH' s=>Z2<|s _ _ U) L (by omega) (by omega) (λi x y r H1 R hi hj Z N hR=>?_) λp H' o Z hp=>?_
 .obtain ⟨pr,hpr,hd1⟩:=getD l hi
  obtain⟨j,M,I⟩:=getD v hj;obtain⟨t,ys,rfl,ht,hl⟩:=Yr hd1;obtain⟨x1,r1,rfl,e1,D⟩:=Yd hl;obtain⟨x2,r2,rfl,e2,O⟩:=Yd D;obtain rfl:=Y9 O;obtain rfl:=has_str e1;obtain rfl:=has_str e2;obtain⟨o1,o2⟩:=ok i pr j hpr M;obtain⟨A',S,eA,kd,kr⟩:=id<|u.mono Z;subst eA;exists _,Z2 N,Y,_,Z2<|Z _ _ ht,rfl;exact⟨_,_,kd.ins,Ab _,_,pr.2,y,ks,d,j,u.mono Z,I.mono Z,o1,o2,hR⟩
 .refine ⟨p,_,rfl,Z3 hp,?_⟩
  have e:(List.replicate z.length true).all id=true:=by simp
  rw[e];exact q _ Z
end
section
variable{C CK:Addr}
abbrev bfw:kZ:=["book","F","worths"]
def yr(A:BA):(UK A).lookup ("kinds":Str)=none:=rfl
def zM(A:BA):(UK A).lookup ("parameters":Str)=none:=rfl
def yK:Yi bfw bfw (Ye WR):=Y4
def yQ:Yi bfw bfw (Ye UY):=Y4
def yP:Yi ["most","highest"] ["most","highest"] (Ye XZ):=Y4
inductive SIA(C CK:Addr)(r:V)(H:Hp)(Q:VK):List V->Prop
 |mk (t b:Addr) (xs:List V) (ks:List (Str×Shp)) (d:Str->Nat) (ds:List Dd) (x:Dd) (wos:List W) (bi:BI H C CK t ks d ds) (hx:x∈ds) (hb:H b=some (.tup xs)) (hw:HasL H xs (wos.map W.dat))
  (ln:wos.length=x.1.2.1.length) (l3:x.1.2.1.length<=3) (ok:∀(i:Nat)(p:Str×Str)(u:W),x.1.2.1[i]?=some p->wos[i]?=some u->okW ks u p.2/\u.dep<3) (q:∀H',Same H H'->Q r H'):SIA C CK r H Q [.ref t,.str x.1.1,.ref b]
def BK(C CK:Addr)(r:V):Sp:=λZ H Q _=>SIA C CK r H Q Z
def Cr(D:BCl K C)(F:Fun K "is_asking" "is_asking" WR f fd)(c:VN K C "names" g1)(G1:Yf P w K L base CX0 n g1 d1 ["self"] (Ut C CK))(b1:Binds K d1 ["self"] [])(p:VN K C "kinds" g2)(G2:Yf P w K L base CX0 n g2 d2 ["self"] (J0 C CK))(b2:Binds K d2 ["self"] [])(k:VN K C "parameters" g3)(G3:Yf P w K L base CX0 n g3 d3 ["self","F"] (GS C CK))(b3:Binds K d3 ["self","F"] [])(DR:Df P w K L base n "is_row_over" ["kinds","parameters","worths"] (Q2 CK)):Yf P w K L base CX0 (n+1) f fd bfw (BK C CK<|.bl true):=by
 refine F.oi yK λJ2 A R s H vs Q E N h=>?_;obtain⟨t,b,j,M,d,J,x,O,T,S,hb,o,u,r,g,q⟩:=h;exists _,Yb<|Yn<|Xa (JE XF (pv 1) (Vo (pv 0) D.cl c G1 N b1 .nil Y1) rfl)<|Uz<|Vc DR N<|pa3 (Vo (pv 0) D.cl p G2 N b2 .nil Y1) (Y3 (pv 0) D.cl k G3 N b3 .nil Y1<|pa1<|pv 1)<|pv 2;dsimp only[Vh,Cx.nox,Cx.wish];obtain⟨I,kv,rfl,B⟩:=id T;refine⟨_,_,B.ins,zN _,I.t,M,d,J,Y,T,λl H1 Z fl X=>?_⟩;have el:(J.map λx=>V.str x.1.1)=(J.map λx=>x.1.1).map V.str:=by rw[vm];rfl
 rw[el]at X;exists l,_,Y,.inl<|Z3 X,rfl,Jx _;rw[UR,decide_eq_true (ZW.mpr ⟨x,S,rfl⟩)];refine⟨_,Y,VP Y ?_⟩;have G:=T.mono Z;refine⟨_,_,Z _ _ B.ins,yr _,I.t,M,d,J,Y,G,λz e=>?_⟩;refine⟨_,_,Z _ _ B.ins,zM _,I.t,M,d,J,x,Y,G,S,λv U=>?_⟩;unfold psD at U;obtain⟨a,y,rfl,ha,i⟩:=Yr U;exact⟨z,a,b,y,j,M,d,x.1.2.1,O,e,ha,i,Z _ _ hb,o.mono Z,u,r,g,λH2 m=>q _<|Z.trans m⟩
def Cv(F:Fun K "check_asking" "check_asking" UY f U)(m:Df P w K N base n "is_asking" bfw (BK C CK<|.bl true)):Yf P w K N base CX0 (n+1) f U bfw (BK C CK .non):=by
 refine F.oi yQ λj A J s H g Q E I h=>?_;obtain⟨t,b,G,T,d,X,x,Z,y,B,S,D,O,R,M,q⟩:=h;exists _,Yb<|Y5 (JX<|JS<|Vc m I<|pa3 (pv 0) (pv 1)<|pv 2) (Yb<|JV) Yo;show let z:=_;VG _ z _ _ _ _
 intros
 exact⟨t,b,G,T,d,X,x,Z,y,B,S,D,O,R,M,λk L=>⟨_,Y,Y6 (by simp)<|q _ L⟩⟩
inductive SCM(H:Hp)(Q:VK):List V->Prop
 |mk (a b:Int) (h1:1<=a) (h2:a<=b) (q:Q .non H):SCM H Q [.int a,.int b]
def Q9:Sp:=λZ H Q _=>SCM H Q Z
def Cu(F:Fun K "check_most" "check_most" XZ f L):Yf P w K R base CX0 (n+1) f L ["most","highest"] Q9:=by
 refine F.oi yP λM A Z s H O Q E T h=>?_;obtain⟨a,b,G,J,q⟩:=h;exists _,Yb<|Y5 (JX<|Gn Xp Xp Yc (pv 0)<|pv 1) (Yb<|JV) Yo;show let N:=_;VG _ N _ _ _ _
 intros
 exact⟨_,Y,VP (decide_eq_true G) ⟨_,Y,Y6 (by simp[J]) q⟩⟩
end
end K4
namespace L2
open PySem
structure GA where
 t:Addr
 dx:Addr
 bk:Addr
 gv:Addr
 bs:Addr
 nu:Addr
 st:Addr
 gs:List Str
def Xw(A:GA):List (Str×V):=[("book",.ref A.bk),("given",.ref A.gv),("births",.ref A.bs),("numbers",.ref A.nu),("starts",.ref A.st)]
structure GCl(K:W.Frag)(C:Addr):Prop where
 cl:Cls K C
 bk:VH K C "book"
 gv:VH K C "given"
 bs:VH K C "births"
 nu:VH K C "numbers"
 st:VH K C "starts"
def NY(i:Nat)(ws:pe):Dat:=.tup [.str "given",.int (i:Nat),Jy ws]
def Pd(h:H t=some (.tup [.str "given",.int (k:Nat),u]))(J:Has H u (Jy Z)):Has H (.ref t) (NY k Z):=by
 unfold NY;exact Yx h<|Z4 VA<|Z4 (by unfold Has;rfl)<|Z5 J
end L2
namespace K4
open PySem L2
section
def XD:Yi ["body","place","part","number"] ["body","place"] (Ye Ge):=Y4
inductive Ez(H:Hp)(Q:VK):List V->Prop
 |mk (v:V) (a:Addr) (b c:Bd) (ws:List Int) (hv:Has H v b.dat) (ok:b.ok) (ha:H a=some (.tup (ws.map V.int))) (hc:b.at ws=some c) (q:∀u H',Same H H'->Has H' u c.dat->Q u H'):Ez H Q [v,.ref a]
def Jw:Sp:=λZ H Q _=>Ez H Q Z
def B1(F:Fun K "part_at" "part_at" Ge f l)(DP:Df P w K j base n "parts" ["body"] Xk):Yf P w K j base CX0 (n+1) f l ["body","place"] Jw:=by
 refine F.oi XD λJ2 A L s H vs Q E g h=>?_;obtain⟨v,a,b,c,R,t,X,B,k,q⟩:=h;refine⟨_,YZ (Yw 2 XD.nd<|pv 0) (YZ (V5 Zv rfl (Ub<|pv 1) (Yj 3 XD.nd)
  (Yb<|Yw 2 XD.nd<|Ys Yy (Vc DP g<|pa1<|pv 2) (pv 3) λ_ _=>rfl))
  (Yb<|Yn<|pv 2)),?_⟩
 dsimp only[Vh,Cx.nox,Cx.wish];show let T0:=_;let T1:=_;let T2:=Yk (UX _ _ T1) T0;Yk _ T2 _ _ _
 intros
 refine EE Y ?_;exists ⟨_,Z2 B⟩
 let I:pB:=λi U J=>Same H J/\∃u z Z,U=[some v,some<|.ref a,some u,z]/\Has J u (Bd.dat Z)/\Z.ok/\Z.at (R.drop i)=some c
 refine TH (xs:=R.map V.int) I ⟨Z8 _,v,none,b,Y,t,X,k⟩ (λi U J _ z=>Z2<|z.1 _ _ B) ?_ ?_
 .rintro BB RR i x U J hx ⟨sj,u,z,Z,rfl,hu,okb,e⟩
  obtain⟨m,r,rfl,e1,o,hm⟩:=Fb hx;rw[e1]at e;unfold Bd.at at e
  by_cases hm0:0<=m
  case neg=>rw[Zq hm0]at e;cases e
  rw[Zp hm0]at e
  cases hp:Z.parts[m.toNat]? with
  |none=>rw[hp]at e;cases e
  |some S=>
   rw[hp]at e;refine⟨u,Z,Y,hu,okb,λu2 H2 C p=>?_⟩;obtain⟨p2,xs,rfl,N,O⟩:=Yr p;rw[Z9]at O;have y:=O.length;rw[ZA]at y;have hi:=(ZF.mp hp).1;have G:m.toNat<xs.length:=by omega
   obtain⟨d,T,M⟩:=getD O<|ZD G;rw[hp]at T;cases T;have D:=VC<|ZD G;rw[show((m.toNat:Nat):Int)=m by omega]at D;exact⟨_,xs[m.toNat],Z2 N,D,sj.trans C,_,_,S,Y,M,Bd.ok_parts okb S<|ZJ hp,by rw[o];exact e⟩
 .rintro U J ⟨sj,u,z,Z,rfl,hu,okb,e⟩
  rw[ZA,List.drop_length]at e;unfold Bd.at at e;cases e;exact q u J sj hu
end
end K4
namespace L2
open PySem PySem.Spec PyProof.Rows
def ZI(h:Heap)(z TI TO:Addr)(f0 f1:Value):Prop:=h.get? z=some {cls:=.type "zip",dict:=none,data:=.fields #[f0,f1,.bool false,.ref TI,.ref TO],slots:= #[]}
section
variable{prog:Program}{w:World}{A:Around}{E:kW}{s:Shared}
def Nx{α:Type}{a:Addr}{o:Obj}{m:Option Obj->Sem α}{Q:α->Shared->Prop}(h:s.heap.get? a=some o)(q:wpAny (model prog w) A (m<|some o) Q E s):wpAny (model prog w) A (loadIfAlive a >>=m) Q E s:=by
 intro Γ p Z;show Sem.wp _ Γ (Sem.loadIfAlive a λx=>m x) _ _ p s;rw[Sem.wp_loadIfAlive,h];exact q Γ p Z
def L5{z TI TO G Z q F T:Addr}{d X:Bool}{k:Nat}{p C:pi}{x y S:Value}{f:Obj}{Q:Option Value->Shared->Prop}(D:ZipApart z TI TO G Z q F)(L:ZI s.heap z TI TO (rawInt T) S)(h:s.heap.get? T=some f)(i:S=.bool false\/S=.bool true)(t:IsPair s.heap TI (.ref G) (.ref Z))(one:SI d s.heap G q k p)(two:SI X s.heap Z F k C)(l:p[k]?=some x)(r:C[k]?=some y)(n:∀g,ZI g z TI TO (rawInt T) (.bool true)->SJ d g G q (k+1)->SJ X g Z F (k+1)->IsPair g s.heap.objs.size x y->g.objs.size=s.heap.objs.size+1->(∀c o,c≠z->c≠G->c≠Z->s.heap.get? c=some o->g.get? c=some o)->Q (some<|.ref s.heap.objs.size) {s with heap:=g}):
  wpAny (model prog w) A (pyNext<|.ref z) Q E s:=by
 have R:s.TypeIs (.ref z) "zip":=⟨_,L,rfl⟩;simp only[pyNext];refine Zl<|jy<|wpAny_callSpecial?_slot (name:=Str.ofString "__next__") R jj<|vo jj R qK ?_<|qD _;refine Zl (m:=field (.ref z) 2)<|Zo L rfl (x:=.bool false) rfl (Zl (m:=field (.ref z) 3)<|Zo L rfl (x:=.ref TI) rfl (Zl<|vN t rfl ?_));refine Zl (m:=Builtin.SmallTypes.ownedTupleIsFree<|.ref z)<|Zl (m:=field (.ref z) 0)<|Zo L rfl (x:=rawInt T) rfl ?_;simp only[rawInt];refine Nx (o:=f) (by simpa using h) ?_;rw[Zq (by simp)];refine Zl (m:=field (.ref z) 1) (Zo L Y (x:=S) Y ?_)
 suffices main:∀J,ZI J z TI TO (rawInt T) (.bool true)->Heap.SameBut z s.heap J->wpAny (model prog w) A.in1 _ _ _ {s with heap:=J} by
  rcases i with rfl|rfl
  .rw [Zp (by rfl)]
   refine Zl<|vf L (by simp) λJ U O=>Zm ?_;rw[Zq (by simp)];exact main J U O
  .rw [Zq (by decide)]
   refine Zm ?_;rw[Zq (by simp)];exact main s.heap L ⟨Y,λ_ _=>Y⟩
 intro J U O;rw[<-qa];simp only[jF,qL];have v:=one.but O.extBut D.i1z D.l1z;have u:=two.but O.extBut D.i2z D.l2z;refine Zl<|Zl<|Zl<|wpAny_holding (?_:wpAny _ _ (Builtin.SmallTypes.nextOf (.ref G) >>=_) _ _ _);refine Zl<|XB (s:={s with heap:=J}) v D.l1i1 l λI a2 N=>Zm<|Zm ?_;replace N:Heap.SameBut G J I:=N;have j:SI X I Z F k C:=u.but N.extBut D.i12.symm D.l2i1;refine Zl<|Zl<|wpAny_holding (?_:wpAny _ _ (Builtin.SmallTypes.nextOf (.ref Z) >>=_) _ _ _);refine Zl<|XB (s:={s with heap:=I}) j D.l2i2 r λB a M=>Zm<|Zm<|Zm ?_;replace M:Heap.SameBut Z I B:=M;refine Zl<|kB (hsz:=by show 2<=sizeLine;decide)<|Zm ⟨_,rfl,Zm ?_⟩;have P:B.objs.size=s.heap.objs.size:=by rw[M.1,N.1,O.1]
 show Q (some<|.ref B.objs.size) _;have b:=n<|B.push {cls:=.type "tuple",data:=.seq #[x,y]};rw[P];refine b (ZE _<|M.extBut _ _ D.i2z.symm<|N.extBut _ _ D.i1z.symm U) ?_ ?_ ?_ (by rw[vK,P]) ?_
 .exact (a2.sj.to λo e=>M.extBut _ _ D.i12 e).to λo e=>ZE _ e
 .exact a.sj.to λo e=>ZE _ e
 .have:=ZY B (o:={cls:=.type "tuple",data:=.seq #[x,y]}) rfl
  rw[P]at this;exact this
 .intro c o c1 c2 c3 e
  exact ZE _<|M.extBut _ _ c3<|N.extBut _ _ c2<|O.extBut _ _ c1 e
def Qg{z TI TO G R S X T:Addr}{U v:Bool}{k:Nat}{F:pi}{N:Value}{I:Obj}{Q:Option Value->Shared->Prop}(y:A.handled=none)(D:ZipApart z TI TO G R S X)(Z:ZI s.heap z TI TO (rawInt T) N)(p:s.heap.get? T=some I)(q:N=.bool false\/N=.bool true)(O:IsPair s.heap TI (.ref G) (.ref R))(one:SI U s.heap G S k F)(P:F[k]?=none)(d:∀g,(∀c o,c≠z->c≠G->c≠R->s.heap.get? c=some o->g.get? c=some o)->Q none {s with heap:=g}):wpAny (model prog w) A (pyNext<|.ref z) Q E s:=by
 have L:s.TypeIs (.ref z) "zip":=⟨_,Z,rfl⟩;simp only[pyNext];refine Zl<|jy<|wpAny_callSpecial?_slot (name:=Str.ofString "__next__") L jj<|vo jj L qK ?_<|qD _;refine Zl (m:=field (.ref z) 2)<|Zo Z rfl (x:=.bool false) rfl (Zl (m:=field (.ref z) 3)<|Zo Z rfl (x:=.ref TI) rfl (Zl<|vN O rfl ?_));refine Zl (m:=Builtin.SmallTypes.ownedTupleIsFree<|.ref z)<|Zl (m:=field (.ref z) 0)<|Zo Z rfl (x:=rawInt T) rfl ?_;simp only[rawInt];refine Nx (o:=I) (by simpa using p) ?_;rw[Zq (by simp)];refine Zl (m:=field (.ref z) 1) (Zo Z Y (x:=N) Y ?_)
 suffices main:∀J,ZI J z TI TO (rawInt T) (.bool true)->Heap.SameBut z s.heap J->wpAny (model prog w) A.in1 _ _ _ {s with heap:=J} by
  rcases q with rfl|rfl
  .rw [Zp (by rfl)]
   refine Zl<|vf Z (by simp) λJ B M=>Zm ?_;rw[Zq (by simp)];exact main J B M
  .rw [Zq (by decide)]
   refine Zm ?_;rw[Zq (by simp)];exact main s.heap Z ⟨Y,λ_ _=>Y⟩
 intro J B M;rw[<-qa];simp only[jF,qL];have C:=one.but M.extBut D.i1z D.l1z;refine Zl<|Zl<|Zl<|wpAny_holding (?_:wpAny _ _ (Builtin.SmallTypes.nextOf (.ref G) >>=_) _ _ _);refine Zl<|Rv (s:={s with heap:=J}) y C P λr e f ⟨o,j,t⟩=>?_;refine Zl<|jI (T:="StopIteration") (b:=true) ⟨o,j,t⟩ kC<|Zm<|d _ ?_;intro c o c1 u l e;exact f _ _ u<|M.extBut _ _ c1 e
end
def ZC(h:Heap)(z TI TO:Addr)(t1:Bool)(i1 l1:Addr)(t2:Bool)(i2 l2:Addr)(i:Nat):Prop:=
 IsPair h TI (.ref i1) (.ref i2)/\SJ t1 h i1 l1 i/\SJ t2 h i2 l2 i/\((IsZip h z TI TO .none/\∃a b,IsPair h TO a b) \/ ∃(T:Addr)(Z:Value)(J:Obj),ZI h z TI TO (rawInt T) Z/\h.get? T=some J/\T ∉ [z,TO,i1,i2]/\(Z=.bool false\/Z=.bool true))
def Wk.keep2{Z:Bool}{h G:Heap}{l:Addr}{J:pi}(z:Wk Z h l J)(k:∀o,h.get? l=some o->G.get? l=some o):Wk Z G l J:=by
 cases Z with
 |false=>exact let⟨o,e,r⟩:=z;⟨o,k _ e,r⟩
 |true=>exact let⟨o,e,r⟩:=z;⟨o,k _ e,r⟩
section
variable{prog:Program}{w:World}{A:Around}{E:kW}{R:Result->Shared->Prop}
def Pn{z TI TO L G f c d:Addr}{t1 t2:Bool}{xs ys:kX}{vs:List (Key×Value)}(hh:A.handled=none)(D:ZipApart z TI TO L G f c)(T5:xs.length=ys.length)(hn:xs.length<=sizeLine)(hv:vs.length=xs.length)(nd:(vs.map (·.1)).Nodup)(T1:∀i (h1:i<xs.length) (h2:i<ys.length),∃k,vs[i]?=some (k,ys[i])/\(Y7 prog w).is k xs[i]=true)(hS:d ∉ [z,TO,L,G,TI,f,c])(F:Value):
  ∀(k i:Nat)(s:Shared)(j:Int)(t:Tok),xs.length-i=k->i<=xs.length->ZC s.heap z TI TO t1 L f t2 G c i->Wk t1 s.heap f xs.toArray->Wk t2 s.heap c ys.toArray->
  s.heap.DictOf (Y7 prog w) d (vs.take i)->TO<s.heap.objs.size->
  (∀h' tk,h'.DictOf (Y7 prog w) d vs->(∀b o,b ∉ [z,TO,L,G,d]->s.heap.get? b=some o->h'.get? b=some o)->R (.ok<|.ret F) {s with heap:=h',toks:=tk})->
  codeAny (model prog w) A (.builtin "dict.update.loop" ⟨[.ref d,.ref z,.int j t,F],[]⟩) R s:=by
 have nS:d≠z/\d≠TO/\d≠L/\d≠G/\d≠TI/\d≠f/\d≠c:=by simpa using hS
 obtain⟨n,S,n1,n2,T0,R8,R7⟩:=nS;intro k
 induction k with
 |zero=>
  intro i s j t hk hi zc y l hd M2 hR;have e:i=xs.length:=by omega
  subst e;refine jQ Xx ?_;rw[Around.under_plainId Jo _];obtain⟨M,u,j2,zz⟩:=zc;rw[<-hv,qt]at hd
  have O1:∀g,(∀b o,b ∉ [z,TO,L,G]->s.heap.get? b=some o->g.get? b=some o)->R (.ok<|.ret F) {s with heap:=g}:=λg J=>by
   obtain⟨o,es,ep,v,rest⟩:=hd
   exact hR g s.toks ⟨o,es,ep,J d o (by simp[n,S,n1,n2]) v,rest⟩ λb o O e=>J b o (λhm=>O (by
    have X:b=z\/b=TO\/b=L\/b=G:=by simpa using hm
    simp only[Zd,jB,or_false];rcases X with q|q|q|q
    .exact .inl q
    .exact .inr (.inl q)
    .exact .inr (.inr<|.inl q)
    .exact .inr (.inr<|.inr<|.inl q))) e
  refine Zl (m:=pyNext<|.ref z) ?_;rcases zz with⟨B,v⟩|⟨T,f1,oT,B,r,_,hf⟩
  .refine Fp hh D ⟨B,M,v,u.si y,j2.si l⟩ (.inl<|by simp) λg J=>Zl<|Zm<|Zm<|O1 g λb o O e=>?_
   have Z:b≠z/\b≠TO/\b≠L/\b≠G:=by simpa using O
   exact J b o Z.1 Z.2.1 Z.2.2.1 Z.2.2.2 e
  .refine Qg (v:=t2) hh D B r hf M (u.si y) (by simp) λg J=>Zl<|Zm<|Zm<|O1 g λb o O e=>?_
   have Z:b≠z/\b≠TO/\b≠L/\b≠G:=by simpa using O
   exact J b o Z.1 Z.2.2.1 Z.2.2.2 e
 |succ k ih=>
  intro i s j t hk hi zc y l hd M2 hR;have P:i<xs.length:=by omega
  have G2:i<ys.length:=by omega
  have hx:xs.toArray[i]?=some xs[i]:=by simp[P]
  have hy:ys.toArray[i]?=some ys[i]:=by simp
  obtain⟨T6,ev,G3⟩:=T1 i P G2;refine jQ Xx ?_;rw[Around.under_plainId Jo _];obtain⟨M,u,j2,zz⟩:=zc;refine Zl (m:=pyNext<|.ref z) ?_
  suffices step:∀g,ZC g z TI TO t1 L f t2 G c (i+1)->IsPair g s.heap.objs.size xs[i] ys[i]->g.objs.size=s.heap.objs.size+1->(∀b o,b≠z->b≠TO->b≠L->b≠G->s.heap.get? b=some o->g.get? b=some o)->wpAny (model prog w) A.in1 _ _ _ {s with heap:=g} by
   have lz:∀{o:Obj}{b:Addr},s.heap.get? b=some o->b<s.heap.objs.size:=λe=>ZP e;have J2:L<s.heap.objs.size:=let⟨_,e,_⟩:=u.obj;lz e
   have x:G<s.heap.objs.size:=let⟨_,e,_⟩:=j2.obj;lz e
   rcases zz with⟨B,a,b,v⟩|⟨T,f1,oT,B,r,nT,hf⟩
   .refine Dx D ⟨B,M,⟨a,b,v⟩,u.si y,j2.si l⟩ hx hy λg zs U h J=>step g ⟨zs.its,zs.one.sj,zs.two.sj,.inr ⟨s.heap.objs.size,.bool false,_,zs.zip,U,?_,.inl rfl⟩⟩ U h J
    have I:=lz B;have p:=lz v;intro hm;have X:s.heap.objs.size=z\/s.heap.objs.size=TO\/s.heap.objs.size=L\/s.heap.objs.size=G:=by simpa using hm
    rcases X with e|e|e|e <;> rw[e]at I p J2 x <;> first|exact Zr I (vy _)|exact Zr p (vy _)|exact Zr J2 (vy _)|exact Zr x<|vy _
   .have nT':T≠z/\T≠TO/\T≠L/\T≠G:=by simpa using nT
    exact L5 D B r hf M (u.si y) (j2.si l) hx hy λg z' a1 a2 U h J=>step g ⟨J _ _ D.TIz D.TIi1 D.TIi2 M,a1,a2,.inr ⟨T,.bool true,oT,z',J _ _ nT'.1 nT'.2.2.1 nT'.2.2.2 r,nT,.inr Y⟩⟩ U h λb o b1 _ b3 b4 e=>J b o b1 b3 b4 e
  intro g R1 U h J
  have T4:g.DictOf (Y7 prog w) d (vs.take i):=by
   obtain⟨o1,es,ep,C,rest⟩:=hd;exact⟨o1,es,ep,J d o1 n S n1 n2 C,rest⟩
  have r:({s with heap:=g}:Shared).TypeIs (.ref s.heap.objs.size) "tuple":=⟨_,U,rfl⟩
  have ld:d<s.heap.objs.size:=by
   obtain⟨o1,es,ep,C,rest⟩:=hd;exact ZP C
  refine Zl<|wpAny_holding<|Zl<|wpAny_tryCatch ?_;simp only[Builtin.Dict.pairItems];refine Zl (m:=typeOf<|.ref s.heap.objs.size)<|qQ r ?_;rw[Zp (by decide)];refine Zl<|vN U rfl (Zm ?_);show wpAny _ A.in1 (holding [xs[i],ys[i]]<|dictSet d xs[i] ys[i]) _ _ _;refine wpAny_holding<|kS (hsz:=by rw[ZN];omega) G3 T4 λh2 Q G1=>?_;rw[RI vs nd ev]at Q;have N:∀b o,b≠d->g.get? b=some o->h2.get? b=some o:=λb o O e=>(G1.2 b O).trans e;refine Zm ⟨plainId_quiet Jo _,ih (i+1) _ (j+1) 0 (by omega) P ?_ ?_ ?_ Q ?_ λh3 R6 T3 T2=>?_⟩
  .obtain ⟨a1,a2,a3,a4⟩:=R1
   exists N _ _ (Zs T0) a1,a2.to λo e=>N _ _ (Zs n1) e,a3.to λo e=>N _ _ (Zs n2) e;rcases a4 with⟨I,a,b,p⟩|⟨T,f1,oT,I,p,q3,q4⟩
   .exact .inl ⟨N _ _ (Zs n) I,a,b,N _ _ (Zs S) p⟩
   .by_cases eT:T=d
    .obtain ⟨o2,es2,ep2,ho2,_⟩:=Q
     exact .inr ⟨T,f1,o2,N _ _ (Zs n) I,by rw[eT];exact ho2,q3,q4⟩
    .exact .inr ⟨T,f1,oT,N _ _ (Zs n) I,N _ _ eT p,q3,q4⟩
  .exact y.keep2 λo e=>N _ _ (Zs R8)<|J _ _ D.l1z D.l1TO D.l1i1 D.l1i2 e
  .exact l.keep2 λo e=>N _ _ (Zs R7)<|J _ _ D.l2z D.l2TO D.l2i1 D.l2i2 e
  .have e2:h2.objs.size=g.objs.size:=G1.1
   show TO<h2.objs.size;rw[e2,h];exact jN M2
  .refine hR h3 R6 T3 λb o O e=>T2 b o O ?_
   have Z:b≠z/\b≠TO/\b≠L/\b≠G/\b≠d:=by simpa using O
   exact N _ _ Z.2.2.2.2<|J b o Z.1 Z.2.1 Z.2.2.1 Z.2.2.2.1 e
end
def Pm:typeLookup (.type "zip") (Str.ofString "keys")=pure none:=am_miss_of_fast<|by decide +kernel
def Pl:typeLookup (.type "zip") (Str.ofString "__getattr__")=pure none:=am_miss_of_fast<|by decide +kernel
def LY:entryFor table "zip.__getattribute__"=some Builtin.«object.__getattribute__»:=
 entryFor_alias (id':="object.__getattribute__") (by kernel_rfl) (by decide +kernel) (by decide +kernel) (by kernel_rfl)
def LX(a:Addr)(D:pi)(sl:Array (Option Value))(name:Str)(u:Tok)(L:typeLookup (.type "zip") name=pure none)(Z:(["__module__","__name__","__qualname__","__doc__","__annotations__"]:kZ).contains name=false)(G:name.length+100<=sizeLine:=by size_fits):
  Meets (Builtin.«object.__getattribute__» ⟨[.ref a,.str name u],[]⟩) (λA R s=>s.heap.get? a=some {cls:=.type "zip",dict:=none,data:=.fields D,slots:=sl}/\raisesAttr (.ref a) name A R s):=
 Meets.of_wp λM w A R s J=>by
  obtain⟨B,g,d,N,O⟩:=s;obtain⟨T,J⟩:=J;have E:(⟨B,g,d,N,O⟩:Shared).TypeIs (.ref a) "zip":=⟨_,T,rfl⟩;unfold Builtin.«object.__getattribute__»
  repeat (any_goals (first|assumption|wp_step))
  simp only[Z,vY,if_false]
  repeat (any_goals (first|assumption|wp_step))
  exact wpAny_raiseAttrError J.1 J.2<|attrMsg_fits (by decide +kernel) G
def Po{R:pi}{M:Array (Option Value)}(N:s.heap.get? a=some {cls:=.type "zip",dict:=none,data:=.fields R,slots:=M})(S:A.handled=none)(h:∀G L,(∀b o,s.heap.get? b=some o->G.get? b=some o)->Q none {s with heap:=G,toks:=L}):
  wpAny (model prog w) A (getAttr? (.ref a)<|Str.ofString "keys") Q E s:=by
 obtain⟨U,C,X,L,B⟩:=s;have Z:=F.slot_zip_getattribute;have I:=Z.lookup;have P:=Z.bind<|.ref a;have D:=Pl;have j:=sub_AttributeError;have O:∀n,(Shared.mk U C X n B).TypeIs (.ref a) "zip":=λn=>⟨_,N,rfl⟩;simp only[getAttr?,getAttrBy?,getAttrBy]
 repeat (any_goals (first|assumption|exact O _|((with_reducible show wpAny _ _ (call (Value.builtin "zip.__getattribute__") _ _) _ _ _);refine j7 F.slot_zip_getattribute (O _) LY (F.args_zip_getattribute_2 _ _) (LX a R M (Str.ofString "keys") _ Pm (by decide +kernel)<|by size_fits) ⟨N,S,λG T e J=>?_⟩)|wp_step))
 have there:=J.there;obtain⟨_,_,y⟩:=there;refine(?_:wpAny _ _ (getattributeRaised _ _ _ _ _ _ _) _ _ _);simp only[getattributeRaised]
 repeat any_goals first|assumption|wp_step
 exact h _ _ J.keeps
theorem QU:∀{Z:pj}{G:kX},Vals (Z.map (·.2)) G->∃J,KV Z J/\J.map (·.2)=G/\J.map (·.1)=Z.map (·.1)
 |[],_,r=>by cases r;exact⟨[],.nil,Y,Y⟩
 |kv::Z,_,r=>by
  cases r with
  | @cons _ u _ G h t=>
   obtain⟨J,N,M,L⟩:=QU t;exact⟨(kv.1,u)::J,.cons ⟨Y,h⟩ N,by rw[ZV,M],by rw[ZV,ZV,L]⟩
def Tl{z TI TO R O j P:Addr}{t1 t2:Bool}{xs ys:kX}{vs:List (Key×Value)}{kvs:pj}{g:Heap}(I:Inv X E U H s)(hc:X.calm=true)(D:ZipApart z TI TO R O j P)(S:xs.length=ys.length)(hn:xs.length<=1000)(hv:vs.length=xs.length)(nd:(vs.map (·.1)).Nodup)(x:∀i (y:i<xs.length) (h2:i<ys.length),∃k,vs[i]?=some (k,ys[i])/\(Y7 X.prog X.w).is k xs[i]=true)(B:KV kvs vs)(kp:∀b o,s.heap.get? b=some o->g.get? b=some o)(m:s.heap.objs.size<=g.objs.size)(L:∀b∈ [z,TO,R,O],s.heap.objs.size<=b)(Z:ZR g z TI TO t1 R j t2 O P 0)(w1:Wk t1 g j xs.toArray)(w2:Wk t2 g P ys.toArray)(q:∀l,H l=none->Q (.ref l) (upd H l<|.dK kvs)):
  wpAny (model X.prog X.w) X.A (call (.type "dict") [.ref z]) (EP X E U Q) X.xe {s with heap:=g}:=by
 refine callType_codes (Q₁:=λob t=>ob=.ref g.objs.size/\t={s with heap:=g.push {cls:=.type "dict",data:=.dict #[]}}) F.kt_called_dict (F.kt_typeCall_dict_1 _) F.entry_dict_init (kt_code_dict_new _ ⟨Y,Y⟩) λob t ht=>?_;obtain⟨rfl,rfl⟩:=ht;have J:(g.push {cls:=.type "dict",data:=.dict #[]}).DictOf (Y7 X.prog X.w) g.objs.size []:=Heap.DictOf.new g;have r:∀b o,g.get? b=some o->(g.push {cls:=.type "dict",data:=.dict #[]}).get? b=some o:=λb o e=>ZE _ e;refine And.intro J.typeIs<|And.intro (F.args_dict_init_2 _ _) ?_;delta Builtin.«dict.__init__» Builtin.Dict.selfAndRest;refine Zl<|Zl<|wpAny_notOrdered_dict J.typeIs<|Zm (?_:wpAny _ _ (Builtin.Dict.updateFrom "dict.__init__" g.objs.size (.ref z) [] .none) _ _ _);delta Builtin.Dict.updateFrom;have p:Shared.TypeIs {s with heap:=g.push {cls:=.type "dict",data:=.dict #[]}} (.ref z) "zip":=⟨_,r _ _ Z.zip,rfl⟩;refine Zl<|qQ p ?_;rw[Zp (by decide)];refine Zl<|Po (s:={s with heap:=g.push {cls:=.type "dict",data:=.dict #[]}}) (r _ _ Z.zip) (I.ok.hd hc) λy T C=>?_;simp only[Option.isNone_none,if_true];refine Zl<|jD ?_;have G:∀b o,g.get? b=some o->y.get? b=some o:=λb o e=>C b o<|r b o e;refine Zl<|wpAny_pyIter_zip (s:={s with heap:=y,toks:=T}) (G _ _ Z.zip) ?_;have lz:z<g.objs.size:=ZP Z.zip;have w:TI<g.objs.size:=ZP Z.its;have v:TO<g.objs.size:=let⟨_,_,e⟩:=Z.out;ZP e
 have u:R<g.objs.size:=let⟨_,e,_⟩:=Z.one.obj;ZP e
 have f:O<g.objs.size:=let⟨_,e,_⟩:=Z.two.obj;ZP e
 have d:=w1.lt;have c:=w2.lt;have M:∀{b:Addr},b<g.objs.size->g.objs.size≠b:=λh=>vM h;refine Zm ⟨plainId_quiet Jo _,Pn (A:=X.A.in1) (t1:=t1) (t2:=t2) (xs:=xs) (ys:=ys) (vs:=vs) (I.ok.hd hc) D S (Zh<|Yv hn) hv nd x ?_ .none xs.length 0 {s with heap:=y,toks:=T} 0 0 rfl (Zc _) ⟨G _ _ Z.its,Z.one.to λo e=>G _ _ e,Z.two.to λo e=>G _ _ e,.inl ⟨G _ _ Z.zip,let⟨a,b,e⟩:=Z.out;⟨a,b,G _ _ e⟩⟩⟩ (w1.keep2 λo e=>G _ _ e) (w2.keep2 λo e=>G _ _ e) ?_ ?_ λh' tk G2 J2=>?_⟩
 .intro n
  have N:g.objs.size=z\/g.objs.size=TO\/g.objs.size=R\/g.objs.size=O\/g.objs.size=TI\/g.objs.size=j\/g.objs.size=P:=by simpa using n
  rcases N with e|e|e|e|e|e|e
  .exact M lz e
  .exact M v e
  .exact M u e
  .exact M f e
  .exact M w e
  .exact M d e
  .exact M c e
 .rw [qM]
  obtain⟨o,es,ep,ho,rest⟩:=J;exact⟨o,es,ep,C _ _ ho,rest⟩
 .obtain ⟨_,_,e⟩:=Z.out
  exact ZP<|G _ _ e
 .have lk:kvs.length<=sizeLine:=by
   have:=B.length;exact Zh<|Yv<|by omega
  refine⟨Y,.ref g.objs.size,_,I.laid (a:=g.objs.size) (o:=.dK kvs) (λb o e=>?_) m<|Xf lk (beq_eq_false_iff_ne.mpr<|Zs<|Ze<|Zx I.big m) B G2,rfl,q _<|I.hok.fresh m⟩;have hb:=ZP e;refine J2 b o (λn=>?_)<|G b o<|kp b o e;have N:b=z\/b=TO\/b=R\/b=O\/b=g.objs.size:=by simpa using n
  have G1:s.heap.objs.size<=b:=by
   rcases N with e|e|e|e|e
   .exact L b (by rw[e];simp)
   .exact L b (by rw[e];simp)
   .exact L b (by rw[e];simp)
   .exact L b (by rw[e];simp)
   .rw [e];exact m
  exact Zr hb<|Nat.not_lt_of_le G1
def tDZ(K:W.Frag)(ta:TA):TE:=λU H Q=>ta U H λG J=>∃(a b:Addr)(M L:Bool)(Z:pj),G=[.ref a,.ref b]/\Sq K M J a (Z.map λN=>kV N.1)/\Sq K L J b (Z.map (·.2))/\Z.length<=1000/\(Z.map (·.1)).Nodup/\
 ∀l,J l=none->Q (.ref l) (upd J l<|.dK Z)
def Om{X:Cx}{a b:Expr}{x:TA}{p E t Z:Pos}(hc:X.calm=true)(hg:Gl X "dict")(hm:X.mg "dict"=none)(r:Gl X "zip")(w:X.mg "zip"=none)(ha:PA X [a,b] x)(hs:starEach [a,b] X.env=[(false,eval a X.env),(false,eval b X.env)]:=by rfl)(T:starEach [b] X.env=[(false,eval b X.env)]:=by rfl)(B:starEach [Expr.Call (.Name "zip" E) [a,b] [] Z] X.env=[(false,eval (Expr.Call (.Name "zip" E) [a,b] [] Z) X.env)]:=by rfl):
  PE X (.Call (.Name "dict" p) [.Call (.Name "zip" E) [a,b] [] Z] [] t) (tDZ X.K x):=by
 intro O s U H Q I h;refine Call_<|J6 I hg hm Uh<|vq ?_ B rfl;rw[B];refine(?_:wpAny _ _ (spliced ((false,eval (Expr.Call (.Name "zip" E) [a,b] [] Z) X.env)::[])) _ _ s);refine Calls.spliced_cons (Call_<|J6 I r w RJ<|vq (thn (ha Z O s U H _ I h) λus L ⟨vs,H1,n,r1,y⟩=>?_) (by rw[hs,T]) (by rw[T];rfl));obtain⟨l1,l2,t1,t2,kvs,e,y,q2,c,nd,q⟩:=y;subst e;obtain⟨u,w',rfl,P,C⟩:=vals2 r1;cases P;cases C;obtain⟨R,N,A⟩:=n.sq y;obtain⟨J,M,F⟩:=n.sq q2;have n1:=A.lt;have n2:=F.lt;have k:=N.length;have m:=M.length;rw[ZA]at k m;obtain⟨G,j,e2,l⟩:=QU M;have lw:G.length=kvs.length:=by rw[<-ZA (f:=(·.1)) (as:=G),l,ZA]
 refine Nm A F λg S d=>Calls.spliced_nil ?_;have D:=zap _ _ _ n1 n2;have gz:L.heap.objs.size<=g.objs.size:=Zh<|j8 (vR _ _)<|ZP S.zip;refine Tl (xs:=R) (ys:=J) (vs:=G) (kvs:=kvs) n hc D (by omega) (by omega) (by omega) (by rw[l];exact nd) (λi h1 h2=>?_) j d gz (λb hb=>?_) S (A.keep2 λo e=>d _ _ e) (F.keep2 λo e=>d _ _ e) q
 .have ik:i<kvs.length:=by omega
  have v:i<G.length:=by omega
  have e3:G[i].2=J[i]:=by
   have:(G.map (·.2))[i]?=J[i]?:=by rw[e2]
   rw[ZH,ZD v,ZD h2]at this;exact ZT this
  have e4:G[i].1=kvs[i].1:=by
   have:(G.map (·.1))[i]?=(kvs.map (·.1))[i]?:=by rw[l]
   rw[ZH,ZH,ZD v,ZD ik]at this;exact ZT this
  refine⟨G[i].1,by rw[ZD v,<-e3],?_⟩;obtain⟨u,hu,P⟩:=N.get (show(kvs.map λkv=>kV kv.1)[i]?=some (kV kvs[i].1) by rw[ZH,ZD ik];rfl);rw[ZD h1]at hu;cases hu;rw[e4];exact U2 P
 .have z:b=L.heap.objs.size+4\/b=L.heap.objs.size+3\/b=L.heap.objs.size\/b=L.heap.objs.size+1:=by simpa using hb
  rcases z with z|z|z|z <;> rw[z] <;> first|exact ZG _|exact vR _ _
end L2
namespace L2
open PySem
def nmD(ns:kZ)(vs:px):pj:=(ns.zip vs).map λx=>(Sum.inr x.1,x.2)
theorem NL:∀{ns:kZ}{vs:px},ns.length=vs.length->(nmD ns vs).map (λL=>kV L.1)=ns.map V.str/\(nmD ns vs).map (·.2)=vs/\(nmD ns vs).map (·.1)=ns.map Sum.inr
 |[],[],_=>⟨rfl,rfl,rfl⟩
 |[],_::_,h=>by simp at h
 |_::_,[],h=>by simp at h
 |n::ns,v::vs,h=>by
  obtain⟨G,J,Z⟩:=NL (ns:=ns) (vs:=vs) (by simpa using h);unfold nmD at G J Z |-;exists ?_,?_
  .rw [jJ,ZV,ZV,G];rfl
  .rw [jJ,ZV,ZV,J]
  .rw [jJ,ZV,ZV,Z];rfl
end L2
namespace K4
open PySem L2
section
variable{C CK:Addr}
def Kq:List.Nodup [("name":Str),"kind"]:=by decide +kernel
def CF:Yi ["book","f","things","names"] ["book","f","things"] (Ye BZ):=Y4
inductive SNd(C CK:Addr)(H:Hp)(Q:VK):List V->Prop
 |mk (t tl:Addr) (us:List V) (ks:List (Str×Shp)) (d:Str->Nat) (ds:List Dd) (x:Dd) (bi:BI H C CK t ks d ds) (hx:x∈ds) (ht:H tl=some (.lst us)) (ln:us.length=x.1.2.1.length) (l3:x.1.2.1.length<=3) (nd:(x.1.2.1.map (·.1)).Nodup)
  (q:∀l H',Same H H'->H l=none->H' l=some (.dK (nmD (x.1.2.1.map (·.1)) us))->Q (.ref l) H'):SNd C CK H Q [.ref t,.str x.1.1,.ref tl]
def IM(C CK:Addr):Sp:=λZ H Q _=>SNd C CK H Q Z
def Cm(B:Blt S)(TB:BCl K C)(F:Fun K "named" "named" BZ f fd)(m:VN K C "parameters" g)(G:Yf P w K S base CX0 n g gd ["self","F"] (GS C CK))(bG:Binds K gd ["self","F"] []):Yf P w K S base CX0 (n+1) f fd ["book","f","things"] (IM C CK):=by
 refine F.oi CF λJ2 A M s H vs Q E hr h=>?_;obtain⟨t,k,us,o,d,ds,x,z,hx,ht,ln,l3,c,q⟩:=h;refine⟨_,YZ (MD (i0:=3) ["name","kind"] [] CF.nd Y (Or.inl Y) (Ub<|Y3 (pv 0) TB.cl m G hr bG .nil Y1<|pa1<|pv 1) G7 (λcl C j s H=>Vb (n:=2) rfl (Yl (Yj 0 Kq rfl (Or.inl rfl) (Or.inr rfl))<|Yl (Yj 1 Kq rfl (Or.inl rfl) (Or.inr rfl)) VJ)) (λcl C j s H=>pv 0))
  (Yb<|Yn<|Om rfl rfl B.dict rfl B.zip (pa2 (pv 3)<|pv 2)),?_⟩
 dsimp only[Vh,Cx.nox,Cx.wish];show let T0:=_;Yk _ T0 _ _ _
 intros
 obtain⟨A',kv,rfl,b'⟩:=id z;refine⟨_,_,b'.ins,zM _,A'.t,o,d,ds,x,Y,z,hx,λv U=>?_⟩;unfold psD at U;obtain⟨a,xs,rfl,X,hu⟩:=Yr U;exists ⟨_,Z2 X⟩;refine Ng (us:=x.1.2.1) (D:=λp=>.tup [.str p.1,.str p.2]) (E:=λp=>.str p.1) (itt<|Z2 X) hu (by omega) (λu y R hm i hR=>?_) λvs p H1 j L hp N=>?_
 .obtain ⟨t,ys,rfl,h2,Z⟩:=Yr i
  obtain⟨x1,r1,rfl,I,T⟩:=Yd Z;obtain⟨x2,r2,rfl,J,O⟩:=Yd T;obtain rfl:=Y9 O;obtain rfl:=has_str I;obtain rfl:=has_str J;exact⟨_,Z2 h2,Y,hR _ VA⟩
 have e:=WD (by rw[vm];exact N:HasL H1 vs ((x.1.2.1.map (·.1)).map Dat.str));subst e;obtain⟨I,J,e3⟩:=NL (ns:=x.1.2.1.map (·.1)) (vs:=us) (by rw[ZA];omega);have r:(nmD (x.1.2.1.map (·.1)) us).length=us.length:=by rw[<-ZA (f:=(·.2)),J]
 refine⟨p,k,false,false,nmD (x.1.2.1.map (·.1)) us,Y,?_,?_,by omega,?_,λl Z=>?_⟩
 .rw [I];exact Z3 hp
 .rw [J];exact Z3<|L _ _ ht
 .rw [e3]
  exact c.map (f:=Sum.inr) λa b h e=>h<|Sum.inr.inj e
 .exact q l _ (L.trans<|Yu Z _) (L.free Z) Yh
end
end K4
namespace L2
open PySem
@[elab_as_elim] theorem fld_in {motive:Hp->Prop}(x:Addr) (o:HO) (k:∀H',SameB x H H'->H' x=some o->motive H'):motive (upd H x o):=k _ (λb u n h=>by rw[Yg n];exact h) Yh
def J5(J:Z x=none)(s:Same Z H)(b:SameB x H G):Same Z G:=λa o h=>b a o (Ya h J)<|s a o h
mutual
def Dat.ti:Dat->Bool
 |.tup ds=>Dat.tis ds
 |.lst _=>false
 |_=>true
def Dat.tis:List Dat->Bool
 |[]=>true
 |d::ds=>d.ti && Dat.tis ds
end
mutual
theorem VD{H Z:Hp}(b:TK H Z):∀(d:Dat){v:V},d.ti=true->Has H v d->Has Z v d
 |.str _,_,_,h=>by unfold Has at h |-;exact h
 |.non,_,_,h=>by unfold Has at h |-;exact h
 |.tup ds,_,t,h=>by
  unfold Has at h |-;obtain⟨a,J,M,L,G⟩:=h;unfold Dat.ti at t;exact⟨a,J,M,b _ _ L,Vu b ds t G⟩
 |.bl _,_,_,h=>by unfold Has at h |-;exact h
 |.int _,_,_,h=>by unfold Has at h |-;exact h
 |.lst _,_,t,_=>by unfold Dat.ti at t;cases t
theorem Vu{H L:Hp}(b:TK H L):∀(Z:pE){J:px},Dat.tis Z=true->HasL H J Z->HasL L J Z
 |[],[],_,h=>Z6
 |[],_::_,_,h=>by unfold HasL at h;exact h.elim
 |_::_,[],_,h=>by unfold HasL at h;exact h.elim
 |d::Z,x::J,t,h=>by
  unfold HasL at h;unfold Dat.tis at t;have G:=jY.mp t;exact Z4 (VD b d G.1 h.1)<|Vu b Z G.2 h.2
end
theorem UW:∀{Z:pE},(∀d∈Z,d.ti=true)->Dat.tis Z=true
 |[],_=>by unfold Dat.tis;rfl
 |d::Z,h=>by unfold Dat.tis;rw[h d Za,UW λe J=>h e (ZM _ J)];rfl
def W9(Z:pe):(Jy Z).ti=true:=by
 unfold Jy Dat.ti;exact UW λd J=>by obtain⟨k,_,rfl⟩:=ZW.mp J;unfold Dat.ti;rfl
def LN(i:Nat)(Z:pe):(NY i Z).ti=true:=by
 unfold NY;simp[Dat.ti,Dat.tis,W9]
def Pc(n:Nat):Dat.tis ((List.range n).map λi=>NY i [])=true:=UW λd Z=>by obtain⟨k,_,rfl⟩:=ZW.mp Z;exact LN _ _
def PJ(h:H a=some (.tup [])):Has H (.ref a) (Jy []):=JC h
end L2
namespace K4
open PySem L2
section
variable{C CK CG:Addr}
def yM:Yi ["self","book","F","worths"] ["self","book","F","worths"] (Ye LS):=Y4
def yd:List.Nodup [("i":Str)]:=by decide +kernel
end
end K4
namespace L2
open PySem PySem.Spec PyProof.Rows
def y0(K:W.Frag)(ta:TE)(f:Str):TG:=λv U H Q=>ta U H λx G=>∃a C J Z,x=.ref a/\G a=some (.ins C J Z)/\Cls K C/\VH K C f/\Z.length<1000/\Q U (upd G a<|.ins C J<|VX f v Z)
def Bu(L:PE X o ta):PG X (.Attribute o f pos) (y0 X.K ta f):=by
 intro Z s U H v u Q I r h;rw[assign_Attribute];refine Zl<|wpAny_holding<|thn (L Z s U H _ I h) λG B ⟨x,F,R,J,a,C,E,D,M,N,c,n,l,q⟩=>?_;subst M;obtain rfl:G=Value.ref a:=J;refine Zl<|vU<|Zl<|wpAny_holding<|XX R N c n l r λT O=>?_;exact wpAny_release ⟨U,_,O,q⟩
structure OCl(K:W.Frag)(C:Addr):Prop where
 cl:Cls K C
 gr:VH K C "ground"
 nu:VH K C "number"
 f:VH K C "f"
 pl:VH K C "place"
 kn:VH K C "known"
 bd:VH K C "body"
 wt:VH K C "waiting"
mutual
theorem Bd.ti:∀b:Bd,b.dat.ti=true
 |.tag t=>by simp[Bd.dat,Dat.ti,Dat.tis]
 |.name x=>by simp[Bd.dat,Dat.ti,Dat.tis]
 |.pair a b=>by simp[Bd.dat,Dat.ti,Dat.tis,Bd.ti a,Bd.ti b]
 |.one e=>by simp[Bd.dat,Dat.ti,Dat.tis,Bd.ti e]
 |.other e=>by simp[Bd.dat,Dat.ti,Dat.tis,Bd.ti e]
 |.choose e Z J=>by simp[Bd.dat,Dat.ti,Dat.tis,Bd.ti e,Bd.tib J Z]
 |.ask f G=>by simp[Bd.dat,Dat.ti,Dat.tis,Bd.tis G]
 |.letb x k e b=>by simp[Bd.dat,Dat.ti,Dat.tis,Bd.ti e,Bd.ti b]
theorem Bd.tis:∀Z:List Bd,Dat.tis (Bd.dats Z)=true
 |[]=>by simp[Bd.dats,Dat.tis]
 |b::Z=>by simp[Bd.dats,Dat.tis,Bd.ti b,Bd.tis Z]
theorem Bd.tib:∀(Z:List Bd)(J:kZ),Dat.tis (Bd.brs Z J)=true
 |[],J=>by unfold Bd.brs;simp[Dat.tis]
 |b::Z,[]=>by simp[Bd.brs,Dat.tis,Dat.ti,Bd.ti b,Bd.tib Z []]
 |b::Z,t::J=>by simp[Bd.brs,Dat.tis,Dat.ti,Bd.ti b,Bd.tib Z J]
end
end L2
namespace K4
open PySem L2
section
variable{C CK CG CO:Addr}
def yI:Yi ["self","ground","number"] ["self","ground","number"] (Ye Kl):=Y4
def yw(A:BA):(UK A).lookup ("body_of":Str)=none:=rfl
end
end K4
namespace L2
open PySem
theorem W.ti:∀u:W,u.dat.ti=true
 |.non=>by simp[W.dat,Dat.ti]
 |.tag _=>by simp[W.dat,Dat.ti]
 |.pair a b=>by simp[W.dat,Dat.ti,Dat.tis,W.ti a,W.ti b]
def V6(s:SameB l H J)(Z:H l=some (.lst G)):TK H J:=λb L h=>s _ _ (λz=>by rw[z,Z]at h;cases h) h
end L2
namespace K4
open PySem L2
section
variable{C CK CG CO:Addr}
def yN:Yi ["self","thing"] ["self","thing"] (Ye Xd):=Y4
end
section
variable{C CK CG CO:Addr}
def CJ:Yi ["self","place","known","body"] ["self","place","known"] (Ye WX):=Y4
def at0{v:V}{r:px}:atI (v::r) 0=some v:=VC (j:=0) rfl
def at1{u v:V}{r:px}:atI (u::v::r) 1=some v:=VC (j:=1) rfl
def at2{u v z:V}{r:px}:atI (u::v::z::r) 2=some z:=VC (j:=2) rfl
def Rc{a b:Str}(h:a≠b):¬decide (V.str a=V.str b)=true:=λz=>h (by have:=Zt z;injection this)
end
end K4
namespace L2
open PySem
theorem Ls:∀{bs:List Bd}{ts:kZ}{k:Nat}{d:Dat},(Bd.brs bs ts)[k]?=some d->∃t b,ts[k]?=some t/\d=.tup [.str t,Bd.dat b]
 |[],_,k,d,h=>by unfold Bd.brs at h;simp at h
 |_::_,[],k,d,h=>by unfold Bd.brs at h;simp at h
 |b::bs,t::ts,0,d,h=>by unfold Bd.brs at h;cases h;exact⟨t,b,Y,Y⟩
 |b::bs,t::ts,k+1,d,h=>by unfold Bd.brs at h;exact Ls (bs:=bs) (ts:=ts) h
end L2
namespace K4
open PySem L2
section
variable{C CK CG CO:Addr}
def BS:Yi ["self","head","body","place","known","number","tag","branch"] ["self","head"] (Ye WW):=Y4
def tagD(t:Str):Dat:=.tup [.str "tag",.str t]
end
section
variable{C CK CG CO:Addr}
def EG:Yi ["self","state"] ["self","state"] (Ye Km):=Y4
def CM:Yi ["self"] ["self"] (Ye B4):=Y4
end
end K4
namespace L2
open PySem
theorem Bd.at_snoc:∀(Z:pe){b c e:Bd}{k:Int},b.at Z=some c->0<=k->c.parts[k.toNat]?=some e->b.at (Z++[k])=some e
 |[],b,c,e,k,h,hk,hp=>by
  unfold Bd.at at h;cases h;rw[List.nil_append];unfold Bd.at;rw[Zp hk,hp];show Bd.at e []=some e;unfold Bd.at
  rfl
 |i::r,b,c,e,k,h,hk,hp=>by
  rw[kP];unfold Bd.at at h |-
  by_cases h0:0<=i
  .rw [Zp h0]at h |-
   cases hb:b.parts[i.toNat]? with
   |none=>rw[hb]at h;cases h
   |some J=>
    rw[hb]at h;exact Bd.at_snoc r h hk hp
  .rw [Zq h0]at h;cases h
end L2
namespace L2
open PySem PySem.Spec PyProof.Rows
abbrev X4:=Option Key
def XS:X4->Value->Prop
 |some k,v=>JH k v=true
 |none,v=>v=.none
def LF(w:World):X4->Int
 |some k=>zB w k
 |none=>4238894112
def DK:Nat->Type
 |0=>X4
 |n+1=>Sum X4<|List<|DK n
def DK.dec:(n:Nat)->DecidableEq (DK n)
 |0=>inferInstanceAs<|DecidableEq<|Option Key
 |n+1=>have:=DK.dec n;inferInstanceAs (DecidableEq<|Sum X4<|List<|DK n)
instance (n:Nat):DecidableEq (DK n):=DK.dec n
def isQ(h:Heap):(n:Nat)->DK n->Value->Prop
 |0,k,v=>XS k v
 |_+1,.inl k,v=>XS k v
 |n+1,.inr ks,v=>∃(a:Addr)(o:Obj)(items:pi)(m:Nat),v=.ref a/\h.get? a=some o/\o.cls=.type "tuple" /\o.data=.seq items m/\Paired (isQ h n) ks items.toList
def Xt(w:World):(n:Nat)->DK n->Int
 |0,k=>LF w k
 |_+1,.inl k=>LF w k
 |n+1,.inr ks=>reduceHash<|Builtin.Tuple.tupleHashOf<|ks.map<|Xt w n
def TR:(n:Nat)->DK n->Nat
 |0,_=>1
 |_+1,.inl _=>1
 |n+1,.inr ks=>(ks.map<|TR n).sum+1
section
variable{prog:Program}{w:World}
def LD{A:Around}{E:kW}{s:Shared}{Q:Int->Shared->Prop}(h:Q 4238894112 {s with toks:=s.toks+1}):wpAny (model prog w) A (pyHash .none) Q E s:=by
 have Z:s.TypeIs .none "NoneType":=typeIs_none s;unfold pyHash
 first|unfold pyHashByItsType|skip
 have J:[Value.none].any Value.onHeap=false:=rfl;refine Zl ?_;rw[cRoomFor,Zq (by rw[J];exact Zi)];refine Zm ?_;refine Zl<|jP Z PySem.F.slot_NoneType_hash.lookup ?_;show wpAny _ _ (if(some (Value.builtin "NoneType.__hash__")==some Value.none)=true then _ else _) Q E s;rw[Zq (by rw[beq_builtin_none];exact Zi)];refine Zl<|jP Z PySem.F.slot_NoneType_hash.lookup ?_;show wpAny _ _ (callSpecialIfBoundUnlessNone? .none "__hash__" _ >>=_) Q E s;refine Zl (wpAny_callSpecialIfBoundUnlessNone?_slot Z PySem.F.slot_NoneType_hash
  (vo PySem.F.slot_NoneType_hash Z PySem.F.entry_NoneType_hash
   (show wpAny _ _ (do ret (<-mkInt 4238894112)) _ _ s from wpAny_ret_mkInt ?_) (PySem.F.args_NoneType_hash_1 _)))
 show wpAny _ _ (if(decide (-(2:Int) ^ 63<=4238894112) && decide ((4238894112:Int)<2 ^ 63))=true then _ else _) Q E _;rw[Zp (by decide)];exact Zm h
theorem JG:∀{k:X4}{v:Value},XS k v->(∃i t,k=some (Sum.inl i)/\v=Value.int i t)\/(∃x t,k=some (Sum.inr x)/\v=Value.str x t)\/(k=none/\v=Value.none)
 |some k,v,h=>by
  rcases VO (show JH k v=true from h)with⟨i,t,rfl,rfl⟩|⟨x,t,rfl,rfl⟩
  .exact .inl ⟨i,t,rfl,rfl⟩
  .exact .inr (.inl ⟨x,t,rfl,rfl⟩)
 |none,v,h=>.inr<|.inr ⟨rfl,h⟩
def NV{A:Around}{E:kW}{s:Shared}{k:X4}{v:Value}{Q:Int->Shared->Prop}(Z:XS k v)(h:Q (LF w k) {s with toks:=s.toks+1}):wpAny (model prog w) A (pyHash v) Q E s:=by
 cases k with
 |none=>cases(show v=Value.none from Z);exact LD h
 |some k=>exact(Y7 prog w).pyHash (show JH k v=true from Z) h
def LV{A:Around}{E:kW}{s:Shared}{a b:X4}{u v:Value}{Q:Bool->Shared->Prop}(J:XS a u)(Z:XS b v)(h:Q (decide<|a=b) s):wpAny (model prog w) A (eqBool u v) Q E s:=by
 cases a with
 |none=>
  cases(show u=Value.none from J)
  cases b with
  |none=>
   cases(show v=Value.none from Z);rw[decide_eq_true rfl]at h;exact SeqAt.EqAt.same _ _ _ _ _ h
  |some b=>
   rw[Zy (λz=>nomatch z)]at h;rcases JG Z with⟨i,t,_,rfl⟩|⟨x,t,_,rfl⟩|⟨e,_⟩
   .exact SeqAt.EqAt.none_int i t _ _ _ _ h
   .exact SeqAt.EqAt.none_str x t _ _ _ _ h
   .cases e
 |some a=>
  cases b with
  |none=>
   cases(show v=Value.none from Z);rw[Zy (λz=>nomatch z)]at h;rcases JG J with⟨i,t,_,rfl⟩|⟨x,t,_,rfl⟩|⟨e,_⟩
   .exact SeqAt.EqAt.int_none i t _ _ _ _ h
   .exact SeqAt.EqAt.str_none x t _ _ _ _ h
   .cases e
  |some b=>
   refine(Y7 prog w).eqBool (show JH a u=true from J) (show JH b v=true from Z) ?_;have:decide (a=b)=decide (some a=some b):=by simp
   rw[this];exact h
def Ea{a b:X4}{v:Value}(G:XS a v)(J:XS b v):a=b:=by
 rcases JG G with⟨i,t,rfl,rfl⟩|⟨x,t,rfl,rfl⟩|⟨rfl,rfl⟩ <;> rcases JG J with⟨j,u,rfl,e⟩|⟨y,u,rfl,e⟩|⟨rfl,e⟩
 .injection e with Z _;rw[Z]
 .exact nomatch e
 .exact nomatch e
 .exact nomatch e
 .injection e with Z _;rw[Z]
 .exact nomatch e
 .exact nomatch e
 .exact nomatch e
 .rfl
def EZ{k:X4}{a:Addr}(h:XS k (.ref a)):False:=by
 rcases JG h with⟨i,t,_,e⟩|⟨x,t,_,e⟩|⟨_,e⟩ <;> exact nomatch e
theorem MM{h:Heap}:∀{n:Nat}{x y:DK n}{v:Value},isQ h n x v->isQ h n y v->x=y
 |0,_,_,_,hx,hy=>Ea hx hy
 |_+1,.inl _,.inl _,_,hx,hy=>congrArg Sum.inl<|Ea hx hy
 |_+1,.inl _,.inr _,_,hx,⟨a,_,_,_,e,_⟩=>by subst e;exact(EZ hx).elim
 |_+1,.inr _,.inl _,_,⟨a,_,_,_,e,_⟩,hy=>by subst e;exact(EZ hy).elim
 |n+1,.inr xs,.inr ys,v,⟨a,o,it,m,e,ho,_,hd,hp⟩,⟨a',o',it',m',e',ho',_,hd',hp'⟩=>by
  subst e;cases e';rw[ho]at ho';cases ho';rw[hd]at hd';injection hd' with G _;subst G;refine congrArg Sum.inr ?_;generalize it.toList=vs at hp hp';clear hd ho
  induction hp generalizing ys with
  |nil=>cases hp';rfl
  |cons r t ih=>
   cases hp' with
   |cons J Z=>rw[MM r J,ih _ Z]
theorem RD{h M:Heap}{d:Addr}{o:Obj}{N:Array DictEntry}{O:Nat}(Z:h.get? d=some o)(L:o.data=.dict N O)(G:Heap.SameBut d h M):∀{n:Nat}{k:DK n}{v:Value},isQ h n k v->isQ M n k v
 |0,_,_,hx=>hx
 |_+1,.inl _,_,hx=>hx
 |n+1,.inr ks,v,⟨a,oa,it,m,e,ha,hc,hda,hp⟩=>by
  have J:a≠d:=by
   rintro rfl;rw[ha]at Z;cases Z;rw[L]at hda;exact nomatch hda
  exact⟨a,oa,it,m,e,(G.2 a J).trans ha,hc,hda,Paired.mapP hp λ_ _ z=>RD Z L G z⟩
theorem LE:∀{n:Nat}{k:DK n}{A:Around}{E:kW}{s:Shared}{v:Value}{Q:Int->Shared->Prop},A.units+n<=cLine->isQ s.heap n k v->Q (Xt w n k) {s with toks:=s.toks+TR n k}->wpAny (model prog w) A (pyHash v) Q E s
 |0,_,_,_,_,_,_,_,hk,h=>NV hk h
 |_+1,.inl _,_,_,_,_,_,_,hk,h=>NV hk h
 |n+1,.inr ks,A,E,s,v,Q,hu,⟨a,o,items,m,e,ho,hc,hd,hi⟩,h=>by
  subst e;have G:s.TypeIs (.ref a) "tuple":=⟨o,ho,hc⟩;unfold pyHash
  first|unfold pyHashByItsType|skip
  first|refine Zl (wpAny_cRoomFor_or (.inr<|by omega) ?_)|skip
  refine Zl<|jP G PySem.F.slot_tuple_hash.lookup ?_;show wpAny _ _ (if(some (Value.builtin "tuple.__hash__")==some Value.none)=true then _ else _) Q E s;rw[Zq (by rw[beq_builtin_none];exact Zi)];refine Zl<|jP G PySem.F.slot_tuple_hash.lookup ?_;show wpAny _ _ (callSpecialIfBoundUnlessNone? (.ref a) "__hash__" _ >>=_) Q E s;refine Zl<|wpAny_callSpecialIfBoundUnlessNone?_slot G PySem.F.slot_tuple_hash<|vo PySem.F.slot_tuple_hash G PySem.F.entry_tuple_hash ?_<|PySem.F.args_tuple_hash_1 _;show wpAny _ _ (Builtin.Tuple.tupleItemsOf (.ref a) >>=_) _ _ s;refine Zl<|wpAny_tupleItemsOf ho hd ?_;refine Zl ?_;rw[<-qa];refine wpAny_forIn_list _
   (λrest (b:Array Int) L=>∃done left,ks=done++ left/\Paired (isQ s.heap n) left rest/\b.toList=done.map (Xt w n)/\L={s with toks:=s.toks+(done.map<|TR n).sum})
   _ ?_ ?_ _ _ ⟨[],ks,rfl,hi,rfl,rfl⟩
  .rintro x rest b L ⟨done,left,rfl,hl,hb,rfl⟩
   cases hl with
   | @cons k _ Z _ M J=>
    refine Zl (LE (n:=n) (k:=k) (by show A.units+1+n<=cLine;omega) M ?_)
    first
     |exact Zm ⟨done++[k],Z,by simp,J,by simp[hb],by simp[qW]⟩
     |exact Zl<|Zm<|Zm ⟨done++[k],Z,by simp,J,by simp[hb],by simp[qW]⟩
  .rintro b L ⟨done,left,rfl,hl,hb,rfl⟩
   cases hl;rw[j0]at h;show wpAny _ _ (retInt<|Builtin.Tuple.tupleHashOf b.toList) _ _ _;rw[hb];refine wpAny_ret_mkInt ?_;show wpAny _ _ (if(decide (-(2:Int) ^ 63<=Builtin.Tuple.tupleHashOf (done.map<|Xt w n)) && decide (Builtin.Tuple.tupleHashOf (done.map<|Xt w n)<2 ^ 63))=true then _ else _) Q E _;replace h:Q (reduceHash<|Builtin.Tuple.tupleHashOf<|done.map<|Xt w n) {s with toks:=s.toks+((done.map<|TR n).sum+1)}:=h;unfold reduceHash at h
   by_cases hr:(decide (-(2:Int) ^ 63<=Builtin.Tuple.tupleHashOf (done.map<|Xt w n)) && decide (Builtin.Tuple.tupleHashOf (done.map<|Xt w n)<2 ^ 63))=true
   .rw [Zp hr]
    rw[Zp hr]at h;exact Zm<|by simpa[qW]using h
   .rw [Zq hr]
    rw[Zq hr]at h;exact Zl<|jD<|Zm<|by simpa[qW]using h
theorem EK:∀{n m:Nat}{k:DK n}{A:Around}{E:kW}{s:Shared}{v:Value}{Q:Bool->Shared->Prop},n<=m->isQ s.heap n k v->Q true s->wpAny (model prog w) A (eqIsQuiet m v) Q E s
 |0,m,_,_,_,_,v,_,_,hk,h=>by
  rw[eqIsQuiet_byValue m (by rcases JG hk with⟨i,t,_,rfl⟩|⟨x,t,_,rfl⟩|⟨_,rfl⟩ <;> rfl)];exact Zm h
 |_+1,m,.inl _,_,_,_,v,_,_,hk,h=>by
  rw[eqIsQuiet_byValue m (by rcases JG hk with⟨i,t,_,rfl⟩|⟨x,t,_,rfl⟩|⟨_,rfl⟩ <;> rfl)];exact Zm h
 |n+1,0,.inr _,_,_,_,_,_,hm,_,_=>Zr hm<|Nat.not_succ_le_zero _
 |n+1,m+1,.inr ks,A,E,s,v,Q,hm,⟨a,o,items,c,e,ho,hc,hd,hi⟩,h=>by
  subst e;have L:s.TypeIs (.ref a) "tuple":=⟨o,ho,hc⟩;unfold eqIsQuiet;refine Zl<|jP L PySem.F.slot_tuple_eq.lookup ?_;show wpAny _ _ (isInstance (.ref a) (.type "tuple") >>=_) _ _ s;refine Zl<|jI L isSubtype_tuple_tuple ?_;simp only[qX,vY,if_false];refine Zl<|vN ho hd ?_;refine Zl ?_;show wpAny _ _ (forIn items _ _) _ _ s;rw[<-qa];refine wpAny_forIn_list _ (λrest r Z=>r.1=none/\Z=s/\∃left,Paired (isQ s.heap n) left rest) _ ?_ ?_ _ _ ⟨Y,Y,ks,hi⟩
  .rintro v rest r Z ⟨hr,rfl,left,hl⟩
   cases hl with
   | @cons k _ J _ M G=>
    refine Zl<|EK (n:=n) (m:=m) (k:=k) (Nat.le_of_succ_le_succ hm) M ?_;simp only[qX,vY,if_false];exact Zm ⟨Y,Y,J,G⟩
  .rintro ⟨r1,r2⟩ Z ⟨hr,rfl,_⟩
   simp only at hr;subst hr;exact Zm h
theorem zQ:∀{n:Nat}{x y:DK n}{A:Around}{E:kW}{s:Shared}{u v:Value}{Q:Bool->Shared->Prop}{r:Bool},A.units+n<=cLine->isQ s.heap n x u->isQ s.heap n y v->(r=true↔x=y)->Q r s->wpAny (model prog w) A (eqBool u v) Q E s
 |0,x,y,_,_,_,_,_,_,r,_,hx,hy,Z,h=>by
  have P:∀(x y:X4),(r=true↔x=y)->decide (x=y)=r:=λx y Z=>by
   cases r with
   |true=>exact decide_eq_true<|Z.mp rfl
   |false=>exact Zy λz=>Zi<|Z.mpr z
  refine LV hx hy ?_;rw[P x y Z];exact h
 |n+1,.inl x,.inl y,_,_,_,_,_,_,r,_,hx,hy,Z,h=>by
  refine LV hx hy ?_
  have e:decide (x=y)=r:=by
   cases r with
   |true=>exact decide_eq_true<|Sum.inl.inj<|Z.mp rfl
   |false=>exact Zy λz=>Zi<|Z.mpr<|congrArg Sum.inl z
  rw[e];exact h
 |n+1,.inl x,.inr ys,A,E,s,u,v,Q,r,hu,hx,⟨a,o,it,m,e,ho,hc,hd,_⟩,Z,h=>by
  subst e;have F:r=false:=kE.mpr λz=>nomatch Z.mp z
  subst F;have L:s.heap.IsTuple a it:=⟨o,ho,hc,m,hd⟩;rcases JG hx with⟨i,t,_,rfl⟩|⟨z,t,_,rfl⟩|⟨_,rfl⟩
  .exact SeqAt.EqAt.int_tuple i t L (by omega) _ _ _ _ h
  .exact SeqAt.EqAt.str_tuple z t L (by omega) _ _ _ _ h
  .exact SeqAt.EqAt.none_tuple L (by omega) _ _ _ _ h
 |n+1,.inr xs,.inl y,A,E,s,u,v,Q,r,hu,⟨a,o,it,m,e,ho,hc,hd,_⟩,hy,Z,h=>by
  subst e;have F:r=false:=kE.mpr λz=>nomatch Z.mp z
  subst F;have L:s.heap.IsTuple a it:=⟨o,ho,hc,m,hd⟩;rcases JG hy with⟨i,t,_,rfl⟩|⟨z,t,_,rfl⟩|⟨_,rfl⟩
  .exact SeqAt.EqAt.tuple_int i t L (by omega) _ _ _ _ h
  .exact SeqAt.EqAt.tuple_str z t L (by omega) _ _ _ _ h
  .exact SeqAt.EqAt.tuple_none L (by omega) _ _ _ _ h
 |n+1,.inr x,.inr y,A,E,s,u,v,Q,r,hu,⟨a,oa,xs,na,e,hoa,hca,hda,hia⟩,⟨b,ob,ys,nb,e',hob,hcb,hdb,hib⟩,hr0,h=>by
  subst e;subst e';have S:s.TypeIs (.ref a) "tuple":=⟨oa,hoa,hca⟩;have I:s.TypeIs (.ref b) "tuple":=⟨ob,hob,hcb⟩
  have c:r=decide (x=y):=by
   cases r with
   |true=>exact(decide_eq_true<|Sum.inr.inj<|hr0.mp rfl).symm
   |false=>exact(Zy λz=>Zi<|hr0.mpr<|congrArg Sum.inr z).symm
  subst c;unfold eqBool
  try with_reducible refine wpAny_holding ?_
  show wpAny _ _ (if(Value.ref a==Value.ref b)=true then _ else _) Q E s
  by_cases hab:(Value.ref a==Value.ref b)=true
  .rw [Zp hab]
   have e:a=b:=by have:=eq_of_beq hab;injection this
   subst e;have q:(Sum.inr x:DK (n+1))=Sum.inr y:=MM (h:=s.heap) (n:=n+1) (v:=.ref a) ⟨a,oa,xs,na,rfl,hoa,hca,hda,hia⟩ ⟨a,ob,ys,nb,rfl,hob,hcb,hdb,hib⟩;rw[decide_eq_true (Sum.inr.inj q)]at h;exact Zl<|jD<|Zm h
  .rw [Zq hab]
   refine Zl (wpAny_richCompare_same_room (op:=.Eq) S I PySem.F.slot_tuple_eq
    (vo PySem.F.slot_tuple_eq S PySem.F.entry_tuple_eq ?_<|PySem.F.args_tuple_eq_2 _ _) (by omega))
   show wpAny _ _ (isInstance (.ref b) (.type "tuple") >>=_) _ _ s;refine Zl<|jI I isSubtype_tuple_tuple ?_;simp only[qX,vY,if_false];refine Zl<|wpAny_tupleItemsOf hoa hda ?_;refine Zl<|wpAny_tupleItemsOf hob hdb ?_;refine Zl ?_;refine wpAny_forIn_list _
    (λrest r X=>r.1=none/\X=s/\∃C U G J,rest=List.zip G J/\Paired (isQ s.heap n) C G/\Paired (isQ s.heap n) U J/\decide (C=U)=decide (x=y)/\(G.length==J.length)=(xs.size==ys.size))
    _ ?_ ?_ _ _ ⟨rfl,rfl,x,y,xs.toList,ys.toList,rfl,hia,hib,rfl,by simp⟩
   .rintro ⟨u,v⟩ rest r X ⟨Z,rfl,C,U,G,J,hz,hx',hy',hdec,hlen⟩
    cases hx' with
    |nil=>simp at hz
    | @cons g f R O p B=>
     cases hy' with
     |nil=>simp at hz
     | @cons j d N M k T=>
      simp only[jJ,List.cons.injEq,Prod.mk.injEq]at hz;obtain⟨⟨rfl,rfl⟩,rfl⟩:=hz;refine Zl<|zQ (n:=n) (x:=g) (y:=j) (r:=decide<|g=j) (by show A.units+1+n<=cLine;omega) p k decide_eq_true_iff ?_
      by_cases hk:g=j
      .subst hk
       rw[decide_eq_true rfl];simp only[qX,vY,if_false];refine Zm ⟨Y,Y,R,N,O,M,Y,B,T,?_,by simpa using hlen⟩;rw[<-hdec]
       by_cases hxy:R=N
       .simp [hxy]
       .simp [hxy]
      .rw [Zy hk]
       simp only[Bool.not_false,if_true];have F:decide (x=y)=false:=by rw[<-hdec];simp[hk]
       rw[F]at h;exact Zl<|Zm<|Zm<|Zm ⟨_,rfl,(λe=>nomatch e),vJ h⟩
   .rintro ⟨r1,r2⟩ X ⟨Z,rfl,C,U,G,J,hz,hx',hy',hdec,hlen⟩
    simp only at Z;subst Z;refine Zm ?_
    have D:(xs.size==ys.size)=decide (x=y):=by
     rw[<-hdec,<-hlen]
     cases hx' with
     |nil=>
      cases hy' with
      |nil=>simp
      |cons _ _=>simp
     |cons _ _=>
      cases hy' with
      |nil=>simp
      |cons _ _=>simp at hz
    rw[<-D]at h;exact⟨_,Y,(λe=>nomatch e),vJ h⟩
def X0(prog:Program)(w:World)(n:Nat)(hn:n+1<=8):HeapKind prog w (List<|DK n) where
 is:=λh Z a=>isQ h (n+1) (.inr Z) (.ref a)
 hash:=λZ=>Xt w (n+1) (.inr Z)
 draws:=λZ=>TR (n+1) (.inr Z)
 room:=λA=>A.units+(n+1)<=cLine
 inj:=λG J=>Sum.inr.inj (MM G J)
 keeps:=λx O R N=>RD O R N x
 pyHash:=λL M h=>LE L M h
 eqBool:=λ{A E s x y a b Q} L G J h=>zQ (r:=decide<|x=y) L G J ⟨λz=>congrArg Sum.inr<|Zt z,λz=>decide_eq_true<|Sum.inr.inj z⟩ h
 quiet:=λM h=>EK hn M h
end
def knD:X4->Dat
 |none=>.non
 |some (.inl i)=>.int i
 |some (.inr x)=>.str x
def dkD:(n:Nat)->DK n->Dat
 |0,k=>knD k
 |_+1,.inl k=>knD k
 |n+1,.inr ks=>.tup<|ks.map<|dkD n
theorem K1{x:V}{v:Value}:∀{k:X4},Has H x (knD k)->RelV x v->XS k v
 |none,h,r=>by
  unfold knD Has at h;subst h;exact(show v=Value.none from r)
 |some (.inl i),h,r=>by
  unfold knD Has at h;subst h;obtain⟨t,e⟩:=(show ∃t,v=Value.int i t from r);subst e;exact Tz i t
 |some (.inr z),h,r=>by
  unfold knD Has at h;subst h;obtain⟨t,e⟩:=(show ∃t,v=Value.str z t from r);subst e;exact Wc z t
theorem G4(M:HOk P w H h):∀{n:Nat}{k:DK n}{x:V}{v:Value},Has H x (dkD n k)->RelV x v->isQ h n k v
 |0,_,_,_,hk,r=>K1 hk r
 |_+1,.inl _,_,_,hk,r=>K1 hk r
 |n+1,.inr J,x,v,hk,r=>by
  have L:Has H x (.tup<|J.map<|dkD n):=hk;unfold Has at L;obtain⟨a,B,rfl,R,Z⟩:=L;cases(show v=Value.ref a from r);obtain⟨T,G,D,o,N,_,F,m,O⟩:=(show VQ P w H h a (.tup B)from M a _ R);clear T;exists a,o,G.toArray,m,Y,N,F,O;show Paired (isQ h n) J G.toArray.toList;rw[qS];clear N O R r hk
  induction D generalizing J with
  |nil=>
   cases J with
   |nil=>exact .nil
   |cons k J=>unfold List.map HasL at Z;exact Z.elim
  |cons E t ih=>
   cases J with
   |nil=>unfold List.map HasL at Z;exact Z.elim
   |cons k J=>
    rw[ZV]at Z;unfold HasL at Z;exact .cons (G4 M Z.1 E)<|ih _ Z.2
abbrev DE(n:Nat):=List (DK n)×Addr×V
def keD{n:Nat}(k:List (DK n)):Dat:=.tup<|k.map<|dkD n
def KDp{n:Nat}(kvs:List (DE n))(xs:List (List (DK n)×Addr×Value)):Prop:=Paired (λ(p:DE n)(q:List (DK n)×Addr×Value)=>p.1=q.1/\p.2.1=q.2.1/\RelV p.2.2 q.2.2) kvs xs
def ddO(P:Program)(w:World)(n:Nat)(hn:n+1<=8)(a:Addr)(kvs:List (DE n)):HO:=.ext λh=>kvs.length<=sizeLine/\(a==sysModules)=false/\∃Z:List (List (DK n)×Addr×Value),KDp kvs Z/\
 ∃(o:Obj)(J:Array DictEntry)(G:Nat),h.get? a=some o/\o.ExactDict/\o.data=.dict J G/\J.toList=Z.map (entryOfKey<|X0 P w n hn)/\(Z.map (·.1)).Nodup
def KOk{n:Nat}(H:Hp)(kvs:List (DE n)):Prop:=∀p∈kvs,Has H (.ref p.2.1)<|keD p.1
def RY{n:Nat}(kvs:List (DE n))(k:List (DK n)):pD:=(kvs.find? λp=>decide<|p.1=k).map (·.2.2)
def putD{n:Nat}(kvs:List (DE n))(k:List (DK n))(b:Addr)(v:V):List (DE n):=if(RY kvs k).isSome then kvs.map (λp=>if p.1=k then(p.1,p.2.1,v)else p)else kvs++[(k,b,v)]
def KDp.val{n:Nat}{Z:List (DE n)}{J}(r:KDp Z J)(k:List (DK n)):UT (RY Z k) ((atKey J k).map (·.2)):=by
 induction r with
 |nil=>exact True.intro
 | @cons p q N M h t ih=>
  obtain⟨G,O,L⟩:=h;unfold RY atKey at ih |-;rw[vL,vL]
  by_cases e:p.1=k
  .rw [decide_eq_true e,decide_eq_true (G.symm.trans e)];exact L
  .rw [Zy e,Zy λz=>e (G.trans z)];exact ih
def KDp.put{n:Nat}{Z:List (DE n)}{J}(r:KDp Z J)(k:List (DK n))(b:Addr)(L:RelV y u):KDp (putD Z k b y) (storedH J k b u):=by
 have e:(RY Z k).isSome=(atKey J k).isSome:=by
  rw[(r.val k).isSome_eq,jL]
 unfold putD storedH;rw[e]
 by_cases q:(atKey J k).isSome=true
 .rw [Zp q,Zp q]
  clear e q
  induction r with
  |nil=>exact .nil
  | @cons p q R O h t ih=>
   rw[ZV,ZV];refine .cons ?_ ih;obtain⟨G,M,N⟩:=h;unfold putAt
   by_cases e:p.1=k
   .rw [Zp e,Zp (G.symm.trans e)];exact⟨G,M,L⟩
   .rw [Zq e,Zq (λz=>e<|G.trans z)];exact⟨G,M,N⟩
 .rw [Zq q,Zq q];exact Paired.snoc r ⟨Y,Y,L⟩
def Il{n:Nat}(Z:List (DE n))(k:List (DK n))(b:Addr)(v:V):(putD Z k b v).length<=Z.length+1:=by
 unfold putD
 split
 .rw [ZA];exact jK _
 .rw [ZL];exact ZG _
def KOk.put{n:Nat}{Z:List (DE n)}{k:List (DK n)}{b:Addr}{v:V}(h:KOk H Z)(J:Has H (.ref b) (keD k)):KOk H (putD Z k b v):=λp m=>by
 unfold putD at m
 split at m
 .obtain ⟨q,hq,e⟩:=ZW.mp m
  subst e
  by_cases c:q.1=k
  .rw [Zp c];exact h q hq
  .rw [Zq c];exact h q hq
 .rcases ZX.mp m with m|m
  .exact h p m
  .rw [ZQ.mp m];exact J
section
variable{X:Cx}{n:Nat}{hn:n+1<=8}
def Eo{Z:List (DE n)}(L:HOk P w H h)(e:H a=some (ddO P w n hn a Z))(k:KOk H Z):Z.length<=sizeLine/\(a==sysModules)=false/\∃G,KDp Z G/\h.DictOfH (X0 P w n hn) a G:=by
 obtain⟨⟨z,y,G,r,o,A,I,D,B,T,N,M⟩,O⟩:=(show VQ P w H h a (ddO P w n hn a Z)from L a _ e);refine⟨z,y,G,r,o,A,I,D,B,T,N,?_,M⟩;clear e N M O z
 induction r with
 |nil=>exact λx J=>nomatch J
 | @cons p q U S R t ih=>
  intro x J;rcases Zd.mp J with e|J
  .subst e
   obtain⟨F,E,_⟩:=R;have:=k p Za;rw[F,E]at this;exact G4 (n:=n+1) (k:=.inr x.1) L this Y
  .exact ih (λp m=>k p<|ZM _ m) x J
def DGd(P:Program)(w:World)(n:Nat)(hn:n+1<=8)(H:Hp)(a:Addr)(y:V)(r:pD):Prop:=∃(Z:List (DE n))(k:List (DK n))(b:Addr),H a=some (ddO P w n hn a Z)/\KOk H Z/\y=.ref b/\Has H (.ref b) (keD k)/\r=RY Z k
def DPd(P:Program)(w:World)(n:Nat)(hn:n+1<=8)(H:Hp)(a:Addr)(y v:V)(H':Hp):Prop:=∃(Z:List (DE n))(k:List (DK n))(b:Addr),H a=some (ddO P w n hn a Z)/\KOk H Z/\y=.ref b/\Has H (.ref b) (keD k)/\Z.length<sizeLine/\H'=upd H a (ddO P w n hn a<|putD Z k b v)
def Bq{P:Program}{w:World}{A:Around}(Z:A.units+16<cLine):(X0 P w n hn).room A.in1:=by
 show A.units+1+(n+1)<=cLine;omega
def Dj(F:A.units+16<cLine)(I:Inv X Z U H s)(g:DGd X.prog X.w n hn H a y (some v))(R:RelV y u)(h:∀J N,Inv X Z U H N->RelV v J->Q J N):
  wpAny (model X.prog X.w) A (getItem (.ref a) u) Q E s:=by
 obtain⟨T,k,b,e,B,C,P,l⟩:=g;subst C;cases(show u=Value.ref b from R);obtain⟨z,q,O,L,j⟩:=Eo I.hok e B;obtain⟨J,D,G⟩:=UT.some_of (v:=v) (o:=(atKey O k).map (·.2)) (by rw[l];exact L.val k);obtain⟨p,S,M⟩:=Zj.mp D;refine wpAny_getItem_heap (Bq F) (G4 (n:=n+1) (k:=.inr k) I.hok P Y) j S ?_;rw[M];exact h J _ (I.tok _) G
def Lg(O:A.units+16<cLine)(I:Inv X Z U H s)(g:DGd X.prog X.w n hn H a y o)(L:RelV y u)(h:∀G,Inv X Z U H G->Q (.bool<|!o.isSome) G):
  wpAny (model X.prog X.w) A (compareOp .NotIn u<|.ref a) Q E s:=by
 obtain⟨M,k,b,e,N,T,B,l⟩:=g;subst T;cases(show u=Value.ref b from L);obtain⟨z,R,F,J,D⟩:=Eo I.hok e N;refine wpAny_notIn_heap (Bq O) (G4 (n:=n+1) (k:=.inr k) I.hok B Y) R D ?_;have q:=(J.val k).isSome_eq;rw[jL]at q;rw[<-q,<-l];exact h _<|I.tok _
def QZ{Z:List (DE n)}{G}(z:Z.length<=sizeLine)(D:(a==sysModules)=false)(r:KDp Z G)(d:h.DictOfH (X0 P w n hn) a G):VQ P w H h a (ddO P w n hn a Z):=by
 obtain⟨o,Q,j,R,S,A,F,_,E⟩:=d;refine⟨⟨z,D,G,r,o,Q,j,R,S,A,F,E⟩,⟨o,R⟩,λU I q k=>?_⟩;obtain⟨T,L,J,B,O,M,N,C,g⟩:=q;exact⟨T,L,J,B,O,M,N,k O C,g⟩
def Di(D:A.units+16<cLine)(I:Inv X J U H s)(g:DPd X.prog X.w n hn H a y v c)(O:RelV y u)(R:RelV v r)(h:∀M,Inv X J U c M->Q () M):
  wpAny (model X.prog X.w) A (setItem (.ref a) u r) Q E s:=by
 obtain⟨G,k,b,e,T,j,t,l,m⟩:=g;subst j m;cases(show u=Value.ref b from O);obtain⟨z,P,N,Z,p⟩:=Eo I.hok e T;have B:N.length<=sizeLine:=by rw[<-Paired.length Z];exact z
 have C:(putD G k b v).length<=sizeLine:=by have:=Il G k b v;omega
 refine wpAny_setItem_heap (hsz:=B) (Bq D) (G4 (n:=n+1) (k:=.inr k) I.hok t Y) p λd L F=>h _ ?_;exact X2 I (by rw[e];exact True.intro) F (let⟨q,_,_,S,_⟩:=L;⟨q,S⟩)<|QZ C P (Z.put k b R) L
def Ps(I:Inv X Z U H s)(g:DGd X.prog X.w n hn H a y o):s.TypeIs (.ref a) "dict":=by
 obtain⟨J,k,b,e,G,_⟩:=g;obtain⟨_,_,M,_,L⟩:=Eo I.hok e G;exact L.typeIs
def Qs(P:Program)(w:World)(n:Nat)(hn:n+1<=8)(td ty:TE):TE:=λU H Q=>td U H λx J=>ty U J λy Z=>V9 x λa=>∃v,DGd P w n hn Z a y (some v)/\Q v Z
def II(P:Program)(w:World)(n:Nat)(hn:n+1<=8)(ty td:TE):TE:=λU H Q=>ty U H λy J=>td U J λx Z=>V9 x λa=>∃o,DGd P w n hn Z a y o/\Q (.bl<|!o.isSome) Z
def ST(P:Program)(w:World)(n:Nat)(hn:n+1<=8)(td ty tv:TE):TS:=λD U H=>tv U H λv L=>td U L λx G=>ty U G λy J=>V9 x λa=>∃Z,DPd P w n hn J a y v Z/\D.nx U Z
def Qr(P:Program)(w:World)(n:Nat)(hn:n+1<=8):TE:=λU H Q=>∀a,H a=none->Q (.ref a) (upd H a<|ddO P w n hn a [])
def I0(T:X.A.units+16<cLine)(D:PE X o td)(E:PE X i ty)(B:P6 i):PE X (.Subscript o i pos) (Qs X.prog X.w n hn td ty):=by
 intro Z s U H Q I h;refine Rb PySem.F.slot_dict_getitem.lookup B<|thn (D Z s U H _ I h) λu M ⟨x,P,S,O,R⟩=>thn (E Z M U P _ S R) λt q ⟨y,C,L,N,J⟩=>?_;replace J:=V9.old J;obtain⟨a,F,v,g,J⟩:=J;subst F;obtain rfl:u=Value.ref a:=O;exact⟨Ps L g,Dj T L g N λj z A G=>⟨v,C,A,G,J⟩⟩
def Bv(R:X.A.units+16<cLine)(B:PE X i ty)(T:PE X o td):PC X .NotIn i o (II X.prog X.w n hn ty td):=by
 intro Z s U H Q I h;refine thn (B Z s U H _ I h) λz G ⟨y,C,A,L,N⟩=>thn (T Z G U C _ A N) λu j ⟨x,S,F,M,J⟩=>?_;replace J:=V9.old J;obtain⟨a,D,O,g,J⟩:=J;subst D;obtain rfl:u=Value.ref a:=M;exact Lg R F g L λP E=>⟨.bl<|!O.isSome,S,E,rfl,J⟩
def Ip(E:X.A.units+16<cLine)(A:PE X o td)(S:PE X i ty)(B:PE X value tv)(F:swapsWith value (some<|.Subscript o i pos') pos.line X.env=pure false):
  PS X (.Assign [.Subscript o i pos'] value pos) (ST X.prog X.w n hn td ty tv):=by
 intro Z s U H D I h;refine wpAny_Assign_Subscript (thn (B Z s U H _ I h) λr L ⟨v,m,z,O,T⟩=>thn (A Z L U m _ z T) λu G ⟨x,t,j,N,R⟩=>thn (S Z G U t _ j R) λc p ⟨y,d,Q,M,J⟩=>?_) F;replace J:=V9.old J;obtain⟨a,C,q,g,J⟩:=J;subst C;obtain rfl:u=Value.ref a:=N;exact Di E Q g M O λk P=>⟨U,q,P,J⟩
def Lh{P:Program}{w:World}(h:Heap)(Z:sysModules<h.objs.size):VQ P w H (h.push {cls:=.type "dict",data:=.dict #[]}) h.objs.size (ddO P w n hn h.objs.size []):=by
 refine QZ (Zc _) (beq_eq_false_iff_ne.mpr<|vM Z) .nil ⟨_,#[],_,ZY _ rfl,?_,rfl,rfl,(λx m=>nomatch m),jM⟩;exact⟨Y,Y,Y⟩
def Iz:PE X (.Dict [] [] pos) (Qr X.prog X.w n hn):=λZ s U H Q I h=>
 wpAny_Dict_empty ⟨.ref s.heap.objs.size,_,I.laid (a:=s.heap.objs.size) (o:=ddO X.prog X.w n hn s.heap.objs.size []) (t':=s.toks) (λ_ _ q=>ZE _ q) (ZG _)<|Lh s.heap I.big,rfl,h _<|I.hok.fresh<|ZG _⟩
def ym(Z:Vr k A):A.units+16<cLine:=by have:=Z.un;omega
end
end L2
namespace L2
open PySem
inductive Tg where
 |tag (t:Str)|cell (n:Nat)|giv (i:Nat)
def Tg.dat:Tg->Dat
 |.tag t=>.tup [.str "tag",.str t]
 |.cell n=>.tup [.str "cell",.int (n:Nat)]
 |.giv i=>NY i []
def Tg.ti(x:Tg):x.dat.ti=true:=by cases x <;> simp[Tg.dat,Dat.ti,Dat.tis,LN]
abbrev Mk1:=Nat×List Int
def hn1:1+1<=8:=by decide
def kyD(c:Mk1):List (DK 1):=[.inl (some<|.inl (c.1:Int)),.inr (c.2.map λi=>some<|.inl i)]
theorem EX:∀Z:pe,List.map (dkD 0) (Z.map λi=>(some (.inl i):X4))=Z.map Dat.int
 |[]=>rfl
 |w::Z=>congrArg (Dat.int w:: ·)<|EX Z
def W3(c:Mk1):keD (kyD c)=.tup [.int (c.1:Nat),Jy c.2]:=congrArg (λz=>Dat.tup [Dat.int (c.1:Nat),Dat.tup z])<|EX c.2
def EY{a b:Mk1}(h:kyD a=kyD b):a=b:=by
 obtain⟨G,O⟩:=a;obtain⟨J,N⟩:=b;unfold kyD at h;have Z:=List.cons.inj h;have L:=(List.cons.inj Z.2).1;have R:(G:Int)=J:=Sum.inl.inj<|ZT<|Sum.inl.inj Z.1;have M:O=N:=(List.map_inj_right λi j z=>Sum.inl.inj<|ZT z).mp<|Sum.inr.inj L;rw[show G=J by omega,M]
def P0(bs:pE)(c:Mk1):Dat:=.tup [bs.getD c.1 (.tup []),Jy c.2]
def Vq(cs:List Mk1):pE:=cs.foldl (λZ c=>Z++[P0 Z c]) [.tup []]
def U7:Vq (cs++[c])=Vq cs++[P0 (Vq cs) c]:=by unfold Vq;rw[qf];rfl
theorem Ui:∀(n:Nat)(Z:List Mk1),Z.length=n->(Vq Z).length=n+1/\∀d∈Vq Z,d.ti=true
 |0,Z,h=>by
  obtain rfl:=ja h;refine⟨Y,λd G=>?_⟩;have:d=.tup []:=ZQ.mp G;subst this;simp[Dat.ti,Dat.tis]
 |n+1,Z,h=>by
  have J:Z≠[]:=λz=>by rw[z]at h;cases h
  rw[<-jc J,U7];obtain⟨M,L⟩:=Ui n Z.dropLast (by rw[qJ,h];rfl);refine⟨by rw[ZL,M];rfl,λd G=>?_⟩;rcases ZX.mp G with q|q
  .exact L d q
  .rw [ZQ]at q
   subst q
   have:((Vq Z.dropLast)[(Z.getLast J).1]?.getD<|.tup []).ti=true:=by
    cases e:(Vq Z.dropLast)[(Z.getLast J).1]? with
    |none=>simp[Dat.ti,Dat.tis]
    |some x=>exact L x<|ZJ e
   simp[P0,Dat.ti,Dat.tis,this,W9]
def Xg(Z:List Mk1):(Vq Z).length=Z.length+1:=(Ui _ Z rfl).1
def J8(Z:List Mk1):Dat.tis (Vq Z)=true:=UW (Ui _ Z rfl).2
abbrev Rho:=Str->Option Tg
def KnR(A:GA)(H:Hp)(a:Addr)(ρ:Rho)(m:Nat):Prop:=a≠A.st/\∃Z,H a=some (.dK Z)/\Z.length<=m/\∀x J,ρ x=some J->∃v,VB Z (Sum.inr x)=some v/\Has H v J.dat
structure Sta where
 f:Str
 pl:List Int
 ρ:Rho
def Mo(kvs:List (DE 1))(cs:List Mk1):Prop:=kvs.length=cs.length/\∀(k:Nat) p,kvs[k]?=some p->∃c,cs[k]?=some c/\p.1=kyD c/\p.2.2=.int ((k+1:Nat):Int)
def Mo.no(h:Mo Z cs)(n:c∉cs):RY Z (kyD c)=none:=by
 unfold RY;rw[j9.mpr ?_]
 .rfl
 intro p J z;obtain⟨k,G⟩:=vj.mp J;obtain⟨N,M,L,_⟩:=h.2 k p G;have e:N=c:=EY<|L.symm.trans<|Zt z;subst e;exact n<|ZJ M
def Mo.at(h:Mo Z cs)(M:cs.Nodup)(L:cs[k]?=some c):RY Z (kyD c)=some (.int ((k+1:Nat):Int)):=by
 have G:=(ZF.mp L).1;have J:k<Z.length:=by rw[h.1];exact G
 obtain⟨X,O,A,C⟩:=h.2 k _<|ZD J;rw[L]at O;cases O;unfold RY
 cases e:Z.find? λp=>decide (p.1=kyD c)with
 |none=>
  have:=j9.mp e _<|List.getElem_mem J;exact Zr (decide_eq_true A) this
 |some p=>
  have E:=vp e;have D:p.1=kyD c:=by have:=List.find?_some (p:=λp:DE 1=>decide<|p.1=kyD c) e;exact Zt this
  obtain⟨j,F⟩:=vj.mp E;obtain⟨U,R,S,I⟩:=h.2 j p F;have:U=c:=EY<|S.symm.trans D;subst this;have N:=(ZF.mp R).1
  have:j=k:=by
   have B:=(ZF.mp R).2;have T:=(ZF.mp L).2;rcases kH j k with q|q|q
   .exact Zr (B.trans T.symm) (vV.mp M j k N G q)
   .exact q
   .exact Zr (T.trans B.symm) (vV.mp M k j G N q)
  subst this;rw[show(some p).map (·.2.2)=some p.2.2 from rfl,I]
def Mo.snoc(h:Mo Z cs)(n:c∉cs):Mo (putD Z (kyD c) b<|.int ((cs.length+1:Nat):Int)) (cs++[c]):=by
 unfold putD;rw[h.no n];rw[Zq (by simp)];refine⟨by rw[ZL,ZL,h.1];rfl,λk p J=>?_⟩;rcases jn k Z.length with q|q
 .rw [vd q]at J
  obtain⟨M,L,G⟩:=h.2 k p J;exact⟨M,by rw[vd (by rw[<-h.1];exact q)];exact L,G⟩
 .have kl:=(ZF.mp J).1
  rw[ZL,vc]at kl;have:k=Z.length:=by omega
  subst this;rw[vb (ZG _),vO]at J;cases J;exact⟨c,by rw[h.1,vb<|ZG _,vO];rfl,Y,by rw[h.1]⟩
def FrG(A:GA)(H H':Hp):Prop:=∀b o,b≠A.bs->b≠A.nu->b≠A.st->H b=some o->H' b=some o
def FrG.refl(A:GA)(H:Hp):FrG A H H:=λb o _ _ _ h=>h
def FrG.trans(a:FrG A H M)(b:FrG A M L):FrG A H L:=λc o G J Z e=>b c o G J Z<|a c o G J Z e
def FrG.of(s:Same H Z):FrG A H Z:=λb o _ _ _ h=>s _ _ h
def U4(sts:Nat->Option Sta)(m:Nat):Nat:=((List.range<|m+1).filter λk=>(sts k).isSome).length
def Wf:U4 sts (m+1)=U4 sts m+if(sts<|m+1).isSome then 1 else 0:=by
 unfold U4;rw[vT,List.filter_append,ZL]
 congr 1
 cases e:(sts<|m+1).isSome <;> simp[e]
def Er:∀m,U4 sts m<=m+1:=λm=>by
 unfold U4;exact Zb (List.length_filter_le _ _) (by rw[ve];exact ZG _)
def Fg(h:m<=m'):U4 sts m<=U4 sts m':=by
 induction h with
 |refl=>exact ZG _
 |step _ ih=>rw[Wf];omega
def stP(sts:Nat->Option Sta)(k:Nat)(s:Sta):Nat->Option Sta:=λn=>if n=k then some s else sts n
def Lo(h:(sts k).isSome=true):U4 (stP sts k s) m=U4 sts m:=by
 unfold U4
 congr 1
 refine List.filter_congr λj _=>?_;unfold stP
 by_cases z:j=k
 .rw [Zp z,z,h];rfl
 .rw [Zq z]
theorem Nj(h:sts k=none):∀m,k<=m->U4 (stP sts k s) m=U4 sts m+1
 |0,hk=>by
  obtain rfl:k=0:=by omega
  simp[U4,stP,h]
 |m+1,hk=>by
  rw[Wf,Wf]
  by_cases z:k=m+1
  .subst z
   have J:∀Z,Z<m+1->U4 (stP sts (m+1) s) Z=U4 sts Z:=λZ L=>by
    unfold U4
    congr 1
    refine List.filter_congr λj G=>?_;unfold stP;rw[Zq (by have:=vt.mp G;omega)]
   rw[J m (by omega),h];simp[stP]
  .rw [Nj h m (by omega)]
   rw[show(stP sts k s<|m+1)=sts (m+1) by unfold stP;rw[Zq (by omega)]];omega
structure GG(P:Program)(w:World)(H:Hp)(CG:Addr)(A:GA)(cs:List Mk1)(sts:Nat->Option Sta)(av:Addr->Prop):Prop where
 ins:H A.t=some (.ins CG A.dx (Xw A))
 bs:∃xs,H A.bs=some (.lst xs)/\HasL H xs (Vq cs)
 nu:∃kvs,H A.nu=some (ddO P w 1 hn1 A.nu kvs)/\KOk H kvs/\Mo kvs cs
 nd:cs.Nodup
 gv:H A.gv=some (.tup (A.gs.map V.str))
 st:∃kvs,H A.st=some (.dK kvs)/\kvs.length<=U4 sts cs.length/\∀n s,sts n=some s->∃t p kn,VB kvs (Sum.inl (n:Int))=some (.ref t)/\H t=some (.tup [.str s.f,.ref p,.ref kn])/\H p=some (.tup (s.pl.map V.int))/\KnR A H kn s.ρ (3+s.pl.length)/\ ¬av kn
def GG.tk(g:GG P w H CG A cs sts av)(f:FrG A H M):TK H M:=λa N h=>by
 obtain⟨O,L,_⟩:=g.bs;obtain⟨Z,G,_⟩:=g.nu;obtain⟨R,J,_⟩:=g.st;refine f a _ (λz=>?_) (λz=>?_) (λz=>?_) h
 .rw [z,L]at h;cases h
 .rw [z,G]at h;unfold ddO at h;cases h
 .rw [z,J]at h;cases h
def KnR.le(k:KnR A H a ρ m)(h:m<=m'):KnR A H a ρ m':=let⟨n,Z,L,J,G⟩:=k;⟨n,Z,L,Zb J h,G⟩
def KnR.fr(k:KnR A H a ρ m)(g:GG P w H CG A cs sts av)(f:FrG A H B):KnR A B a ρ m:=by
 obtain⟨n,J,Z,N,O⟩:=k;obtain⟨D,T,_⟩:=g.bs;obtain⟨E,R,_⟩:=g.nu;refine⟨n,J,f a _ (λz=>?_) (λz=>?_) n Z,N,λx G e=>let⟨v,M,L⟩:=O x G e;⟨v,M,VD (g.tk f) _ (Tg.ti G) L⟩⟩
 .rw [z,T]at Z;cases Z
 .rw [z,R]at Z;unfold ddO at Z;cases Z
def KnR.mono(k:KnR A H a ρ m)(s:Same H R):KnR A R a ρ m:=by
 obtain⟨n,Z,O,M,N⟩:=k;exact⟨n,Z,s _ _ O,M,λx L e=>let⟨v,G,J⟩:=N x L e;⟨v,G,J.mono s⟩⟩
def KOk.tk{Z:List (DE 1)}{L:List Mk1}(k:KOk H Z)(n:Mo Z L)(t:TK H M):KOk M Z:=λp m=>by
 obtain⟨j,J⟩:=vj.mp m;obtain⟨c,_,G,_⟩:=n.2 j p J;have:=k p m;rw[G,W3]at this |-;exact VD t _ (by simp[Dat.ti,Dat.tis,W9]) this
def GG.mono(g:GG P w H CG A cs sts av)(s:Same H Q):GG P w Q CG A cs sts av:=by
 obtain⟨J,X,C⟩:=g.bs;obtain⟨T,U,S,I⟩:=g.nu;obtain⟨Z,F,E,D⟩:=g.st;refine⟨s _ _ g.ins,⟨J,s _ _ X,C.mono s⟩,⟨T,s _ _ U,λp m=>(S p m).mono s,I⟩,g.nd,s _ _ g.gv,Z,s _ _ F,E,λn R e=>?_⟩;obtain⟨t,p,B,O,N,M,L,G⟩:=D n R e;exact⟨t,p,B,O,s _ _ N,s _ _ M,L.mono s,G⟩
def GG.avoid(g:GG P w H CG A cs sts av)(h:H l=none)(s:Same H I):GG P w I CG A cs sts (λa=>av a\/a=l):=by
 have F:=g.mono s;obtain⟨Z,E,D,B⟩:=g.st;refine{F with st:=⟨Z,s _ _ E,D,λn G e=>?_⟩};obtain⟨t,p,T,R,O,N,J,M⟩:=B n G e;refine⟨t,p,T,R,s _ _ O,s _ _ N,J.mono s,λz=>z.elim M λz=>?_⟩;obtain⟨_,S,L,_,_⟩:=J;rw[z,h]at L;cases L
def GG.less(g:GG P w H CG A cs sts av)(h:∀a,av' a->av a):GG P w H CG A cs sts av':=by
 obtain⟨Z,D,B,T⟩:=g.st;refine{g with st:=⟨Z,D,B,λn J e=>?_⟩};obtain⟨t,p,R,O,N,M,L,G⟩:=T n J e;exact⟨t,p,R,O,N,M,L,λz=>G<|h _ z⟩
def GG.wr(g:GG P w H CG A cs sts av)(J:H l=some (.dK i))(a:av l)(b:SameB l H T)(n:l≠A.st):GG P w T CG A cs sts av:=by
 obtain⟨B,M,o⟩:=g.bs;obtain⟨m,G,r,R⟩:=g.nu;obtain⟨L,u,f,d⟩:=g.st;have Z:TK H T:=λa s h=>b _ _ (λz=>by rw[z,J]at h;cases h) h;refine⟨b _ _ (λz=>by have:=g.ins;rw[z,J]at this;cases this) g.ins,⟨B,b _ _ (λz=>by rw[z,J]at M;cases M) M,Vu Z _ (J8 cs) o⟩,⟨m,b _ _ (λz=>by rw[z,J]at G;unfold ddO at G;cases G) G,r.tk R Z,R⟩,g.nd,Z _ _ g.gv,L,b _ _ n.symm u,f,λk y e=>?_⟩;obtain⟨t,p,c,j,Q,X,C,N⟩:=d k y e;obtain⟨I,q,F,D,E⟩:=C;exact⟨t,p,c,j,Z _ _ Q,Z _ _ X,⟨I,q,b _ _ (λz=>N<|z ▸ a) F,D,λx O e=>let⟨v,U,S⟩:=E x O e;⟨v,U,VD Z _ (Tg.ti O) S⟩⟩,N⟩
def J9(cs:List Mk1)(c:Mk1)(n:Nat)(cs':List Mk1):Prop:=(∃k,cs[k]?=some c/\n=k+1/\cs'=cs)\/(c∉cs/\n=cs.length+1/\cs'=cs++[c])
def JP:(ddO P w 1 hn1 a Z)≠.lst J:=by unfold ddO;intro z;cases z
def Jr:(ddO P w 1 hn1 a Z)≠.dK J:=by unfold ddO;intro z;cases z
def Ep:(ddO P w 1 hn1 a Z)≠.tup J:=by unfold ddO;intro z;cases z
def X1:(ddO P w 1 hn1 a Z)≠.ins C d J:=by unfold ddO;intro z;cases z
def Ym{H:Hp}{o p:HO}(h:H a=some o)(g:H b=some p)(n:o≠p):a≠b:=λz=>n (by rw[z,g]at h;exact(ZT h).symm)
end L2
namespace K4
open PySem L2
section
variable{C CK CG CO CW CD:Addr}
def MU(A:GA):(Xw A).lookup ("births":Str)=some (V.ref A.bs):=rfl
def MT(A:GA):(Xw A).lookup ("numbers":Str)=some (V.ref A.nu):=rfl
def yJ:Yi ["self","maker","place"] ["self","maker","place"] (Ye Da):=Y4
inductive SNA(P:Program)(w:World)(CG:Addr)(H:Hp)(Q:VK):List V->Prop
 |mk (A:GA) (cs:List Mk1) (sts:Nat->Option Sta) (av:Addr->Prop) (m:Nat) (pl:List Int) (p:Addr) (g:GG P w H CG A cs sts av) (hp:H p=some (.tup (pl.map V.int))) (hm:m<=cs.length) (lc:cs.length<=9000)
  (q:∀n cs' H',J9 cs (m,pl) n cs'->FrG A H H'->GG P w H' CG A cs' sts av->Q (.int (n:Nat)) H'):SNA P w CG H Q [.ref A.t,.int (m:Nat),.ref p]
def E5(P:Program)(w:World)(CG:Addr):Sp:=λZ H Q _=>SNA P w CG H Q Z
def Co(B:Blt mg)(TG:GCl K CG)(F:Fun K "number_at" "Ground.number_at" Da f fd):Yf P w K mg base CX0 (n+1) f fd ["self","maker","place"] (E5 P w CG):=by
 refine F.oi yJ λD0 A R7 s H vs Q E hr h=>?_;obtain⟨R,U,R6,av,m,O,p,g,hp,hm,lc,q⟩:=h;have hu:=ym hr;refine⟨_,YZ (Y5 (Jh<|Bv (n:=1) (hn:=hn1) hu (Yq<|pa2 (pv 1)<|pv 2)<|Yt (pv 0) rfl) (YZ (Ip (n:=1) (hn:=hn1) hu (Yt (pv 0) rfl) (Yq<|pa2 (pv 1)<|pv 2) (VF Y8 rfl B.len Zu (pa1<|Yt (pv 0) rfl)) rfl)
  (Yb<|VW<|Js Zz Z0 Z1 Vn (Yt (pv 0) rfl)<|pa1<|Yq<|pa2 (Ys VI (Yt (pv 0) rfl) (pv 1) λ_ _=>rfl)<|pv 2)) Yo)
  (Yb<|Yn<|I0 (n:=1) (hn:=hn1) hu (Yt (pv 0) rfl) (Yq<|pa2 (pv 1)<|pv 2) λ_ _=>rfl),?_⟩
 dsimp only[Vh,Cx.nox,Cx.wish];show let T0:=_;let T1:=_;let T2:=Yk _ T1;Yk (VG _ T2 _) T0 _ _ _
 intros
 refine⟨sl 2,λt1 T4=>?_⟩;refine up_in T4 _ λH1 j g1=>?_;have M:=g.mono j;obtain⟨D,J2,l,T⟩:=M.nu
 have I:∀{Hx:Hp}{t:Addr},Hx t=some (.tup [.int (m:Nat),.ref p])->Hx p=some (.tup<|O.map V.int)->Has Hx (.ref t) (keD<|kyD (m,O)):=λh1 h2=>by
  rw[W3];exact Yx h1<|Z4 (by unfold Has;rfl)<|Z5<|JC h2
 exists CG,_,_,_,M.ins,TG.cl,TG.nu,MT _,_,⟨D,kyD (m,O),t1,J2,l,Y,I g1<|j _ _ hp,rfl⟩,_,rfl
 by_cases hc:(m,O)∈U
 .obtain ⟨k,hk⟩:=vj.mp hc
  have ev:=T.at g.nd hk;refine Y6 (by rw[ev];simp) ?_;refine⟨CG,_,_,_,M.ins,TG.cl,TG.nu,MT _,sl 2,λt2 x=>?_⟩;refine up_in x _ λH2 J g2=>?_;exists _,⟨D,kyD (m,O),t2,J _ _ J2,λp m=>(l p m).mono J,Y,I g2<|J _ _<|j _ _ hp,ev.symm⟩;exact q (k+1) U H2 (.inl ⟨k,hk,Y,Y⟩) (.of<|j.trans J)<|M.mono J
 .have ev:=T.no hc
  refine VP (by rw[ev];rfl) ?_;obtain⟨xs,y,i⟩:=M.bs;have lx:=i.length;rw[Xg]at lx;refine⟨CG,_,_,_,M.ins,TG.cl,TG.bs,MU _,R.bs,_,Y,.inl<|Z3 y,CG,_,_,_,M.ins,TG.cl,TG.nu,MT _,sl 2,λt2 x=>?_⟩;refine up_in x _ λH2 J g2=>?_;have S:=M.mono J;have G:=J _ _ J2;have v:KOk H2 D:=λp m=>(l p m).mono J;refine⟨_,⟨D,kyD (m,O),t2,G,v,Y,I g2<|J _ _<|j _ _ hp,JR (by rw[T.1];omega),rfl⟩,?_⟩;rw[lx];refine fld_in R.nu _ λH3 b3 g3=>?_;have bn:R.bs≠R.nu:=Ym (J _ _ y) G JP.symm;have L:=b3 _ _ bn<|J _ _ y;have N:=b3 _ _ (Ym S.ins G X1.symm) S.ins;have R1:TK H2 H3:=λa ys h=>b3 _ _ (Ym h G Ep.symm) h;have M2:m<xs.length:=by omega
  refine⟨CG,_,_,_,N,TG.cl,TG.bs,MU _,.inl ⟨Y,_,Z3 L⟩,CG,_,_,_,N,TG.cl,TG.bs,MU _,_,_,Z3 L,VC<|ZD M2,sl 2,λt4 T3=>?_⟩;refine up_in T3 _ λH4 X g4=>?_;refine⟨R.bs,_,_,Y,Y,X _ _ L,JR<|by omega,?_⟩;refine fld_in R.bs _ λH5 b5 g5=>?_;have G1:=V6 b5<|X _ _ L;have Z:TK H2 H5:=λa ys h=>G1 _ _<|X _ _<|R1 _ _ h;have G2:=b5 _ _ bn.symm<|X _ _ g3;have r:=b5 _ _ (Ym (X _ _ N) (X _ _ L) (by intro z;cases z))<|X _ _ N;have fr:FrG R H H5:=λb o n1 n2 n3 e=>b5 _ _ n1<|X _ _<|b3 _ _ n2<|J _ _<|j _ _ e;have c:=T.snoc (b:=t2) hc
  have u:KOk H5 (putD D (kyD (m,O)) t2<|.int ((U.length+1:Nat):Int)):=(v.tk T Z).put (by
   rw[W3];have:=I g2<|J _ _<|j _ _ hp;rw[W3]at this;exact VD Z _ (by simp[Dat.ti,Dat.tis,W9]) this)
  have G3:(U++[(m,O)]).Nodup:=by
   rw[jt];exact⟨g.nd,by simp,λa ha b hb z=>by rw[ZQ]at hb;subst hb;subst z;exact hc ha⟩
  have T5:(U++[(m,O)])[U.length]?=some (m,O):=by rw[vb (ZG _),vO];rfl
  have T9:=c.at G3 T5
  have T7:GG P w H5 CG R (U++[(m,O)]) R6 av:=by
   exists r,⟨_,g5,?_⟩,⟨_,G2,u,c⟩,G3,Z _ _ S.gv
   .rw [U7]
    obtain⟨d,O1,T6⟩:=i.get<|ZD M2;have e:(Vq U).getD m (.tup [])=d:=by rw[vg,O1];rfl
    refine Z7 (Vu Z _ (J8 U)<|i.mono J)<|Z5 ?_;have dt:d.ti=true:=(Ui _ U rfl).2 d<|ZJ O1;unfold P0;rw[show((m,O):Mk1).1=m from rfl,e];exact Yx (G1 _ _ g4)<|Z4 (VD Z _ dt<|T6.mono J)<|Z5<|JC<|Z _ _<|J _ _<|j _ _ hp
   .obtain ⟨ks,h6,h7,h8⟩:=S.st
    have sn:R.st≠R.nu:=Ym h6 G Jr.symm;have sb:R.st≠R.bs:=Ym h6 (J _ _ y) (by intro z;cases z);have T8:FrG R H2 H5:=λb o n1 n2 n3 e=>b5 _ _ n1<|X _ _<|b3 _ _ n2 e;refine⟨ks,b5 _ _ sb<|X _ _<|b3 _ _ sn h6,Zb h7 (Fg (by rw[ZL];exact vR _ _)),λn st e=>?_⟩;obtain⟨t,p',kn,u1,u2,u3,u4,u5⟩:=h8 n st e;exact⟨t,p',kn,u1,Z _ _ u2,Z _ _ u3,u4.fr S T8,u5⟩
  refine⟨CG,_,_,_,r,TG.cl,TG.nu,MT _,sl 2,λt6 R8=>?_⟩;refine up_in R8 _ λH6 s6 g6=>?_;exists _,⟨_,kyD (m,O),t6,s6 _ _ G2,λp m=>(u p m).mono s6,Y,I g6<|s6 _ _<|Z _ _<|J _ _<|j _ _ hp,T9.symm⟩;exact q (U.length+1) _ H6 (.inr ⟨hc,Y,Y⟩) (fr.trans<|.of s6)<|T7.mono s6
end
end K4
namespace L2
open PySem
structure OM where
 t:Addr
 dx:Addr
 gr:Addr
 n:Nat
 F:Str
 pl:Addr
 kn:Addr
 bv:V
 wl:Addr
def Jf(A:OM):List (Str×V):=[("ground",.ref A.gr),("number",.int (A.n:Nat)),("f",.str A.F),("place",.ref A.pl),("known",.ref A.kn),("body",A.bv),("waiting",.ref A.wl)]
structure GM(H:Hp)(CO:Addr)(A:GA)(O:OM)(b:Bd):Prop where
 ins:H O.t=some (.ins CO O.dx (Jf O))
 bd:Has H O.bv b.dat
 ok:b.ok
 gr:O.gr=A.t
def GM.mono(g:GM H CO A O b)(s:Same H Z):GM Z CO A O b:=⟨s _ _ g.ins,g.bd.mono s,g.ok,g.gr⟩
def GG.ne(g:GG P w H CG A cs sts av)(h:H a=some o)(L:∀Z,o≠.lst Z)(G:∀Z,o≠.dK Z)(J:∀k,o≠ddO P w 1 hn1 A.nu k):a≠A.bs/\a≠A.nu/\a≠A.st:=by
 obtain⟨Z,R,_⟩:=g.bs;obtain⟨M,O,_⟩:=g.nu;obtain⟨T,N,_⟩:=g.st;exact⟨Ym h R<|L _,Ym h O<|J _,Ym h N<|G _⟩
def GM.fr(m:GM H CO A O b)(g:GG P w H CG A cs sts av)(f:FrG A H L):GM L CO A O b:=by
 obtain⟨G,J,Z⟩:=g.ne m.ins (λ_ z=>by cases z) (λ_ z=>by cases z) λ_=>X1.symm;exact⟨f _ _ G J Z m.ins,VD (g.tk f) _ (Bd.ti _) m.bd,m.ok,m.gr⟩
structure MX(P:Program)(w:World)(Hm H:Hp)(C CK CG:Addr)(A:GA)(ks:List (Str×Shp))(d:Str->Nat)(ds:List Dd)(cs:List Mk1)(sts:Nat->Option Sta)(av:Addr->Prop):Prop where
 sm:Same Hm H
 bi:BI Hm C CK A.bk ks d ds
 f1:Hm A.bs=none
 f2:Hm A.nu=none
 f3:Hm A.st=none
 gg:GG P w H CG A cs sts av
def MX.fr(m:MX P w L H C M CG A J d G cs sts av)(f:FrG A H Z)(g:GG P w Z CG A cs' sts' av):MX P w L Z C M CG A J d G cs' sts' av:=
 ⟨λb o e=>f b o (Ya e m.f1) (Ya e m.f2) (Ya e m.f3)<|m.sm _ _ e,m.bi,m.f1,m.f2,m.f3,g⟩
def MX.mono(m:MX P w G H C M CG A Z d J cs sts av)(s:Same H L):MX P w G L C M CG A Z d J cs sts av:=m.fr (.of s)<|m.gg.mono s
def Ny{Z:Addr->Prop}(O:∀a,Z a->∃o,H a=some o)(f:FrG A H J)(g:GG P w J CG A cs sts av'):∀a,Z a->∃o,J a=some o:=λa h=>by
 obtain⟨o,e⟩:=O a h;obtain⟨R,N,_⟩:=g.bs;obtain⟨G,M,_⟩:=g.nu;obtain⟨T,L,_⟩:=g.st
 by_cases z1:a=A.bs
 .exact ⟨_,by rw[z1];exact N⟩
 by_cases z2:a=A.nu
 .exact ⟨_,by rw[z2];exact M⟩
 by_cases z3:a=A.st
 .exact ⟨_,by rw[z3];exact L⟩
 exact⟨o,f a o z1 z2 z3 e⟩
abbrev Ss:=List Mk1×(Nat->Option Sta)
inductive Thr(R:Nat->Ss->Tg->Ss->Prop):Nat->Ss->List Tg->Ss->Prop
 |nil:Thr R 0 s [] s
 |snoc (h:Thr R i s ths s1) (e:R i s1 th s2):Thr R (i+1) s (ths++[th]) s2
def XO(ns:kZ)(ths:List Tg):Rho:=λx=>(ns.zip ths).lookup x
def KF(ds:List Dd)(f:Str)(ns:kZ):Prop:=∃x∈ds,x.1.1=f/\ns=x.1.2.1.map (·.1)
def MCp(ds:List Dd)(F:Str)(ρ:Rho)(R:Nat->Ss->Tg->Ss->Prop)(c:Bd)(pl:pe)(k:Nat)(s s':Ss):Prop:=match c with
 |.ask f as=>∃ths s2 ns,Thr R as.length s ths s2/\KF ds f ns/\s'=(s2.1,stP s2.2 k ⟨f,[],XO ns ths⟩)
 |_=>s'=(s.1,stP s.2 k ⟨F,pl,ρ⟩)
def TAp(ds:List Dd)(F:Str)(b:Bd)(num:Nat)(ρ:Rho):Nat->List Int->Ss->Tg->Ss->Prop
 |0,_,_,_,_=>False
 |n+1,pl,s,th,s'=>∃c,b.at pl=some c/\match c with
  |.tag t=>th=.tag t/\s'=s
  |.name x=>ρ x=some th/\s'=s
  |c=>∃k cs1,J9 s.1 (num,pl) k cs1/\th=.cell k/\MCp ds F ρ (λi=>TAp ds F b num ρ n<|pl++[(i:Int)]) c pl k (cs1,s.2) s'
def OkT(ds:List Dd)(ρ:Rho):Nat->Bd->Prop
 |0,_=>False
 |n+1,.name x=>∃th,ρ x=some th
 |n+1,.ask f as=>(∃x∈ds,x.1.1=f/\x.1.2.1.length=as.length/\as.length<=3/\(x.1.2.1.map (·.1)).Nodup)/\∀a∈as,OkT ds ρ n a
 |n+1,_=>True
theorem Ga:∀{Z:List Bd}{i:Nat}{a:Bd},Z[i]?=some a->Bd.sizes (Z.take<|i+1)=Bd.sizes (Z.take i)+a.size
 |[],i,a,h=>by simp at h
 |x::Z,0,a,h=>by cases h;simp[Bd.sizes]
 |x::Z,i+1,a,h=>by
  have J:Z[i]?=some a:=h;have:=Ga J;simp only[List.take_succ_cons,Bd.sizes]at this |-;omega
theorem Gb:∀(Z:List Bd)(i:Nat),Bd.sizes (Z.take i)<=Bd.sizes Z
 |[],i=>by simp[Bd.sizes]
 |x::Z,0=>by simp[Bd.sizes]
 |x::Z,i+1=>by
  have:=Gb Z i;simp only[List.take_succ_cons,Bd.sizes];omega
theorem N1:∀{ns:kZ}{G:px}{Z:List Tg}{H:Hp}{x:Str}{J:Tg},HasL H G (Z.map Tg.dat)->XO ns Z x=some J->∃v,VB (nmD ns G) (Sum.inr x)=some v/\Has H v J.dat
 |[],G,Z,H,x,J,h,e=>by unfold XO at e;simp at e
 |n::ns,G,[],H,x,J,h,e=>by unfold XO at e;simp at e
 |n::ns,[],_::_,H,x,J,h,e=>by unfold HasL at h;exact h.elim
 |n::ns,u::G,t::Z,H,x,J,h,e=>by
  unfold HasL at h;unfold XO at e;rw[jJ,vX]at e
  by_cases z:x=n
  .subst z
   rw[beq_self_eq_true]at e;cases e;exact⟨u,Vx Y,h.1⟩
  .have zb:(x==n)=false:=beq_eq_false_iff_ne.mpr z
   rw[zb]at e;obtain⟨v,M,L⟩:=N1 (ns:=ns) h.2 e;exact⟨v,(V3 λq=>z (Sum.inr.inj q).symm).trans M,L⟩
def GG.put(g:GG P w H CG A cs sts av)(hk:k<=cs.length)(e:H A.st=some (.dK J))(ht:H t=some (.tup [.str s.f,.ref p,.ref kn]))(hp:H p=some (.tup<|s.pl.map V.int))(R:KnR A H kn s.ρ (3+s.pl.length))(na:¬av kn)(b:SameB A.st H M)(x:M A.st=some (.dK<|putK J (Sum.inl (k:Int))<|.ref t)):GG P w M CG A cs (stP sts k s) av:=by
 obtain⟨j,Q,h2⟩:=g.bs;obtain⟨ks,X,h4,C⟩:=g.nu;obtain⟨E,U,S,I⟩:=g.st;rw[e]at U;cases U;have Z:TK H M:=λa ys h=>b _ _ (Ym h e (by intro z;cases z)) h;refine⟨b _ _ (Ym g.ins e (by intro z;cases z)) g.ins,⟨j,b _ _ (Ym Q e (by intro z;cases z)) Q,Vu Z _ (J8 cs) h2⟩,⟨ks,b _ _ (Ym X e Jr) X,h4.tk C Z,C⟩,g.nd,Z _ _ g.gv,_,x,?_,λn s' L=>?_⟩
 .cases en:sts k with
  |none=>
   rw[Nj en cs.length hk];exact Zb (Vd _ _ _)<|qp S
  |some s0=>
   rw[Lo (by rw[en];rfl)];obtain⟨B,D,G,N,_⟩:=I k s0 en;have:(J.any λO=>decide<|O.1=Sum.inl (k:Int))=true:=by rw[JW,N];rfl
   unfold putK;rw[Zp this,ZA];exact S
 .unfold stP at L
  have F:∀{a:Addr}{ρ:Rho}{m:Nat},KnR A H a ρ m->KnR A M a ρ m:=λR=>by
   obtain⟨n,O,i,l,o⟩:=R;exact⟨n,O,b _ _ n i,l,λx T e=>let⟨v,c,y⟩:=o x T e;⟨v,c,VD Z _ (Tg.ti T) y⟩⟩
  by_cases z:n=k
  .subst z
   rw[Zp rfl]at L;cases L;exact⟨t,p,kn,by rw[V8,Zp rfl],Z _ _ ht,Z _ _ hp,F R,na⟩
  .rw [Zq z]at L
   obtain⟨B,D,G,N,r,u,f,d⟩:=I n s' L;exact⟨B,D,G,by rw[V8,Zq (λq=>z (by have:=Sum.inl.inj q;omega))];exact N,Z _ _ r,Z _ _ u,F f,d⟩
end L2
namespace K4
open PySem L2
section
variable{C CK CG CO CW CD:Addr}
def NO(A:OM):(Jf A).lookup ("ground":Str)=some (V.ref A.gr):=rfl
def EW(A:OM):(Jf A).lookup ("number":Str)=some (V.int (A.n:Nat)):=rfl
def yf(A:OM):(Jf A).lookup ("f":Str)=some (V.str A.F):=rfl
def Kv(A:OM):(Jf A).lookup ("body":Str)=some A.bv:=rfl
def C5(A:OM):(Jf A).lookup ("place":Str)=some (V.ref A.pl):=rfl
def C6(A:OM):(Jf A).lookup ("known":Str)=some (V.ref A.kn):=rfl
def EV(A:OM):(Jf A).lookup ("waiting":Str)=some (V.ref A.wl):=rfl
def QR(A:OM):(Jf A).lookup ("thing_at":Str)=none:=rfl
def QS(A:OM):(Jf A).lookup ("make_cell":Str)=none:=rfl
def LO(A:GA):(Xw A).lookup ("number_at":Str)=none:=rfl
def MS(A:GA):(Xw A).lookup ("starts":Str)=some (V.ref A.st):=rfl
def LP(A:GA):(Xw A).lookup ("book":Str)=some (V.ref A.bk):=rfl
abbrev spk:kZ:=["self","place","known"]
abbrev M6:kZ:=["self","number","place","known"]
def SH:Yi ["self","number","place","known","body","things"] M6 (Ye XH):=Y4
def SE:Yi ["self","place","known","body","number"] spk (Ye Xr):=Y4
def PL:List.Nodup [("at":Str),"self","place","known"]:=by decide +kernel
inductive STA(P:Program)(w:World)(C CK CG CO:Addr)(n:Nat)(H:Hp)(Q:VK):List V->Prop
 |mk (Hm:Hp) (A:GA) (ks:List (Str×Shp)) (d:Str->Nat) (ds:List Dd) (cs:List Mk1) (sts:Nat->Option Sta) (av:Addr->Prop) (O:OM) (b c:Bd) (pl:List Int) (p kn:Addr) (ρ:Rho) (mx:MX P w Hm H C CK CG A ks d ds cs sts av) (gm:GM H CO A O b) (hp:H p=some (.tup (pl.map V.int))) (hc:b.at pl=some c) (ok:OkT ds ρ n c) (kr:KnR A H kn ρ (3+pl.length)) (na:¬av kn) (al:∀a,av a->∃o,H a=some o) (on:O.n<=cs.length) (lc:cs.length+c.size<=9000) (lw:pl.length+n<=500)
  (q:∀u th cs' sts' H',TAp ds O.F b O.n ρ n pl (cs,sts) th (cs',sts')->cs.length<=cs'.length->cs'.length<=cs.length+c.size->FrG A H H'->GG P w H' CG A cs' sts' av->Has H' u th.dat->Q u H'):STA P w C CK CG CO n H Q [.ref O.t,.ref p,.ref kn]
def E4(P:Program)(w:World)(C CK CG CO:Addr)(n:Nat):Sp:=λZ H Q _=>STA P w C CK CG CO n H Q Z
inductive SMC(P:Program)(w:World)(C CK CG CO:Addr)(n:Nat)(H:Hp)(Q:VK):List V->Prop
 |mk (Hm:Hp) (A:GA) (ks:List (Str×Shp)) (d:Str->Nat) (ds:List Dd) (cs:List Mk1) (sts:Nat->Option Sta) (av:Addr->Prop) (O:OM) (b c:Bd) (pl:List Int) (p kn:Addr) (ρ:Rho) (k:Nat) (mx:MX P w Hm H C CK CG A ks d ds cs sts av) (gm:GM H CO A O b) (hp:H p=some (.tup (pl.map V.int))) (hc:b.at pl=some c) (ok:OkT ds ρ (n+1) c) (kr:KnR A H kn ρ (3+pl.length)) (na:¬av kn) (al:∀a,av a->∃o,H a=some o) (on:O.n<=cs.length) (lc:cs.length+c.size<=9001) (lw:pl.length+n+1<=500) (hk:k<=cs.length)
  (q:∀cs' sts' H',MCp ds O.F ρ (λi=>TAp ds O.F b O.n ρ n (pl++[(i:Int)])) c pl k (cs,sts) (cs',sts')->cs.length<=cs'.length->cs'.length+1<=cs.length+c.size->FrG A H H'->GG P w H' CG A cs' sts' av->Q .non H'):SMC P w C CK CG CO n H Q [.ref O.t,.int (k:Nat),.ref p,.ref kn]
def OJ(P:Program)(w:World)(C CK CG CO:Addr)(n:Nat):Sp:=λZ H Q _=>SMC P w C CK CG CO n H Q Z
def Lu(c:Bd):(∃f Z,c=.ask f Z) \/ ∃wd r,c.dat=.tup (.str wd::r)/\wd≠"ask" /\∀f Z,c≠.ask f Z:=by
 cases c <;> first|exact .inl ⟨_,_,Y⟩|exact .inr ⟨_,_,by unfold Bd.dat;rfl,by decide +kernel,λ_ _ z=>by cases z⟩
def QN(B:Blt mg)(TG:GCl K CG)(TO:OCl K CO)(F:Fun K "make_cell" "Going.make_cell" XH f fd)(DP:Df P w K mg base L "part_at" ["body","place"] Jw)(DN:Df P w K mg base L "named" ["book","f","things"] (IM C CK))(m1:VN K CO "thing_at" g1)(G1:Yf P w K mg base CX0 L g1 d1 spk (E4 P w C CK CG CO n))(b1:Binds K d1 spk []):Yf P w K mg base CX0 (L+1) f fd M6 (OJ P w C CK CG CO n):=by
 refine F.oi SH λcdv A F5 s H g Q E hr h=>?_;obtain⟨Hm,A',ks,d,ds,cs,sts,av,O,b,c,pl,p,kn,ρ,k,mx,gm,hp,hc,ok,kr,T6,al,on,lc,lw,hk,q⟩:=h;have hu:=V7 hr;refine⟨_,YZ (Yw 4 SH.nd<|Vc DP hr<|pa2 (Yt (pv 0) rfl)<|pv 2)
  (YZ (Y5 (Yp UO (Ys (r:=Vy K) Yy (pv 4)<|Yc) Y0<|Yz _) (YZ (Vs hu (Yt (Yt (pv 0) rfl) rfl) (pv 1) (Yq<|pa3 (Yt (pv 0) rfl) (pv 2)<|pv 3) rfl)
  (Yb<|Od)) Yo)
  (YZ (MD (i0:=5) ["at"] [0,2,3] SH.nd rfl (Or.inl rfl) (UN rfl B.range (pa1<|VF Y8 rfl B.len Zu (pa1<|Ys (r:=Vy K) Yy (pv 4)<|Yc))) (Vv (i:=0)<|by decide) (λcl C fp s H=>Yj 0 PL rfl (Or.inl rfl) (Or.inr rfl)) (λcl C fp s H=>Y3 (pv 1) TO.cl m1 G1 hr b1 .nil Y1<|pa2 (VE (r:=λx y H Q=>Ux K x y H Q\/Uw K x y H Q) Ud (pv 2)<|Yq<|pa1<|pv 0)<|pv 3))
  (Yb<|Vs hu (Yt (Yt (pv 0) rfl) rfl) (pv 1) (Yq<|pa3 (Ys (r:=Vy K) Yy (pv 4)<|Yc) (Yq<|VR)<|Vc DN hr<|pa3 (Yt (Yt (pv 0) rfl) rfl) (Ys (r:=Vy K) Yy (pv 4)<|Yc)<|pv 5) rfl))),?_⟩
 dsimp only[Vh,Cx.nox,Cx.wish];show let T0:=_;let T1:=Yk _ T0;let T2:=_;let T3:=Yk _ T2;let T4:=Yk (VG _ T3 _) T1;Yk _ T4 _ _ _
 intros
 refine⟨CO,_,_,_,gm.ins,TO.cl,TO.bd,Kv _,_,p,b,c,pl,gm.bd,gm.ok,hp,hc,λu H1 s1 I=>?_⟩;have J:=mx.mono s1;have X:=gm.mono s1;have T8:=kr.mono s1;have D0:=s1 _ _ hp;have F3:∀a,av a->∃o,H1 a=some o:=λa h=>let⟨o,e⟩:=al a h;⟨o,s1 _ _ e⟩
 have c1:1<=c.size:=by rw[Bd.size_eq];omega
 rcases Lu c with⟨f',as,rfl⟩|⟨wd,r,ed,nw,na⟩
 .have hu2:=I
  unfold Bd.dat at I;obtain⟨ta,ys,rfl,S,hl⟩:=Yr I;obtain⟨x1,r1,rfl,e1,D1⟩:=Yd hl;obtain⟨x2,r2,rfl,e2,S2⟩:=Yd D1;obtain⟨x3,r3,rfl,e3,I9⟩:=Yd S2;obtain rfl:=Y9 I9;obtain rfl:=has_str e1;obtain rfl:=has_str e2;obtain⟨tb,xs,rfl,I7,I5⟩:=Yr e3;have lx:=I5.length;rw[Z9,ZA]at lx;unfold OkT at ok;obtain⟨⟨df,D2,ef,lf,l3,F7⟩,F6⟩:=ok;refine⟨_,_,Z2 S,at0,Y,_,Y,Y6 (by decide +kernel) ?_⟩;refine⟨_,_,Z2 S,at2,tb,_,Y,.inr<|Z2 I7,xs.length,rfl,by omega,by omega,?_⟩;have esz:(Bd.ask f' as).size=1+Bd.sizes as:=by unfold Bd.size;rfl
  rw[esz]at lc;refine Vj xs.length (JR<|by omega) (λi g H'=>∃M G Z,g.length=i/\Thr (λi=>TAp ds O.F b O.n ρ n<|pl++[(i:Int)]) i (cs,sts) M (G,Z)/\cs.length<=G.length/\G.length<=cs.length+Bd.sizes (as.take i)/\FrG A' H1 H'/\GG P w H' CG A' G Z av/\HasL H' g (M.map Tg.dat)) ⟨[],cs,sts,rfl,.nil,ZG _,vR _ _,.refl _ _,J.gg,Z6⟩ (λi g H' z=>by obtain⟨_,_,_,z,_⟩:=z;exact z) (λi g H' hi z=>hi) (λg H' z=>ZG _) ?_ ?_
  .rintro i g H2 y H3 R hi ⟨M,G,Z,z1,z2,z3,z4,z5,z6,z7⟩ ⟨rfl,rfl⟩ hR
   have F4:=J.gg.tk z5;have ia:i<as.length:=by omega
   have D3:as[i]?=some as[i]:=ZD ia;have sz:=Ga D3;have sl1:=Gb as<|i+1;refine⟨_,_,(X.fr J.gg z5).ins,QR _,sl 1,λt4 O1=>?_⟩;refine up_in O1 _ λH4 D g4=>?_;have I8:Has H4 (.ref p) (Jy pl):=JC<|D _ _<|F4 _ _ D0;refine XN I8 (XG g4) (by simp) (by simp;omega) λu5 H5 s5 h5=>?_;obtain⟨a5,rfl,ha5⟩:=Ju h5;have G3:=D.trans s5;have j:FrG A' H1 H5:=z5.trans<|.of G3;have R7:=z6.mono G3;have F9:=J.fr j R7;have gm5:=X.fr J.gg j;have I4:=T8.fr J.gg j;refine⟨Hm,A',ks,d,ds,G,Z,av,O,b,as[i],pl++[0+(i:Int)],a5,kn,ρ,F9,gm5,ha5,?_,F6 _<|List.getElem_mem ia,I4.le (by rw[ZL];omega),T6,Ny F3 j R7,by omega,by omega,by rw[ZL,vc];omega,λu6 th cs6 T5 H6 q1 q2 q3 q4 q5 q6=>?_⟩
   .refine Bd.at_snoc pl hc (by omega) ?_
    rw[show(0+(i:Int)).toNat=i by omega];exact D3
   .rw [Int.zero_add]at q1
    refine hR _ _ ⟨M++[th],cs6,T5,by rw[ZL,z1];rfl,z2.snoc q1,by omega,by omega,j.trans q4,q5,?_⟩;rw[ZK];exact Z7 (Vu (λb ys h=>R7.tk q4 _ _<|G3 _ _ h) _ (UW λd hd=>by obtain⟨t,_,rfl⟩:=ZW.mp hd;exact Tg.ti t) z7)<|Z5 q6
  rintro g H2 tl ⟨M,G,Z,z1,z2,z3,z4,z5,z6,z7⟩ I6;rw[lx]at z2;have sle:=Gb as xs.length;refine up_in I6 _ λH3 s3 g3=>?_;have m:FrG A' H1 H3:=z5.trans<|.of s3;have F2:=z6.mono s3;have I1:=J.fr m F2;have gm3:=X.fr J.gg m;have G2:=J.gg.tk m _ _ S;refine⟨_,_,Z2 G2,at1,sl 0,λt4 O1=>?_⟩;refine up_in O1 _ λH4 D g4=>?_;have F1:=gm3.mono D;have J2:=F2.mono D;exists CO,_,_,_,F1.ins,TO.cl,TO.gr,NO _;rw[gm.gr];exists CG,_,_,_,J2.ins,TG.cl,TG.bk,LP _,_,_,Z2<|D _ _ G2,at1;rw[<-ef];have hl7:=z7.length;rw[ZA]at hl7;have T7:=I1.mono D;refine⟨A'.bk,tl,g,ks,d,ds,df,T7.bi.mono T7.sm,D2,D _ _ g3,by omega,by omega,F7,λl H5 s5 R8 hl5=>⟨sl 3,λt6 M2=>?_⟩⟩;refine up_in M2 _ λH6 s6 g6=>?_;have T:=s5.trans s6;have N:=J2.mono T;have R1:=F1.mono T;exists CO,_,_,_,R1.ins,TO.cl,TO.gr,NO _;rw[gm.gr];obtain⟨I2,U,lst,_⟩:=N.st;refine⟨CG,_,_,_,N.ins,TG.cl,TG.st,MS _,_,UU.k (k:=Sum.inl (k:Int)) U<|JR (by have:=Er (sts:=Z) G.length;omega),?_⟩;refine fld_in A'.st _ λH7 b7 g7=>?_;obtain⟨kv4,T9,_⟩:=J2.st
  have I3:KnR A' H6 l (XO (df.1.2.1.map (·.1)) M) (3+([]:pe).length):=by
   refine⟨λz=>?_,_,s6 _ _ hl5,by unfold nmD;rw[ZA,List.length_zip,ZA,qC];omega,λx th e=>?_⟩
   .rw [z,T9]at R8;cases R8
   .obtain ⟨v,h1,h2⟩:=N1 (z7.mono<|(s3.trans D).trans T) e
    exact⟨v,h1,h2⟩
  have F8:¬av l:=λz=>by
   obtain⟨o,e⟩:=Ny F3 (m.trans<|.of D) J2 l z;rw[R8]at e;cases e
  have R6:=N.put (s:=⟨df.1.1,[],XO (df.1.2.1.map (·.1)) M⟩) (k:=k) (by omega) U g6 (T _ _ g4) I3 F8 b7 g7;refine q G _ H7 ?_ z3 (by omega) ?_ R6
  .show ∃M s2 ns,_
   exact⟨M,(G,Z),_,z2,⟨df,D2,ef,Y⟩,by rw[<-ef]⟩
  .exact λb o n1 n2 n3 e=>b7 _ _ n3<|(D.trans T) _ _<|m _ _ n1 n2 n3<|s1 _ _ e
 .rw [ed]at I
  obtain⟨ta,ys,rfl,S,hl⟩:=Yr I;obtain⟨x1,r1,rfl,e1,D1⟩:=Yd hl;obtain rfl:=has_str e1;refine⟨_,_,Z2 S,at0,Y,_,Y,VP (by simp;exact nw) ?_⟩;refine⟨CO,_,_,_,X.ins,TO.cl,TO.f,yf _,sl 3,λt6 M2=>?_⟩;refine up_in M2 _ λH6 s6 g6=>?_;have N:=J.gg.mono s6;have R1:=X.mono s6;exists CO,_,_,_,R1.ins,TO.cl,TO.gr,NO _;rw[gm.gr];obtain⟨I2,U,lst,_⟩:=N.st;refine⟨CG,_,_,_,N.ins,TG.cl,TG.st,MS _,_,UU.k (k:=Sum.inl (k:Int)) U<|JR (by have:=Er (sts:=sts) cs.length;omega),?_⟩;refine fld_in A'.st _ λH7 b7 g7=>?_;have R6:=N.put (s:=⟨O.F,pl,ρ⟩) (k:=k) hk U g6 (s6 _ _ D0) (T8.mono s6) T6 b7 g7;refine q cs _ H7 ?_ (ZG _) (by omega) ?_ R6
  .cases c <;> first|rfl|exact Zr Y (na _ _)
  .exact λb o n1 n2 n3 e=>b7 _ _ n3<|s6 _ _<|s1 _ _ e
def OC(c:Bd):(∃t,c=.tag t)\/(∃x,c=.name x) \/ ∃wd r,c.dat=.tup (.str wd::r)/\wd≠"tag" /\wd≠"name" /\(∀t,c≠.tag t)/\∀x,c≠.name x:=by
 cases c <;> first|exact .inl ⟨_,Y⟩|exact .inr (.inl ⟨_,Y⟩)|exact .inr<|.inr ⟨_,_,by unfold Bd.dat;rfl,by decide +kernel,by decide +kernel,λ_ z=>(by cases z),λ_ z=>by cases z⟩
def J9.le(h:J9 cs c n cs'):n<=cs'.length/\cs.length<=cs'.length/\cs'.length<=cs.length+1:=by
 rcases h with⟨k,Z,rfl,rfl⟩|⟨_,rfl,rfl⟩
 .have:=(ZF.mp Z).1
  omega
 .rw [ZL,vc]
  omega
def Ce(TG:GCl K CG)(TO:OCl K CO)(F:Fun K "thing_at" "Going.thing_at" Xr f fd)(DP:Df P w K mg base L "part_at" ["body","place"] Jw)(m1:VN K CG "number_at" g1)(G1:Yf P w K mg base CX0 L g1 d1 ["self","maker","place"] (E5 P w CG))(b1:Binds K d1 ["self","maker","place"] [])(m2:VN K CO "make_cell" i)(G2:Yf P w K mg base CX0 L i d2 M6 (OJ P w C CK CG CO n))(b2:Binds K d2 M6 []):Yf P w K mg base CX0 (L+1) f fd spk (E4 P w C CK CG CO<|n+1):=by
 refine F.oi SE λD0 A J2 s H vs Q E l h=>?_;obtain⟨Hm,A',ks,d,ds,cs,M,av,O,b,c,pl,p,kn,ρ,mx,z,hp,j,ok,kr,M2,al,on,lc,lw,q⟩:=h;have hu:=V7 l;refine⟨_,YZ (Yw 3 SE.nd<|Vc DP l<|pa2 (Yt (pv 0) rfl)<|pv 1)
  (YZ (Y5 (Yp Vl (Ys (r:=Vy K) Yy (pv 3)<|Yc) Y0<|Yz _) (Yb<|Yn<|pv 3) Yo)
  (YZ (Y5 (Yp Vl (Ys (r:=Vy K) Yy (pv 3)<|Yc) Y0<|Yz _) (Yb<|Yn<|Vt hu (pv 2) (Ys (r:=Vy K) Yy (pv 3)<|Yc) λ_ _=>rfl) Yo)
  (YZ (Yw 4 SE.nd<|Y3 (Yt (pv 0) rfl) TG.cl m1 G1 l b1 .nil Y1<|pa2 (Yt (pv 0) rfl)<|pv 1)
  (YZ (VW<|Y3 (pv 0) TO.cl m2 G2 l b2 .nil Y1<|pa3 (pv 4) (pv 1)<|pv 2)
  (Yb<|Yn<|Yq<|pa2 (Y0)<|pv 4))))),?_⟩
 dsimp only[Vh,Cx.nox,Cx.wish];show let T0:=_;let T1:=Yk _ T0;let T2:=Yk _ T1;let T3:=_;let T4:=Yk (VG _ T3 _) T2;let T5:=_;let T6:=Yk (VG _ T5 _) T4;Yk _ T6 _ _ _
 intros
 refine⟨CO,_,_,_,z.ins,TO.cl,TO.bd,Kv _,_,p,b,c,pl,z.bd,z.ok,hp,j,λu H1 N G=>?_⟩;have Z:=mx.mono N;have T:=z.mono N;have I:=kr.mono N;have U:=N _ _ hp;have R8:∀a,av a->∃o,H1 a=some o:=λa h=>let⟨o,e⟩:=al a h;⟨o,N _ _ e⟩
 have c1:1<=c.size:=by rw[Bd.size_eq];omega
 rcases OC c with⟨t,rfl⟩|⟨x,rfl⟩|⟨wd,r,ed,n1,n2,n3,n4⟩
 .have hu2:=G
  unfold Bd.dat at G;obtain⟨ta,ys,rfl,J,X⟩:=Yr G;obtain⟨x1,r1,rfl,m,R⟩:=Yd X;obtain rfl:=has_str m;refine⟨_,_,Z2 J,at0,Y,_,Y,VP (by decide +kernel) ?_⟩;exact q _ (.tag t) cs M H1 ⟨_,j,Y,Y⟩ (ZG _) (vR _ _) (.of N) Z.gg hu2
 .unfold Bd.dat at G
  obtain⟨ta,ys,rfl,J,X⟩:=Yr G;obtain⟨x1,r1,rfl,m,R⟩:=Yd X;obtain⟨x2,r2,rfl,e2,R6⟩:=Yd R;obtain rfl:=Y9 R6;obtain rfl:=has_str m;obtain rfl:=has_str e2;unfold OkT at ok;obtain⟨th,S⟩:=ok;refine⟨_,_,Z2 J,at0,Y,_,Y,Y6 (by decide +kernel) ?_⟩;refine⟨_,_,Z2 J,at0,Y,_,Y,VP (by decide +kernel) ?_⟩;obtain⟨_,T9,k1,_,k2⟩:=id I;obtain⟨v,v1,v2⟩:=k2 x th S;refine⟨_,_,Z2 J,at1,v,by rw[<-v1];exact Vi.k (k:=Sum.inr x) k1,?_⟩;exact q _ th cs M H1 ⟨_,j,S,Y⟩ (ZG _) (vR _ _) (.of N) Z.gg v2
 .rw [ed]at G
  obtain⟨ta,ys,rfl,J,X⟩:=Yr G;obtain⟨x1,r1,rfl,m,R⟩:=Yd X;obtain rfl:=has_str m;refine⟨_,_,Z2 J,at0,Y,_,Y,Y6 (Rc n1) ?_⟩;refine⟨_,_,Z2 J,at0,Y,_,Y,Y6 (Rc n2) ?_⟩;exists CO,_,_,_,T.ins,TO.cl,TO.gr,NO _;rw[z.gr];refine⟨_,_,Z.gg.ins,LO _,CO,_,_,_,T.ins,TO.cl,TO.nu,EW _,A',cs,M,av,O.n,pl,p,Z.gg,U,on,by omega,λk g H2 na B i=>?_⟩;obtain⟨G3,T8,T7⟩:=J9.le na;have O1:=Z.fr B i;have y:=T.fr Z.gg B;refine⟨_,_,y.ins,QS _,Hm,A',ks,d,ds,g,M,av,O,b,c,pl,p,kn,ρ,k,O1,y,Z.gg.tk B _ _ U,j,ok,I.fr Z.gg B,M2,Ny R8 B i,by omega,by omega,by omega,G3,λR7 D H3 mc l1 l2 f3 g3=>⟨sl 2,λt4 R1=>?_⟩⟩;refine up_in R1 _ λH4 s4 g4=>?_;refine q _ (.cell k) R7 D H4 ⟨c,j,?_⟩ (by omega) (by omega) ((FrG.of N).trans<|B.trans<|f3.trans<|.of s4) (g3.mono s4) ?_
  .cases c <;> first|exact Zr Y (n3 _)|exact Zr Y (n4 _)|exact⟨k,g,na,Y,mc⟩
  .unfold Tg.dat
   exact Yx g4<|Z4 VA<|Z5 (by unfold Has;rfl)
theorem QE(B:Blt Z)(TG:GCl K CG)(TO:OCl K CO)(y:Fun K "thing_at" "Going.thing_at" Xr f J)(R:Fun K "make_cell" "Going.make_cell" XH f' fd')(G:Df P w K Z base L "part_at" ["body","place"] Jw)(T:Df P w K Z base L "named" ["book","f","things"] (IM C CK))(A:VN K CG "number_at" g)(j:Yf P w K Z base CX0 L g k ["self","maker","place"] (E5 P w CG))(X:Binds K k ["self","maker","place"] [])(M:VN K CO "thing_at" f)(N:Binds K J spk [])(F:VN K CO "make_cell" f')(U:Binds K fd' M6 []):∀n:Nat,Yf P w K Z base CX0 (L+2*n) f J spk (E4 P w C CK CG CO n)/\Yf P w K Z base CX0 (L+2*n+1) f' fd' M6 (OJ P w C CK CG CO n)
 |0=>by
  have S:Yf P w K Z base CX0 (L+2*0) f J spk (E4 P w C CK CG CO 0):=.none λu H Q E h=>by
   obtain⟨Hm,A',i,d,ds,cs,z,av,O,b,c,v,p,a,ρ,l,gm,x,hc,D,s,t,al,r,o,e,q⟩:=h;unfold OkT at D;exact D
  exact⟨S,QN B TG TO R G T M S N⟩
 |n+1=>by
  obtain⟨_,m⟩:=QE B TG TO y R G T A j X M N F U n;have I:Yf P w K Z base CX0 (L+2*(n+1)) f J spk (E4 P w C CK CG CO<|n+1):=Ce (L:=L+2*n+1) TG TO y (G.up<|by omega) A (j.mono<|by omega) X F m U;exact⟨I,QN B TG TO R (G.up<|by omega) (T.up<|by omega) M I N⟩
end
end K4
namespace L2
open PySem
def UB(ρ:Rho)(x:Str)(th:Tg):Rho:=λy=>if y=x then some th else ρ y
def Bd.cellB:Bd->Prop
 |.tag _=>False
 |.name _=>False
 |_=>True
def Fh{c:Bd}(h:c.cellB):∃wd r,c.dat=.tup (.str wd::r)/\wd≠"tag" /\wd≠"name":=by
 cases c <;> first|exact h.elim|exact⟨_,_,by unfold Bd.dat;rfl,by decide +kernel,by decide +kernel⟩
def Do{c:Bd}{x:Str}(h:c.cellB\/c=.name x):∃wd r,c.dat=.tup (.str wd::r)/\wd≠"tag" /\(wd≠"name" \/ (wd="name" /\r=[.str x])):=by
 rcases h with h|h
 .obtain ⟨wd,r,e,n1,n2⟩:=Fh h
  exact⟨wd,r,e,n1,.inl n2⟩
 .subst h
  exact⟨"name",[.str x],by unfold Bd.dat;rfl,by decide +kernel,.inr ⟨Y,Y⟩⟩
end L2
namespace K4
open PySem L2
section
variable{C CK CG CO CW CD:Addr}
theorem X9:∀Z:kZ,HasL H (Z.map V.str)<|(Z.map W.tag).map W.dat
 |[]=>Z6
 |g::Z=>Z4 (by unfold W.dat Has;rfl)<|X9 Z
inductive zd(CO:Addr)(H:Hp)(Q:VK):List V->Prop
 |mk (O:OM) (y:V) (n:Nat) (hy:Has H y (Tg.cell n).dat) (q:∀u H',Same H H'->Has H' u (.tup [.str "want",.int (n:Nat)])->Q u H'):zd CO H Q [.ref O.t,y]
def IO(CO:Addr):Sp:=λZ H Q _=>zd CO H Q Z
def S8(F:Fun K "from_thing" "Going.from_thing" Xd f D):Yf P w K u base CX0 (n+1) f D ["self","thing"] (IO CO):=by
 refine F.oi yN λU A Z s H g Q E v h=>?_;obtain⟨O,y,d,M,q⟩:=h;refine⟨_,YZ (Y5 (Yp Vl (Ys (r:=Vy K) Yy (pv 1)<|Yc) Y0<|Yz _) (Yb<|Yn<|Yq<|pa2 (Y0)<|Ys (r:=Vy K) Yy (pv 1)<|Yc) Yo)
  VT,?_⟩
 show let X:=_;Yk (VG _ X _) _ _ _ _
 intros
 unfold Tg.dat at M;obtain⟨t,j,rfl,N,T⟩:=Yr M;obtain⟨m,c,rfl,S,G⟩:=Yd T;obtain⟨z,k,rfl,I,J⟩:=Yd G;obtain rfl:=Y9 J;obtain rfl:=has_str S;refine⟨_,_,Z2 N,at0,Y,_,Y,VP (by decide +kernel) ⟨_,_,Z2 N,at1,sl 2,λp R=>?_⟩⟩;exact up_in R _ λl L B=>q _ _ L<|Yx B<|Z4 VA<|Z5<|I.mono L
def M7:Yi ["self","body","place","known","word","name","kind","own","rest","within","number"] ["self","body","place","known"] (Ye Gu):=Y4
inductive SWL(P:Program)(w:World)(C CK CG CO:Addr)(n:Nat)(H:Hp)(Q:VK):List V->Prop
 |mk (Hm:Hp) (A:GA) (ks:List (Str×Shp)) (d:Str->Nat) (ds:List Dd) (cs:List Mk1) (sts:Nat->Option Sta) (av:Addr->Prop) (O:OM) (b:Bd) (x k':Str) (e r:Bd) (pl:List Int) (y:V) (p kn:Addr) (ρ:Rho) (mx:MX P w Hm H C CK CG A ks d ds cs sts av) (gm:GM H CO A O b) (hp:H p=some (.tup (pl.map V.int))) (hc:b.at pl=some (.letb x k' e r)) (hy:Has H y (Bd.letb x k' e r).dat) (ce:e.cellB\/e=.name x) (ok:∀k,OkT ds (UB ρ x (.cell k)) (n+1) e) (kr:KnR A H kn ρ (3+pl.length)) (al:∀a,av a->∃o,H a=some o) (on:O.n<=cs.length) (lc:cs.length+e.size<=9000) (lw:pl.length+n+2<=500)
  (q:∀kn' k cs1 s2 H',J9 cs (O.n,pl++[0]) k cs1->MCp ds O.F (UB ρ x (.cell k)) (λi=>TAp ds O.F b O.n (UB ρ x (.cell k)) n (pl++[0]++[(i:Int)])) e (pl++[0]) k (cs1,sts) s2->cs.length<=s2.1.length->s2.1.length<=cs.length+e.size->FrG A H H'->GG P w H' CG A s2.1 s2.2 av->H kn'=none->KnR A H' kn' (UB ρ x (.cell k)) (3+(pl++[1]).length)->Q (.ref kn') H'):SWL P w C CK CG CO n H Q [.ref O.t,y,.ref p,.ref kn]
def Qy(P:Program)(w:World)(C CK CG CO:Addr)(n:Nat):Sp:=λZ H Q _=>SWL P w C CK CG CO n H Q Z
def Cc(B:Blt mg)(TG:GCl K CG)(TO:OCl K CO)(F:Fun K "with_let" "Going.with_let" Gu f fd)(m1:VN K CG "number_at" g1)(G1:Yf P w K mg base CX0 L g1 d1 ["self","maker","place"] (E5 P w CG))(b1:Binds K d1 ["self","maker","place"] [])(m2:VN K CO "make_cell" g2)(G2:Yf P w K mg base CX0 L g2 d2 M6 (OJ P w C CK CG CO n))(b2:Binds K d2 M6 []):Yf P w K mg base CX0 (L+1) f fd ["self","body","place","known"] (Qy P w C CK CG CO n):=by
 refine F.oi M7 λcdv A D3 s H vs Q E hr h=>?_;obtain⟨Hm,R,ks,d,ds,cs,T,av,O,b,x,k',e,r,c,y,p,kn,ρ,J,gm,hp,hc,hy,ce,ok,kr,al,on,lc,lw,q⟩:=h;have hu:=V7 hr;refine⟨_,YZ (Ji (pv 1)<|Vb (n:=5) rfl (Yl (Yj 4 M7.nd)<|Yl (Yj 5 M7.nd)<|Yl (Yj 6 M7.nd)<|Yl (Yj 7 M7.nd)<|Yl (Yj 8 M7.nd) VJ))
  (YZ (Yw 9 M7.nd<|Ve Dq rfl B.dict Uh (pa1<|pv 3))
  (YZ (Y5 (PW.pt<|UH (Yp Vl (Ys (r:=Vy K) Yy (pv 7)<|Yc) Y0<|Yz _)<|Jg<|PW.pt<|Br (Yp Vl (Ys (r:=Vy K) Yy (pv 7)<|Yc) Y0<|Yz _)<|MC<|Yp UO (Ys (r:=Vy K) Yy (pv 7)<|Yc) (pv 5)<|Yz _) VT Yo)
  (YZ (Yw 10 M7.nd<|Y3 (Yt (pv 0) rfl) TG.cl m1 G1 hr b1 .nil Y1<|pa2 (Yt (pv 0) rfl)<|VE (r:=λx y H Q=>Ux K x y H Q\/Uw K x y H Q) Ud (pv 2)<|Yq<|pa1<|Yc)
  (YZ (Vs hu (pv 9) (pv 5) (Yq<|pa2 (Y0)<|pv 10) rfl)
  (YZ (VW<|Y3 (pv 0) TO.cl m2 G2 hr b2 .nil Y1<|pa3 (pv 10) (VE (r:=λx y H Q=>Ux K x y H Q\/Uw K x y H Q) Ud (pv 2)<|Yq<|pa1<|Yc)<|pv 9)
  (Yb<|Yn<|pv 9)))))),?_⟩
 dsimp only[Vh,Cx.nox,Cx.wish];show let T0:=_;let T1:=Yk _ T0;let T2:=Yk _ T1;let T3:=Yk _ T2;let T4:=Yk (VG _ _ _) T3;let T5:=Yk _ T4;Yk _ T5 _ _ _
 intros
 unfold Bd.dat at hy;obtain⟨ta,ys,rfl,F6,hl⟩:=Yr hy;obtain⟨x1,r1,rfl,e1,R6⟩:=Yd hl;obtain⟨x2,r2,rfl,e2,R1⟩:=Yd R6;obtain⟨x3,r3,rfl,e3,O1⟩:=Yd R1;obtain⟨x4,r4,rfl,e4,M2⟩:=Yd O1;obtain⟨x5,r5,rfl,e5,G3⟩:=Yd M2;obtain rfl:=Y9 G3;obtain rfl:=has_str e1;obtain rfl:=has_str e2;obtain rfl:=has_str e3;clear hl R6 R1 O1 M2 G3;exists _,Z2 F6,Y;obtain⟨kst,F5,R7,lk,I2⟩:=id kr;refine⟨kn,F5,Y,R7,λl I=>?_⟩;refine up_in I _ λH1 S g1=>?_;obtain⟨wd,rr,ed,n1,n2⟩:=Do ce;have R8:=e4.mono S;rw[ed]at R8;obtain⟨te,I8,rfl,U,I1⟩:=Yr R8;obtain⟨z1,rz,rfl,t,F9⟩:=Yd I1;obtain rfl:=has_str t;refine⟨_,_,Z2 U,at0,Y,_,Y,Y6 (Rc n1) ?_⟩;rcases n2 with n2|nn
 case' inl=>
  refine⟨_,_,Z2 U,at0,Y,_,Y,Y6 (Rc n2)<|Y6 (by simp) ?_⟩
 case' inr=>
  have hz:=F9;rw[nn.2]at hz;obtain⟨z2,r2,I7,I6,_⟩:=Yd hz;have e2:=has_str I6;have N:=U;rw[I7,e2]at N;refine⟨_,_,Z2 N,at0,Y,_,Y,VP (by rw[nn.1];exact decide_eq_true Y) ⟨_,_,Z2 N,at1,Y,_,Y,Y6 (by simp) ?_⟩⟩
 all_goals
  have D0:=J.gg.avoid I S
  let D1:Addr->Prop:=λa=>av a\/a=l
  have F4:MX P w Hm H1 C CK CG R ks d ds cs T D1:=⟨J.sm.trans S,J.bi,J.f1,J.f2,J.f3,D0⟩;have X:=gm.mono S;exists CO,_,_,_,X.ins,TO.cl,TO.gr,NO _;rw[gm.gr];refine⟨_,_,D0.ins,LO _,CO,_,_,_,X.ins,TO.cl,TO.nu,EW _,sl 1,λt2 N=>?_⟩;refine up_in N _ λH2 s2 g2=>?_;refine XN (JC<|s2 _ _<|S _ _ hp) (XG g2) (by simp) (by simp;omega) λu3 H3 s3 h3=>?_;obtain⟨a3,rfl,I5⟩:=Ju h3;have G:=s2.trans s3;have D:=F4.mono G;refine⟨R,cs,T,D1,O.n,c++[0],a3,D.gg,I5,on,by omega,λk g H4 na f4 T9=>?_⟩;obtain⟨F2,S2,I9⟩:=J9.le na;have mx4:=D.fr f4 T9;have gm4:=(X.mono G).fr D.gg f4
  have M:l≠R.bs/\l≠R.nu/\l≠R.st:=by
   obtain⟨xs,h1,_⟩:=J.gg.bs;obtain⟨ks',h2,_⟩:=J.gg.nu;obtain⟨ks2,h3,_⟩:=J.gg.st;exact⟨(Ya h1 I).symm,(Ya h2 I).symm,(Ya h3 I).symm⟩
  have T8:=f4 _ _ M.1 M.2.1 M.2.2<|G _ _ g1;refine⟨sl 2,λt5 F8=>?_⟩;refine up_in F8 _ λH5 s5 g5=>?_;refine⟨_,UU.k (k:=Sum.inr x) (s5 _ _ T8)<|JR<|by omega,?_⟩;refine fld_in l _ λH6 b6 g6=>?_;have T7:=s5 _ _ T8;have D2:TK H5 H6:=λa ys h=>b6 _ _ (Ym h T7 (by intro z;cases z)) h;have knl:kn≠l:=Ya R7 I;have kr5:KnR R H5 kn ρ (3+c.length):=((kr.mono<|S.trans G).fr D.gg f4).mono s5;have j:GG P w H6 CG R g T av:=((T9.mono s5).wr T7 (.inr rfl) b6 M.2.2).less λa h=>.inl h;have u:FrG R H H6:=λb o n1 n2 n3 h=>b6 _ _ (Ya h I)<|s5 _ _<|f4 _ _ n1 n2 n3<|G _ _<|S _ _ h;have F3:=J.fr u j;have T6:=gm.fr J.gg u
  have J2:KnR R H6 l (UB ρ x<|.cell k) (3+c.length+1):=by
   refine⟨M.2.2,_,g6,Zb (Vd _ _ _)<|qp lk,λz th t=>?_⟩;unfold UB at t
   by_cases zx:z=x
   .rw [Zp zx]at t
    cases t;refine⟨.ref t5,by rw[V8,Zp (by rw[zx])],?_⟩;unfold Tg.dat;exact Yx (D2 _ _ g5)<|Z4 VA<|Z5 (by unfold Has;rfl)
   .rw [Zq zx]at t
    obtain⟨v,v1,v2⟩:=I2 z th t;exact⟨v,by rw[V8,Zq (λq=>zx<|Sum.inr.inj q)];exact v1,VD (J.gg.tk u) _ (Tg.ti th) v2⟩
  refine⟨_,_,T6.ins,QS _,sl 1,λt7 F7=>?_⟩;refine up_in F7 _ λH7 s7 g7=>?_;refine XN (JC<|s7 _ _<|J.gg.tk u _ _ hp) (XG g7) (by simp) (by simp;omega) λu8 H8 s8 h8=>?_;obtain⟨a8,rfl,I4⟩:=Ju h8;have Z:=s7.trans s8;have I3:b.at (c++[0])=some e:=Bd.at_snoc c hc (by decide) rfl
  have F1:¬av l:=λz=>by
   obtain⟨o,e⟩:=al l z;rw[I]at e;cases e
  refine⟨Hm,R,ks,d,ds,g,T,av,O,b,e,c++[0],a8,l,UB ρ x<|.cell k,k,F3.mono Z,T6.mono Z,I4,I3,ok k,(J2.mono Z).le (by rw[ZL,vc];omega),F1,Ny al (u.trans<|.of Z)<|j.mono Z,by omega,by omega,by rw[ZL,vc];omega,F2,λm i H9 mc l1 l2 f9 g9=>?_⟩;refine q l k g (m,i) H9 na mc (by show cs.length<=m.length;omega) (by show m.length<=_;omega) (u.trans<|(FrG.of Z).trans f9) g9 I<|((J2.mono Z).fr (j.mono Z) f9).le (by rw[ZL,vc];omega)
end
end K4
namespace L2
open PySem
abbrev av0:Addr->Prop:=λ_=>False
abbrev WEn:=Bd×List Int×Rho
def StB(A:GA)(av:Addr->Prop)(H:Hp)(u:V)(pl:pe)(ρ:Rho):Prop:=∃t p Z,u=.ref t/\H t=some (.tup [.str "body",.ref p,.ref Z])/\H p=some (.tup<|pl.map V.int)/\KnR A H Z ρ (3+pl.length)/\ ¬av Z
def WEm(A:GA)(av:Addr->Prop)(H:Hp)(z:V)(c:WEn):Prop:=∃t J p Z,z=.ref t/\H t=some (.tup [J,.ref p,.ref Z])/\Has H J c.1.dat/\H p=some (.tup<|c.2.1.map V.int)/\KnR A H Z c.2.2 (3+c.2.1.length)/\ ¬av Z
def OkB(ds:List Dd)(ρ:Rho)(n:Nat):Bd->Prop
 |.tag _=>True
 |.name x=>∃th,ρ x=some th
 |.ask f as=>OkT ds ρ (n+1)<|.ask f as
 |.letb x _ e _=>(e.cellB\/e=.name x)/\∀k,OkT ds (UB ρ x<|.cell k) (n+1) e
 |.choose _ _ _=>True
 |_=>False
def GG.lb(g:GG P w H CG A cs sts av)(J:H l=some (.lst i))(n:l≠A.bs)(b:SameB l H o):GG P w o CG A cs sts av:=by
 obtain⟨T,r,u⟩:=g.bs;obtain⟨q,R,f,O⟩:=g.nu;obtain⟨G,N,d,c⟩:=g.st;have Z:=V6 b J;refine⟨b _ _ (Ym g.ins J (by intro z;cases z)) g.ins,⟨T,b _ _ n.symm r,Vu Z _ (J8 cs) u⟩,⟨q,b _ _ (Ym R J JP) R,f.tk O Z,O⟩,g.nd,Z _ _ g.gv,G,b _ _ (Ym N J (by intro z;cases z)) N,d,λk j e=>?_⟩;obtain⟨t,p,m,Q,X,C,U,S⟩:=c k j e;obtain⟨E,y,L,B,D⟩:=U;exact⟨t,p,m,Q,Z _ _ X,Z _ _ C,⟨E,y,b _ _ (Ym L J (by intro z;cases z)) L,B,λx M e=>let⟨v,I,F⟩:=D x M e;⟨v,I,VD Z _ (Tg.ti M) F⟩⟩,S⟩
def KnR.lb(k:KnR A H a ρ m)(G:H l=some (.lst B))(b:SameB l H T):KnR A T a ρ m:=by
 obtain⟨n,Z,L,O,R⟩:=k;exact⟨n,Z,b _ _ (Ym L G (by intro z;cases z)) L,O,λx J e=>let⟨v,N,M⟩:=R x J e;⟨v,N,VD (V6 b G) _ (Tg.ti J) M⟩⟩
end L2
namespace K4
open PySem L2
section
variable{C CK CG CO CW CD:Addr}
def C3(A:OM):(Jf A).lookup ("with_let":Str)=none:=rfl
inductive zf(P:Program)(w:World)(C CK CG CO:Addr)(n:Nat)(H:Hp)(Q:VK):List V->Prop
 |mk (Hm:Hp) (A:GA) (ks:List (Str×Shp)) (d:Str->Nat) (ds:List Dd) (cs:List Mk1) (sts:Nat->Option Sta) (av:Addr->Prop) (O:OM) (b c:Bd) (pl:List Int) (p kn:Addr) (ρ:Rho) (zs:List V) (mx:MX P w Hm H C CK CG A ks d ds cs sts av) (gm:GM H CO A O b) (hz:H O.wl=some (.lst zs)) (wb:O.wl≠A.bs) (hp:H p=some (.tup (pl.map V.int))) (hc:b.at pl=some c) (ok:OkB ds ρ n c) (kr:KnR A H kn ρ (3+pl.length)) (nk:¬av kn) (al:∀a,av a->∃o,H a=some o) (on:O.n<=cs.length) (lc:cs.length+c.size<=9000) (lw:pl.length+n<=400) (lz:zs.length<=400)
  (q1:∀t,c=.tag t->∀u H',Same H H'->Has H' u (.tup [.str "head",tagD t])->Q u H') (q2:∀x th,c=.name x->ρ x=some th->∀u H',Same H H'->Has H' u (.tup [.str "thing",th.dat])->Q u H')
  (q3:∀f as,c=.ask f as->∀u th cs' sts' H',TAp ds O.F b O.n ρ (n+1) pl (cs,sts) th (cs',sts')->cs.length<=cs'.length->cs'.length<=cs.length+c.size->FrG A H H'->GG P w H' CG A cs' sts' av->Has H' u (.tup [.str "thing",th.dat])->Q u H')
  (q4:∀x k' e r,c=.letb x k' e r->∀u k cs1 s2 H',J9 cs (O.n,pl++[0]) k cs1->MCp ds O.F (UB ρ x (.cell k)) (λi=>TAp ds O.F b O.n (UB ρ x (.cell k)) n (pl++[0]++[(i:Int)])) e (pl++[0]) k (cs1,sts) s2->cs.length<=s2.1.length->s2.1.length<=cs.length+c.size->FrG A H H'->GG P w H' CG A s2.1 s2.2 av->StB A av H' u (pl++[1]) (UB ρ x (.cell k))->Q u H')
  (q5:∀e ts bs,c=.choose e ts bs->∀u z H',SameB O.wl H H'->H' O.wl=some (.lst (zs++[z]))->WEm A av H' z (c,pl,ρ)->StB A av H' u (pl++[0]) ρ->Q u H'):zf P w C CK CG CO n H Q [.ref O.t,.ref p,.ref kn]
def IQ(P:Program)(w:World)(C CK CG CO:Addr)(n:Nat):Sp:=λZ H Q _=>zf P w C CK CG CO n H Q Z
def AA(TO:OCl K CO)(F:Fun K "from_body" "Going.from_body" WX f fd)(DP:Df P w K mg base L "part_at" ["body","place"] Jw)(m1:VN K CO "thing_at" g1)(G1:Yf P w K mg base CX0 L g1 d1 spk (E4 P w C CK CG CO<|n+1))(b1:Binds K d1 spk [])(m2:VN K CO "with_let" I)(G2:Yf P w K mg base CX0 L I d2 ["self","body","place","known"] (Qy P w C CK CG CO n))(b2:Binds K d2 ["self","body","place","known"] []):Yf P w K mg base CX0 (L+1) f fd ["self","place","known"] (IQ P w C CK CG CO n):=by
 refine F.oi CJ λI2 A D0 s H vs Q E hr h=>?_;obtain⟨Hm,A',ks,d,ds,cs,G3,av,O,b,c,pl,p,kn,ρ,zs,mx,gm,hz,wb,hp,hc,g,kr,nk,al,on,lc,lw,lz,q1,q2,q3,q4,q5⟩:=h;have hu:=V7 hr;refine⟨_,YZ (Yw 3 CJ.nd<|Vc DP hr<|pa2 (Yt (pv 0) rfl)<|pv 1)
  (YZ (Y5 (Yp Vl (Ys (r:=Vy K) Yy (pv 3)<|Yc) Y0<|Yz _) (Yb<|Yn<|Yq<|pa2 (Y0)<|pv 3) Yo)
  (YZ (Y5 (Yp Vl (Ys (r:=Vy K) Yy (pv 3)<|Yc) Y0<|Yz _) (Yb<|Yn<|Yq<|pa2 (Y0)<|Vt hu (pv 2) (Ys (r:=Vy K) Yy (pv 3)<|Yc) λ_ _=>rfl) Yo)
  (YZ (Y5 (Yp Vl (Ys (r:=Vy K) Yy (pv 3)<|Yc) Y0<|Yz _) VT Yo)
  (YZ (Y5 (Yp Vl (Ys (r:=Vy K) Yy (pv 3)<|Yc) Y0<|Yz _) (Yb<|Yn<|Yq<|pa2 (Y0)<|Y3 (pv 0) TO.cl m1 G1 hr b1 .nil Y1<|pa2 (pv 1)<|pv 2) Yo)
  (YZ (Y5 (Yp Vl (Ys (r:=Vy K) Yy (pv 3)<|Yc) Y0<|Yz _) (Yb<|Yn<|Yq<|pa3 (Y0) (VE (r:=λx y H Q=>Ux K x y H Q\/Uw K x y H Q) Ud (pv 1)<|Yq<|pa1<|Yc)<|Y3 (pv 0) TO.cl m2 G2 hr b2 .nil Y1<|pa3 (pv 3) (pv 1)<|pv 2) Yo)
  (YZ (VW<|Js Zz Z0 Z1 Vn (Yt (pv 0) rfl)<|pa1<|Yq<|pa3 (pv 3) (pv 1)<|pv 2)
  (Yb<|Yn<|Yq<|pa3 (Y0) (VE (r:=λx y H Q=>Ux K x y H Q\/Uw K x y H Q) Ud (pv 1)<|Yq<|pa1<|Yc)<|pv 2))))))),?_⟩
 dsimp only[Vh,Cx.nox,Cx.wish];show let T0:=_;let T1:=Yk _ T0;let T2:=_;let T3:=Yk (VG _ T2 _) T1;let T4:=_;let T5:=Yk (VG _ T4 _) T3;let T6:=Yk (VG _ _ _) T5;let T7:=_;let T8:=Yk (VG _ T7 _) T6;let T9:=_;let F8:=Yk (VG _ T9 _) T8;Yk _ F8 _ _ _
 intros
 refine⟨CO,_,_,_,gm.ins,TO.cl,TO.bd,Kv _,_,p,b,c,pl,gm.bd,gm.ok,hp,hc,λu H1 T Z=>?_⟩;have l:=mx.mono T;have D:=gm.mono T;have S:=kr.mono T;have R8:∀a,av a->∃o,H1 a=some o:=λa h=>let⟨o,e⟩:=al a h;⟨o,T _ _ e⟩
 have X:=T _ _ hp;have U:=Z
 cases c with
 |pair=>exact g.elim
 |one=>exact g.elim
 |other=>exact g.elim
 |tag t=>
  unfold Bd.dat at Z;obtain⟨a,ys,rfl,J,j⟩:=Yr Z;obtain⟨x1,r1,rfl,q,B⟩:=Yd j;obtain rfl:=has_str q;refine⟨_,_,Z2 J,at0,Y,_,Y,VP (by decide +kernel) ⟨sl 2,λr R=>?_⟩⟩;refine up_in R _ λH2 N I=>q1 t Y _ _ (T.trans N) ?_;unfold Bd.dat at U;exact Yx I<|Z4 VA<|Z5<|U.mono N
 |name x=>
  unfold Bd.dat at Z;obtain⟨a,ys,rfl,J,j⟩:=Yr Z;obtain⟨x1,r1,rfl,q,B⟩:=Yd j;obtain⟨x2,r2,rfl,e2,F3⟩:=Yd B;obtain rfl:=Y9 F3;obtain rfl:=has_str q;obtain rfl:=has_str e2;obtain⟨th,R1⟩:=g;refine⟨_,_,Z2 J,at0,Y,_,Y,Y6 (by decide +kernel) ?_⟩;refine⟨_,_,Z2 J,at0,Y,_,Y,VP (by decide +kernel) ?_⟩;obtain⟨_,F9,k1,_,k2⟩:=id S;obtain⟨v,v1,v2⟩:=k2 x th R1;refine⟨_,_,Z2 J,at1,v,by rw[<-v1];exact Vi.k (k:=Sum.inr x) k1,⟨sl 2,λr R=>?_⟩⟩;refine up_in R _ λH2 N I=>q2 x th Y R1 _ _ (T.trans N) ?_;exact Yx I<|Z4 VA<|Z5<|v2.mono N
 |ask f' as=>
  unfold Bd.dat at Z;obtain⟨a,ys,rfl,J,j⟩:=Yr Z;obtain⟨x1,r1,rfl,q,B⟩:=Yd j;obtain rfl:=has_str q;refine⟨_,_,Z2 J,at0,Y,_,Y,Y6 (by decide +kernel) ?_⟩;refine⟨_,_,Z2 J,at0,Y,_,Y,Y6 (by decide +kernel) ?_⟩;refine⟨_,_,Z2 J,at0,Y,_,Y,Y6 (by decide +kernel) ?_⟩;refine⟨_,_,Z2 J,at0,Y,_,Y,VP (by decide +kernel) ?_⟩;refine⟨_,_,D.ins,QR _,Hm,A',ks,d,ds,cs,G3,av,O,b,_,pl,p,kn,ρ,l,D,X,hc,g,S,nk,R8,on,lc,by omega,λu2 th F6 J2 H2 ta l1 l2 f2 I hu=>⟨sl 2,λr R=>?_⟩⟩;refine up_in R _ λH3 s3 g3=>q3 f' as Y _ th F6 J2 H3 ta l1 l2 ((FrG.of T).trans<|f2.trans<|.of s3) (I.mono s3) ?_;exact Yx g3<|Z4 VA<|Z5<|hu.mono s3
 |letb x k' e r=>
  unfold Bd.dat at Z;obtain⟨a,ys,rfl,J,j⟩:=Yr Z;obtain⟨x1,r1,rfl,q,B⟩:=Yd j;obtain rfl:=has_str q;refine⟨_,_,Z2 J,at0,Y,_,Y,Y6 (by decide +kernel) ?_⟩;refine⟨_,_,Z2 J,at0,Y,_,Y,Y6 (by decide +kernel) ?_⟩;refine⟨_,_,Z2 J,at0,Y,_,Y,Y6 (by decide +kernel) ?_⟩;refine⟨_,_,Z2 J,at0,Y,_,Y,Y6 (by decide +kernel) ?_⟩;refine⟨_,_,Z2 J,at0,Y,_,Y,VP (by decide +kernel) ⟨sl 1,λt2 F2=>?_⟩⟩;refine up_in F2 _ λH2 N I=>?_;refine XN (JC<|N _ _ X) (XG I) (by simp) (by simp;omega) λu3 H3 s3 h3=>?_;obtain⟨a3,rfl,F5⟩:=Ju h3;have G:=N.trans s3;have R7:∀a,av a->∃o,H3 a=some o:=λa h=>let⟨o,e⟩:=R8 a h;⟨o,G _ _ e⟩
  have I1:(Bd.letb x k' e r).size=1+(e.size+r.size):=by conv=>lhs;unfold Bd.size
  refine⟨_,_,(D.mono G).ins,C3 _,Hm,A',ks,d,ds,cs,G3,av,O,b,x,k',e,r,pl,_,p,kn,ρ,l.mono G,D.mono G,G _ _ X,hc,U.mono G,g.1,g.2,S.mono G,R7,on,by omega,by omega,λD2 k F7 s4 H4 na mc l1 l2 f4 g4 fk D1=>⟨sl 3,λt5 F1=>?_⟩⟩;refine up_in F1 _ λH5 i g5=>q4 x k' e r Y _ k F7 s4 H5 na mc l1 (by omega) ((FrG.of<|T.trans G).trans<|f4.trans<|.of i) (g4.mono i) ⟨t5,a3,D2,rfl,g5,i _ _<|(l.mono G).gg.tk f4 _ _ F5,D1.mono i,λz=>let⟨o,e⟩:=R7 _ z;by rw[fk]at e;cases e⟩
 |choose e ts bs=>
  unfold Bd.dat at Z;obtain⟨a,ys,rfl,J,j⟩:=Yr Z;obtain⟨x1,r1,rfl,q,B⟩:=Yd j;obtain rfl:=has_str q;refine⟨_,_,Z2 J,at0,Y,_,Y,Y6 (by decide +kernel) ?_⟩;refine⟨_,_,Z2 J,at0,Y,_,Y,Y6 (by decide +kernel) ?_⟩;refine⟨_,_,Z2 J,at0,Y,_,Y,Y6 (by decide +kernel) ?_⟩;refine⟨_,_,Z2 J,at0,Y,_,Y,Y6 (by decide +kernel) ?_⟩;refine⟨_,_,Z2 J,at0,Y,_,Y,Y6 (by decide +kernel) ?_⟩;refine⟨CO,_,_,_,D.ins,TO.cl,TO.wt,EV _,.inl ⟨Y,_,Z3<|T _ _ hz⟩,sl 3,λr R=>?_⟩;refine up_in R _ λH2 N I=>⟨O.wl,_,_,Y,Y,N _ _<|T _ _ hz,JR<|by omega,?_⟩;have O1:=N _ _<|T _ _ hz;refine fld_in O.wl _ λH3 b3 g3=>⟨sl 1,λo ho=>?_⟩;have m:=V6 b3 O1;refine up_in ho _ λH4 s4 g4=>?_;have R6:=m _ _<|N _ _ X;refine XN (JC<|s4 _ _ R6) (XG g4) (by simp) (by simp;omega) λu5 H5 i h5=>⟨sl 3,λt6 D3=>?_⟩;refine up_in D3 _ λH6 s6 g6=>?_;have M:=(s4.trans i).trans s6;obtain⟨a5,rfl,F4⟩:=Ju h5;have M2:KnR A' H3 kn ρ (3+pl.length):=(S.mono N).lb O1 b3;refine q5 e ts bs Y _ (.ref r) H6 (((T.trans N).sb.trans b3).trans M.sb) (M _ _ g3) ⟨r,_,p,kn,Y,M _ _<|m _ _ I,(VD m _ (Bd.ti _)<|U.mono N).mono M,M _ _ R6,M2.mono M,nk⟩ ⟨t6,a5,kn,rfl,g6,s6 _ _ F4,(M2.mono M).le (by rw[ZL];omega),nk⟩
end
end K4
namespace L2
open PySem
def WEm.fr(h:WEm A av H z c)(g:GG P w H CG A cs sts av')(f:FrG A H T):WEm A av T z c:=by
 obtain⟨t,R,p,J,e,O,N,M,L,G⟩:=h;have Z:=g.tk f;exact⟨t,R,p,J,e,Z _ _ O,VD Z _ (Bd.ti _) N,Z _ _ M,L.fr g f,G⟩
def WEm.lb(h:WEm A av H z c)(J:H l=some (.lst D))(b:SameB l H B):WEm A av B z c:=by
 obtain⟨t,T,p,G,e,R,O,N,M,L⟩:=h;have Z:=V6 b J;exact⟨t,T,p,G,e,Z _ _ R,VD Z _ (Bd.ti _) O,Z _ _ N,M.lb J b,L⟩
def WLm(A:GA)(av:Addr->Prop)(H:Hp)(zs:px)(l:List WEn):Prop:=zs.length=l.length/\∀(k:Nat) z c,zs[k]?=some z->l[k]?=some c->WEm A av H z c
def WLm.fr(h:WLm A av H Z l)(g:GG P w H CG A cs sts av')(f:FrG A H L):WLm A av L Z l:=⟨h.1,λk z c G J=>(h.2 k z c G J).fr g f⟩
def WLm.lb(h:WLm A av H Z l)(J:H a=some (.lst N))(b:SameB a H M):WLm A av M Z l:=⟨h.1,λk z c L G=>(h.2 k z c L G).lb J b⟩
def WLm.snoc(h:WLm A av H L l)(e:WEm A av H z c):WLm A av H (L++[z]) (l++[c]):=by
 refine⟨by rw[ZL,ZL,h.1];rfl,λk y d Z J=>?_⟩;rcases jn k L.length with G|G
 .rw [vd G]at Z
  rw[vd (by rw[<-h.1];exact G)]at J;exact h.2 k y d Z J
 .rw [vb G]at Z
  rw[vb (by rw[<-h.1];exact G)]at J;rw[<-h.1]at J
  cases hz:k-L.length with
  |zero=>
   rw[hz]at Z J;cases Z;cases J;exact e
  |succ m=>rw[hz]at Z;simp at Z
def WLm.last(h:WLm A av H Z (l++[c])):∃J z,Z=J++[z]/\WLm A av H J l/\WEm A av H z c:=by
 have e:=h.1;rw[ZL,vc]at e;have G:Z≠[]:=λz=>by rw[z]at e;simp at e
 exists Z.dropLast,Z.getLast G,(jc G).symm,⟨by rw[qJ];omega,λk z d M L=>?_⟩
 .have kl:=(ZF.mp L).1
  rw[List.getElem?_dropLast,Zp (by omega)]at M;exact h.2 k z d M (by rw[vd kl];exact L)
 .refine h.2 l.length _ _ ?_ (by rw[vb (ZG _),vO];rfl)
  rw[List.getLast_eq_getElem];rw[show l.length=Z.length-1 by omega];exact ZD _
inductive Stp where
 |body (pl:List Int) (ρ:Rho)|thing (th:Tg)|head (t:Str)|want (k:Nat)
def Stp.on(A:GA)(av:Addr->Prop)(H:Hp)(u:V):Stp->Prop
 |.body pl ρ=>StB A av H u pl ρ
 |.thing th=>Has H u<|.tup [.str "thing",th.dat]
 |.head t=>Has H u<|.tup [.str "head",K4.tagD t]
 |.want k=>Has H u<|.tup [.str "want",.int (k:Nat)]
inductive Gos(ds:List Dd)(gs:List Str)(F:Str)(b:Bd)(num n:Nat):Nat->Stp->List WEn->Ss->Stp->List WEn->Ss->Prop
 |stopW:Gos ds gs F b num n 0 (.want k) l s (.want k) l s
 |stopH:Gos ds gs F b num n 0 (.head t) [] s (.head t) [] s
 |thC (g:Gos ds gs F b num n m (.want k) l s r l' s'):Gos ds gs F b num n (m+1) (.thing (.cell k)) l s r l' s'
 |tag (h:b.at pl=some (.tag t)) (lc:s.1.length+1<=9000) (lw:pl.length+n<=400) (ll:l.length<=400) (g:Gos ds gs F b num n m (.head t) l s r l' s'):Gos ds gs F b num n (m+1) (.body pl ρ) l s r l' s'
 |name (h:b.at pl=some (.name x)) (e:ρ x=some th) (lc:s.1.length+1<=9000) (lw:pl.length+n<=400) (ll:l.length<=400) (g:Gos ds gs F b num n m (.thing th) l s r l' s'):Gos ds gs F b num n (m+1) (.body pl ρ) l s r l' s'
 |ask (h:b.at pl=some (.ask f as)) (ok:OkT ds ρ (n+1) (.ask f as)) (lc:s.1.length+(Bd.ask f as).size<=9000) (lw:pl.length+n<=400) (ll:l.length<=400) (g:∀th s1,TAp ds F b num ρ (n+1) pl s th s1->Gos ds gs F b num n m (.thing th) l s1 r l' s'):Gos ds gs F b num n (m+1) (.body pl ρ) l s r l' s'
 |letb (h:b.at pl=some (.letb x k' e q)) (ce:e.cellB\/e=.name x) (ok:∀k,OkT ds (UB ρ x (.cell k)) (n+1) e) (lc:s.1.length+(Bd.letb x k' e q).size<=9000) (lw:pl.length+n<=400) (ll:l.length<=400)
   (g:∀k cs1 s2,J9 s.1 (num,pl++[0]) k cs1->MCp ds F (UB ρ x (.cell k)) (λi=>TAp ds F b num (UB ρ x (.cell k)) n (pl++[0]++[(i:Int)])) e (pl++[0]) k (cs1,s.2) s2->Gos ds gs F b num n m (.body (pl++[1]) (UB ρ x (.cell k))) l s2 r l' s'):Gos ds gs F b num n (m+1) (.body pl ρ) l s r l' s'
 |push (h:b.at pl=some (.choose e ts bs)) (lc:s.1.length+(Bd.choose e ts bs).size<=9000) (lw:pl.length+n<=400) (ll:l.length<=400) (g:Gos ds gs F b num n m (.body (pl++[0]) ρ) (l++[(.choose e ts bs,pl,ρ)]) s r l' s'):Gos ds gs F b num n (m+1) (.body pl ρ) l s r l' s'
 |cho {j:Nat}(nt:ts.Nodup) (lt:ts.length<=50) (lb:bs.length=ts.length) (ht:ts[j]?=some t) (lp:pl.length<=400) (g:Gos ds gs F b num n m (.body (pl++[1+(j:Int)]) ρ) l s r l' s'):Gos ds gs F b num n (m+1) (.head t) (l++[(.choose e ts bs,pl,ρ)]) s r l' s'
def FrW(A:GA)(l:Addr)(H H':Hp):Prop:=∀b o,b≠A.bs->b≠A.nu->b≠A.st->b≠l->H b=some o->H' b=some o
def FrW.refl(A:GA)(l:Addr)(H:Hp):FrW A l H H:=λb o _ _ _ _ h=>h
def FrW.trans(a:FrW A l H N)(b:FrW A l N M):FrW A l H M:=λc o L G J Z e=>b c o L G J Z<|a c o L G J Z e
def FrW.of(f:FrG A H L):FrW A l H L:=λb o G J Z _ e=>f b o G J Z e
def FrW.sb(f:SameB l H J):FrW A l H J:=λb o _ _ _ Z e=>f b o Z e
end L2
namespace K4
open PySem L2
section
variable{C CK CG CO CW CD:Addr}
inductive ze(CO:Addr)(H:Hp)(Q:VK):List V->Prop
 |mk (A:GA) (av:Addr->Prop) (O:OM) (b:Bd) (y:V) (t:Str) (e:Bd) (ts:List Str) (bs:List Bd) (j:Nat) (pl:List Int) (ρ:Rho) (ys:List V) (z:V) (g:GM H CO A O b) (hz:H O.wl=some (.lst (ys++[z]))) (we:WEm A av H z (.choose e ts bs,pl,ρ)) (hy:Has H y (tagD t)) (nt:ts.Nodup) (lt:ts.length<=50) (lb:bs.length=ts.length) (ht:ts[j]?=some t) (lp:pl.length<=400)
  (q:∀u H',SameB O.wl H H'->H' O.wl=some (.lst ys)->StB A av H' u (pl++[1+(j:Int)]) ρ->Q u H'):ze CO H Q [.ref O.t,y]
def IP(CO:Addr):Sp:=λZ H Q _=>ze CO H Q Z
def S9(me:mg "enumerate"=none)(TO:OCl K CO)(F:Fun K "from_head" "Going.from_head" WW f fd):Yf P w K mg base CX0 (n+4) f fd ["self","head"] (IP CO):=by
 refine F.oi BS λD1 A m s H vs Q E hr h=>?_;refine⟨_,YZ (Ji (Sl Zz PySem.F.slot_list_pop PySem.F.type_list_pop AG<|Yt (pv 0) rfl)<|Vb (n:=3) rfl (Yl (Yj 2 BS.nd)<|Yl (Yj 3 BS.nd)<|Yl (Yj 4 BS.nd) VJ))
  (YZ (Y5 (Yp Vl (Ys (r:=Vy K) Yy (pv 2)<|Yc) Y0<|Yz _) (Yb (V5 Zv rfl (W0 rfl me (pa1<|Ys (r:=Vy K) Yy (pv 2)<|Yc)) (Vb (n:=2) rfl (Yl (Yj 5 BS.nd)<|Yl (Vb (n:=2) rfl (Yl (Yj 6 BS.nd)<|Yl (Yj 7 BS.nd) VJ)) VJ))
   (Yb<|Y5 (Yp (Bz hr) (pv 1) (Yq<|pa2 (Y0)<|pv 6)<|Yz _) (Yb<|Yn<|Yq<|pa3 (Y0) (VE (r:=λx y H Q=>Ux K x y H Q\/Uw K x y H Q) Ud (pv 3)<|Yq<|pa1<|VE JT Yc<|pv 5)<|pv 4) Yo))) VT)
  VT),?_⟩
 dsimp only[Vh,Cx.nox,Cx.wish];show let T0:=_;let T1:=VG _ T0 _;let T2:=UX _ _ T1;let T3:=Yk (VG _ T2 _) _;Yk _ T3 _ _ _
 intros
 obtain⟨A',av,O,b,y,t,e,ts,bs,j,pl,ρ,ys,z,g,S,we,hy,nt,lt,lb,ht,lp,q⟩:=h;obtain⟨tz,bv,p,kn,rfl,J2,i,o,l,u⟩:=we;refine⟨CO,_,_,_,g.ins,TO.cl,TO.wt,EV _,.inl ⟨Y,_,Z3 S⟩,O.wl,_,_,Y,Y,S,by rw[ZL,vc,Nat.add_sub_cancel,vb<|ZG _,vO];rfl,?_⟩;rw[List.dropLast_concat];refine fld_in O.wl _ λH1 b1 g1=>?_;have D:=V6 b1 S;exists _,Z2<|D _ _ J2,rfl;have hb:=VD D _ (Bd.ti _) i;unfold Bd.dat at hb;obtain⟨a,D2,rfl,T,hl⟩:=Yr hb;obtain⟨x1,r1,rfl,e1,T4⟩:=Yd hl;obtain⟨x2,r2,rfl,e2,R8⟩:=Yd T4;obtain⟨x3,r3,rfl,e3,R7⟩:=Yd R8;obtain rfl:=Y9 R7;obtain rfl:=has_str e1;obtain⟨tb,xs,rfl,R,N⟩:=Yr e3;have lx:=N.length;rw[brs_len lb]at lx;have jl:=(ZF.mp ht).1;refine⟨_,_,Z2 T,at0,Y,_,Y,VP (by decide +kernel) ?_⟩;exists _,_,Z2 T,at2,tb,true,xs,Y,Z2 R;have G1:Has H1 y (tagD t):=VD D _ (by simp[tagD,Dat.ti,Dat.tis]) hy;have O1:Has H1 (.ref p) (Jy pl):=JC<|D _ _ o;have c:=l.lb S b1
 let I:pB:=λk U X=>Same H1 X/\k<=j/\∃z5 z6 z7,U=[some (.ref O.t),some y,some<|.ref a,some<|.ref p,some<|.ref kn,z5,z6,z7]
 refine NZ (tp:=true) (xs:=xs) I ⟨Z8 _,Zc _,_,_,_,Y⟩ (λk U X _ z=>Z2<|z.1 _ _ R) ?_ ?_
 .rintro k v U X r hv ⟨s1,kj,z5,z6,z7,rfl⟩ hr'
  refine up_in hr' _ λH2 s2 g2=>?_;have M:=s1.trans s2;obtain⟨d,T8,T7⟩:=N.get hv;obtain⟨Z,bk,G,rfl⟩:=Ls T8;have T6:=T7.mono M;obtain⟨aw,us,rfl,T9,T5⟩:=Yr T6;obtain⟨y1,r1,rfl,f1,R6⟩:=Yd T5;obtain⟨y2,r2,rfl,f2,R1⟩:=Yd R6;obtain rfl:=Y9 R1;obtain rfl:=has_str f1;refine⟨_,Z2 g2,Y,⟨_,Z2 T9,Y,sl 2,λtq G2=>?_⟩⟩;refine up_in G2 _ λH3 s3 g3=>?_;have J:=M.trans s3;have dd:(tagD t).dep<=n+2:=by simp[tagD,Dat.dep,Dat.deps]
  exists tagD t,tagD Z,G1.mono J,OA g3,dd,_,Y
  have B:(tagD t).pq (tagD Z)=decide (t=Z):=by
   simp only[tagD,Dat.pq,Dat.pqs,Bool.and_true,beq_self_eq_true,Bool.true_and];rw[jq];simp
  by_cases ej:k=j
  .subst ej
   rw[ht]at G;cases G;refine VP (by rw[B];simp) ?_;refine⟨sl 1,λto G3=>?_⟩;refine up_in G3 _ λH4 s4 g4=>?_;refine XN (O1.mono<|J.trans s4) (XG g4) (by simp) (by simp;omega) λu5 H5 s5 h5=>⟨sl 3,λt6 M2=>?_⟩;refine up_in M2 _ λH6 s6 g6=>?_;obtain⟨a5,rfl,D0⟩:=Ju h5;have L:=((J.trans s4).trans s5).trans s6;exact q _ _ (b1.trans L.sb) (L _ _ g1) ⟨t6,a5,kn,Y,g6,s6 _ _ D0,(c.mono L).le (by show 3+pl.length<=_;rw[ZL];omega),u⟩
  .have ne:¬t=Z:=λz=>by
    subst z;have kl:=(ZF.mp G).1;exact vV.mp nt k j kl jl (by omega)<|(ZF.mp G).2.trans (ZF.mp ht).2.symm
   refine Y6 (by rw[B];simp[ne]) ⟨J,by omega,_,_,_,Y⟩
 .rintro U X ⟨s1,kj,_⟩
  exact Zr kj<|by omega
end
end K4
namespace L2
open PySem
structure RG(P:Program)(w:World)(Hm H:Hp)(C CK CG CO:Addr)(A:GA)(ks:List (Str×Shp))(d:Str->Nat)(ds:List Dd)(av:Addr->Prop)(O:OM)(b:Bd)(l:List WEn)(s:Ss):Prop where
 mx:MX P w Hm H C CK CG A ks d ds s.1 s.2 av
 al:∀a,av a->∃o,H a=some o
 gm:GM H CO A O b
 wl:∃zs,H O.wl=some (.lst zs)/\WLm A av H zs l
 wb:O.wl≠A.bs
 fw:Hm O.wl=none
 on:O.n<=s.1.length
def RG.same(g:RG P w N H C T CG CO A J d M av O b l s)(e:Same H R):RG P w N R C T CG CO A J d M av O b l s:=by
 obtain⟨Z,L,G⟩:=g.wl;exact⟨g.mx.mono e,λa h=>let⟨o,q⟩:=g.al a h;⟨o,e _ _ q⟩,g.gm.mono e,⟨Z,e _ _ L,G.fr g.mx.gg<|.of e⟩,g.wb,g.fw,g.on⟩
def RG.fr(g:RG P w F H C I CG CO A G d E av O b l s)(f:FrG A H M)(L:GG P w M CG A Z.1 Z.2 av)(h:s.1.length<=Z.1.length):RG P w F M C I CG CO A G d E av O b l Z:=by
 obtain⟨N,J,T⟩:=g.wl
 have n:O.wl≠A.nu/\O.wl≠A.st:=by
  obtain⟨R,D,_⟩:=g.mx.gg.nu;obtain⟨G,B,_⟩:=g.mx.gg.st;exact⟨Ym J D JP.symm,Ym J B (by intro z;cases z)⟩
 exact⟨g.mx.fr f L,Ny g.al f L,g.gm.fr g.mx.gg f,⟨N,f _ _ g.wb n.1 n.2 J,T.fr g.mx.gg f⟩,g.wb,g.fw,Zb g.on h⟩
def RG.lb(g:RG P w T H C B CG CO A M d R av O b l s)(f:SameB O.wl H J)(h:J O.wl=some (.lst zs'))(G:WLm A av J zs' l'):RG P w T J C B CG CO A M d R av O b l' s:=by
 obtain⟨D,Z,E⟩:=g.wl;have L:=V6 f Z;refine⟨⟨λa o e=>f a o (Ya e g.fw)<|g.mx.sm _ _ e,g.mx.bi,g.mx.f1,g.mx.f2,g.mx.f3,g.mx.gg.lb Z g.wb f⟩,λa N=>?_,⟨f _ _ (Ym g.gm.ins Z (by intro z;cases z)) g.gm.ins,VD L _ (Bd.ti _) g.gm.bd,g.gm.ok,g.gm.gr⟩,⟨zs',h,G⟩,g.wb,g.fw,g.on⟩
 by_cases z:a=O.wl
 .exact ⟨_,by rw[z];exact h⟩
 .obtain ⟨o,q⟩:=g.al a N
  exact⟨o,f a o z q⟩
end L2
namespace K4
open PySem L2
section
variable{C CK CG CO CW CD:Addr}
def NP(A:OM):(Jf A).lookup ("from_body":Str)=none:=rfl
def C7(A:OM):(Jf A).lookup ("from_thing":Str)=none:=rfl
def C8(A:OM):(Jf A).lookup ("from_head":Str)=none:=rfl
def QT(A:OM):(Jf A).lookup ("go_on":Str)=none:=rfl
inductive zZ(P:Program)(w:World)(C CK CG CO:Addr)(n:Nat)(H:Hp)(Q:VK):List V->Prop
 |mk (Hm:Hp) (A:GA) (ks:List (Str×Shp)) (d:Str->Nat) (ds:List Dd) (av:Addr->Prop) (O:OM) (b:Bd) (l:List WEn) (s:Ss) (u:V) (m:Nat) (x r:Stp) (l':List WEn) (s':Ss) (rg:RG P w Hm H C CK CG CO A ks d ds av O b l s) (hx:x.on A av H u) (gs:Gos ds A.gs O.F b O.n n m x l s r l' s') (l3:A.gs.length<=3)
  (q:∀v H',FrW A O.wl H H'->RG P w Hm H' C CK CG CO A ks d ds av O b l' s'->r.on A av H' v->Q v H'):zZ P w C CK CG CO n H Q [.ref O.t,u]
def EB(P:Program)(w:World)(C CK CG CO:Addr)(n:Nat):Sp:=λZ H Q _=>zZ P w C CK CG CO n H Q Z
def S6(B:Blt mg)(TO:OCl K CO)(F:Fun K "go_on" "Going.go_on" Km f fd)(mB:VN K CO "from_body" fB)(GB:Yf P w K mg base CX0 L fB fBd ["self","place","known"] (IQ P w C CK CG CO n))(bB:Binds K fBd ["self","place","known"] [])(mT:VN K CO "from_thing" fT)(GT:Yf P w K mg base CX0 L fT fTd ["self","thing"] (IO CO))(bT:Binds K fTd ["self","thing"] [])(mH:VN K CO "from_head" fH)(GH:Yf P w K mg base CX0 L fH fHd ["self","head"] (IP CO))(bH:Binds K fHd ["self","head"] []):Yf P w K mg base CX0 (L+1) f fd ["self","state"] (EB P w C CK CG CO n):=by
 refine F.oi EG λD0 A R7 s H vs Q E hr h=>?_;obtain⟨Hm,g,ks,d,ds,av,O,b,l,s0,u,m,x,r,l',s',rg,hx,gs,l3,q⟩:=h;exists _,Yb<|Uy Zv (JS J4)<|Yb<|Y5 (Yp Vl (Ys (r:=Vy K) Yy (pv 1)<|Yc) Y0<|Yz _) (Yb<|Yw 1 EG.nd<|Y3 (pv 0) TO.cl mB GB hr bB .nil Y1<|pa2 (Ys (r:=Vy K) Yy (pv 1)<|Yc)<|Ys (r:=Vy K) Yy (pv 1)<|Yc)<|Yb<|Y5 (Yp Vl (Ys (r:=Vy K) Yy (pv 1)<|Yc) Y0<|Yz _) (Yb<|Yw 1 EG.nd<|Y3 (pv 0) TO.cl mT GT hr bT .nil Y1<|pa1<|Ys (r:=Vy K) Yy (pv 1)<|Yc)<|Yb<|Y5 (PW.pt<|Br (Yp Vl (Ys (r:=Vy K) Yy (pv 1)<|Yc) Y0<|Yz _)<|MC<|Yp Gs (VF Y8 rfl B.len Zu (pa1<|Yt (pv 0) rfl)) Yc<|Yz _) (Yb<|Yw 1 EG.nd<|Y3 (pv 0) TO.cl mH GH hr bH .nil Y1<|pa1<|Ys (r:=Vy K) Yy (pv 1)<|Yc)<|Yb<|Yn<|pv 1;dsimp only[Vh,Cx.nox,Cx.wish];show let T0:=_;let T1:=_;let T2:=_;let T3:=_;let T4:=VG _ T2 T3;let T5:=VG _ T1 T4;let T6:=VG _ T0 T5;WB _ T6 _ _ _
 intros
 let W:pB:=λm U H'=>∃x l s u,U=[some (.ref O.t),some u]/\FrW g O.wl H H'/\RG P w Hm H' C CK CG CO g ks d ds av O b l s/\x.on g av H' u/\Gos ds g.gs O.F b O.n n m x l s r l' s'
 exists W,⟨m,x,l,s0,u,Y,.refl _ _ _,rg,hx,gs⟩;rintro m U H1 ⟨x,l,N,u,rfl,f1,Z,G,T7⟩;refine⟨true,Y,VP Y ⟨λU H'=>∃m',m'<m/\W m' U H',λU' H' z=>z,?_⟩⟩;obtain⟨zs,y,wl⟩:=Z.wl
 cases T7 with
 |stopW=>
  have R:Has H1 u (.tup [.str "want",.int (k:Nat)]):=G;obtain⟨t,ys,rfl,J,hl⟩:=Yr R;obtain⟨x1,r1,rfl,e1,X⟩:=Yd hl;obtain rfl:=has_str e1;refine⟨_,_,Z2 J,at0,Y,_,Y,Y6 (by decide +kernel) ?_⟩;refine⟨_,_,Z2 J,at0,Y,_,Y,Y6 (by decide +kernel) ?_⟩;refine⟨_,_,Z2 J,at0,Y,_,Y,Y6 (by decide +kernel)<|Y6 (by simp) ?_⟩;exact q _ _ f1 Z G
 |stopH=>
  have R:Has H1 u (.tup [.str "head",tagD t]):=G;obtain⟨t',ys,rfl,J,hl⟩:=Yr R;obtain⟨x1,r1,rfl,e1,X⟩:=Yd hl;obtain rfl:=has_str e1;have z0:zs=[]:=ja wl.1;subst z0;refine⟨_,_,Z2 J,at0,Y,_,Y,Y6 (by decide +kernel) ?_⟩;refine⟨_,_,Z2 J,at0,Y,_,Y,Y6 (by decide +kernel) ?_⟩;refine⟨_,_,Z2 J,at0,Y,_,Y,VP (by decide +kernel) ?_⟩;refine⟨CO,_,_,_,Z.gm.ins,TO.cl,TO.wt,EV _,O.wl,_,Y,.inl<|Z3 y,_,rfl,Y6 (by decide +kernel)<|q _ _ f1 Z G⟩
 |thC I=>
  have R:Has H1 u (.tup [.str "thing",(Tg.cell k).dat]):=G;obtain⟨t',ys,rfl,J,hl⟩:=Yr R;obtain⟨x1,r1,rfl,e1,X⟩:=Yd hl;obtain⟨x2,r2,rfl,M,G3⟩:=Yd X;obtain rfl:=Y9 G3;obtain rfl:=has_str e1;refine⟨_,_,Z2 J,at0,Y,_,Y,Y6 (by decide +kernel) ?_⟩;refine⟨_,_,Z2 J,at0,Y,_,Y,VP (by decide +kernel) ?_⟩;refine⟨_,_,Z.gm.ins,C7 _,_,_,Z2 J,at1,O,x2,k,M,λT H2 S D=>?_⟩;exact⟨_,vi _,.want k,l,N,T,Y,f1.trans<|.of<|.of S,Z.same S,D,I⟩
 |tag h o v ll I=>
  obtain⟨t',p,a,rfl,J,hp,i,c⟩:=G;refine⟨_,_,Z2 J,at0,Y,_,Y,VP (by decide +kernel) ?_⟩;have lz:=wl.1;refine⟨_,_,Z.gm.ins,NP _,_,_,Z2 J,at1,_,_,Z2 J,at2,Hm,g,ks,d,ds,N.1,N.2,av,O,b,_,pl,p,a,ρ,zs,Z.mx,Z.gm,y,Z.wb,hp,h,trivial,i,c,Z.al,Z.on,by simpa[Bd.size]using o,v,by omega,λt2 e T H2 S D=>?_,λx th e=>(nomatch e),λf as e=>(nomatch e),λx k e r M=>(nomatch M),λe ts bs M=>(nomatch M)⟩;cases e;exact⟨_,vi _,.head t,l,N,T,Y,f1.trans<|.of<|.of S,Z.same S,D,I⟩
 |name h e o v ll I=>
  obtain⟨t',p,a,rfl,J,hp,i,c⟩:=G;refine⟨_,_,Z2 J,at0,Y,_,Y,VP (by decide +kernel) ?_⟩;have lz:=wl.1;refine⟨_,_,Z.gm.ins,NP _,_,_,Z2 J,at1,_,_,Z2 J,at2,Hm,g,ks,d,ds,N.1,N.2,av,O,b,_,pl,p,a,ρ,zs,Z.mx,Z.gm,y,Z.wb,hp,h,⟨_,e⟩,i,c,Z.al,Z.on,by simpa[Bd.size]using o,v,by omega,λt2 e=>(nomatch e),λx2 G1 e1 M T H2 S D=>?_,λf as e=>(nomatch e),λx k e r M=>(nomatch M),λe ts bs M=>(nomatch M)⟩;cases e1;rw[e]at M;cases M;exact⟨_,vi _,.thing th,l,N,T,Y,f1.trans<|.of<|.of S,Z.same S,D,I⟩
 |ask h ok o v ll I=>
  obtain⟨t',p,a,rfl,J,hp,i,c⟩:=G;refine⟨_,_,Z2 J,at0,Y,_,Y,VP (by decide +kernel) ?_⟩;have lz:=wl.1;refine⟨_,_,Z.gm.ins,NP _,_,_,Z2 J,at1,_,_,Z2 J,at2,Hm,g,ks,d,ds,N.1,N.2,av,O,b,_,pl,p,a,ρ,zs,Z.mx,Z.gm,y,Z.wb,hp,h,ok,i,c,Z.al,Z.on,o,v,by omega,λt2 e=>(nomatch e),λx2 G1 e=>(nomatch e),λf2 R1 e T th O1 J2 H2 ta l1 l2 M2 g2 D=>?_,λx k e r M=>(nomatch M),λe ts bs M=>(nomatch M)⟩;exact⟨_,vi _,.thing th,l,(O1,J2),T,Y,f1.trans<|.of M2,Z.fr M2 g2 l1,D,I th (O1,J2) ta⟩
 |letb h ce ok o v ll I=>
  obtain⟨t',p,a,rfl,J,hp,i,c⟩:=G;refine⟨_,_,Z2 J,at0,Y,_,Y,VP (by decide +kernel) ?_⟩;have lz:=wl.1;refine⟨_,_,Z.gm.ins,NP _,_,_,Z2 J,at1,_,_,Z2 J,at2,Hm,g,ks,d,ds,N.1,N.2,av,O,b,_,pl,p,a,ρ,zs,Z.mx,Z.gm,y,Z.wb,hp,h,⟨ce,ok⟩,i,c,Z.al,Z.on,o,v,by omega,λt2 e=>(nomatch e),λx2 G1 e=>(nomatch e),λf2 R1 e=>(nomatch e),λx3 k3 e3 r3 e4 T k4 T8 S H2 na mc l1 l2 f2 g2 D=>?_,λe ts bs M=>(nomatch M)⟩;cases e4;exact⟨_,vi _,.body _ _,l,S,T,Y,f1.trans<|.of f2,Z.fr f2 g2 l1,D,I k4 T8 S na mc⟩
 |push h o v ll I=>
  obtain⟨t',p,a,rfl,J,hp,i,c⟩:=G;refine⟨_,_,Z2 J,at0,Y,_,Y,VP (by decide +kernel) ?_⟩;have lz:=wl.1;refine⟨_,_,Z.gm.ins,NP _,_,_,Z2 J,at1,_,_,Z2 J,at2,Hm,g,ks,d,ds,N.1,N.2,av,O,b,_,pl,p,a,ρ,zs,Z.mx,Z.gm,y,Z.wb,hp,h,trivial,i,c,Z.al,Z.on,o,v,by omega,λt2 e=>(nomatch e),λx2 G1 e=>(nomatch e),λf2 R1 e=>(nomatch e),λx k e r M=>(nomatch M),λe3 T9 D1 e4 T z H2 b2 G2 we D=>?_⟩;exact⟨_,vi _,.body _ _,l++[_],N,T,Y,f1.trans<|.sb b2,Z.lb b2 G2<|(wl.lb y b2).snoc we,D,I⟩
 |cho nt lt lb R8 lp I=>
  have R:Has H1 u (.tup [.str "head",tagD t]):=G;obtain⟨t',ys,rfl,J,hl⟩:=Yr R;obtain⟨x1,r1,rfl,e1,X⟩:=Yd hl;obtain⟨x2,r2,rfl,M,G3⟩:=Yd X;obtain rfl:=Y9 G3;obtain rfl:=has_str e1;obtain⟨ys,z,rfl,R6,we⟩:=wl.last;refine⟨_,_,Z2 J,at0,Y,_,Y,Y6 (by decide +kernel) ?_⟩;refine⟨_,_,Z2 J,at0,Y,_,Y,Y6 (by decide +kernel) ?_⟩;refine⟨_,_,Z2 J,at0,Y,_,Y,VP (by decide +kernel) ?_⟩;refine⟨CO,_,_,_,Z.gm.ins,TO.cl,TO.wt,EV _,O.wl,_,Y,.inl<|Z3 y,_,rfl,VP (by rw[ZL,vc];exact decide_eq_true<|by omega) ?_⟩;refine⟨_,_,Z.gm.ins,C8 _,_,_,Z2 J,at1,g,av,O,b,x2,t,_,ts,bs,j,pl,ρ,ys,z,Z.gm,y,we,M,nt,lt,lb,R8,lp,λT H2 b2 G2 D=>?_⟩;exact⟨_,vi _,.body _ _,_,N,T,Y,f1.trans<|.sb b2,Z.lb b2 G2<|R6.lb y b2,D,I⟩
end
section
variable{C CK CG CO CW CD:Addr}
def yF:Yi ["self","head"] ["self","head"] (Ye WV):=Y4
inductive Qd(P:Program)(w:World)(C CK CG CO:Addr)(n:Nat)(H:Hp)(Q:VK):List V->Prop
 |mk (Hm:Hp) (A:GA) (ks:List (Str×Shp)) (d:Str->Nat) (ds:List Dd) (av:Addr->Prop) (O:OM) (b:Bd) (pl:List Int) (ρ:Rho) (s:Ss) (m:Nat) (r:Stp) (l':List WEn) (s':Ss) (rg:RG P w Hm H C CK CG CO A ks d ds av O b [] s) (hp:H O.pl=some (.tup (pl.map V.int))) (kr:KnR A H O.kn ρ (3+pl.length)) (nk:¬av O.kn) (gs:Gos ds A.gs O.F b O.n n m (.body pl ρ) [] s r l' s') (l3:A.gs.length<=3)
  (q:∀v H',FrW A O.wl H H'->RG P w Hm H' C CK CG CO A ks d ds av O b l' s'->r.on A av H' v->Q v H'):Qd P w C CK CG CO n H Q [.ref O.t]
def Rp(P:Program)(w:World)(C CK CG CO:Addr)(n:Nat):Sp:=λZ H Q _=>Qd P w C CK CG CO n H Q Z
def PD(TO:OCl K CO)(F:Fun K "begin" "Going.begin" B4 f o)(m:VN K CO "go_on" g)(G:Yf P w K I base CX0 L g l ["self","state"] (EB P w C CK CG CO n))(x:Binds K l ["self","state"] []):Yf P w K I base CX0 (L+1) f o ["self"] (Rp P w C CK CG CO n):=by
 refine F.oi CM λa A N s H vs Q E p h=>?_;obtain⟨Hm,A',j,d,i,av,O,b,B,ρ,R,S,r,X,T,J,c,y,D,u,U,q⟩:=h;exists _,Yb<|Yn<|Y3 (pv 0) TO.cl m G p x .nil Y1<|pa1<|Yq<|pa3 (Y0) (Yt (pv 0) rfl)<|Yt (pv 0) rfl;dsimp only[Vh,Cx.nox,Cx.wish];refine⟨_,_,J.gm.ins,QT _,CO,_,_,_,J.gm.ins,TO.cl,TO.pl,C5 _,CO,_,_,_,J.gm.ins,TO.cl,TO.kn,C6 _,sl 3,λt k=>?_⟩;refine up_in k _ λH1 Z e=>?_;exact⟨Hm,A',j,d,i,av,O,b,[],R,_,S,.body B ρ,r,X,T,J.same Z,⟨t,_,_,Y,e,Z _ _ c,y.mono Z,D⟩,u,U,λv H' f M z=>q v H' ((FrW.of<|.of Z).trans f) M z⟩
inductive zU(P:Program)(w:World)(C CK CG CO:Addr)(n:Nat)(H:Hp)(Q:VK):List V->Prop
 |mk (Hm:Hp) (A:GA) (ks:List (Str×Shp)) (d:Str->Nat) (ds:List Dd) (av:Addr->Prop) (O:OM) (b:Bd) (l:List WEn) (s:Ss) (y:V) (t:Str) (m:Nat) (r:Stp) (l':List WEn) (s':Ss) (rg:RG P w Hm H C CK CG CO A ks d ds av O b l s) (hy:Has H y (tagD t)) (gs:Gos ds A.gs O.F b O.n n m (.head t) l s r l' s') (l3:A.gs.length<=3)
  (q:∀v H',FrW A O.wl H H'->RG P w Hm H' C CK CG CO A ks d ds av O b l' s'->r.on A av H' v->Q v H'):zU P w C CK CG CO n H Q [.ref O.t,y]
def IL(P:Program)(w:World)(C CK CG CO:Addr)(n:Nat):Sp:=λZ H Q _=>zU P w C CK CG CO n H Q Z
def Sy(TO:OCl K CO)(F:Fun K "take_head" "Going.take_head" WV f o)(m:VN K CO "go_on" g)(G:Yf P w K D base CX0 L g u ["self","state"] (EB P w C CK CG CO n))(x:Binds K u ["self","state"] []):Yf P w K D base CX0 (L+1) f o ["self","head"] (IL P w C CK CG CO n):=by
 refine F.oi yF λa A M s H vs Q E p h=>?_;obtain⟨Hm,A',X,d,i,av,O,b,l,T,y,R,I,r,U,B,N,j,c,S,q⟩:=h;exists _,Yb<|Yn<|Y3 (pv 0) TO.cl m G p x .nil Y1<|pa1<|Yq<|pa2 (Y0)<|pv 1;refine⟨_,_,N.gm.ins,QT _,sl 2,λt k=>?_⟩;refine up_in k _ λH1 Z e=>?_;exact⟨Hm,A',X,d,i,av,O,b,l,T,_,I,.head R,r,U,B,N.same Z,Yx e<|Z4 VA<|Z5<|j.mono Z,c,S,λv H' f J z=>q v H' ((FrW.of<|.of Z).trans f) J z⟩
inductive zV(P:Program)(w:World)(C CK CG CO:Addr)(H:Hp)(Q:VK):List V->Prop
 |mk (Hm Hx:Hp) (x dx:Addr) (A:GA) (ks:List (Str×Shp)) (d:Str->Nat) (ds:List Dd) (av:Addr->Prop) (s:Ss) (k:Nat) (sta:Sta) (df:Dd) (h0:Hx x=none) (sm:Same Hx H) (hx:H x=some (.ins CO dx [])) (mx:MX P w Hm Hx C CK CG A ks d ds s.1 s.2 av) (al:∀a,av a->∃o,Hx a=some o) (hs:s.2 k=some sta) (hd:df∈ds) (ef:df.1.1=sta.f) (ok:df.2.ok) (hk:k<=s.1.length)
  (q:∀(O:OM) H',O.t=x->O.n=k->O.F=sta.f->Same Hx H'->Hx O.wl=none->RG P w Hm H' C CK CG CO A ks d ds av O df.2 [] s->H' O.pl=some (.tup (sta.pl.map V.int))->KnR A H' O.kn sta.ρ (3+sta.pl.length)->¬av O.kn->Q .non H'):zV P w C CK CG CO H Q [.ref x,.ref A.t,.int (k:Nat)]
def D8(P:Program)(w:World)(C CK CG CO:Addr):Sp:=λZ H Q _=>zV P w C CK CG CO H Q Z
def Sz(TB:BCl K C)(TG:GCl K CG)(TO:OCl K CO)(F:Fun K "__init__" "Going.__init__" Kl f fd)(m:VN K C "body_of" g)(G:Yf P w K mg base CX0 L g gd ["self","F"] (Rn C CK))(bG:Binds K gd ["self","F"] []):Yf P w K mg base CX0 (L+1) f fd ["self","ground","number"] (D8 P w C CK CG CO):=by
 refine F.oi yI λG2 A u s H vs Q E hr h=>?_;obtain⟨Hm,S,x,O,i,ks,d,ds,av,s0,k,B,df,l,sm,hx,N,al,hs,hd,ef,ok,hk,q⟩:=h;have hu:=V7 hr;refine⟨_,YZ (VZ (pv 0) (pv 1) Y)
  (YZ (VZ (pv 0) (pv 2) rfl)
  (YZ (Ji (Vt hu (Yt (pv 1) rfl) (pv 2) λ_ _=>rfl)<|Vb (n:=3) rfl (Yl (Bu<|pv 0)<|Yl (Bu<|pv 0)<|Yl (Bu<|pv 0) VJ))
  (YZ (VZ (pv 0) (Y3 (Yt (pv 1) rfl) TB.cl m G hr bG .nil Y1<|pa1<|Yt (pv 0) rfl) rfl)
  (Yb<|VZ (pv 0) (Vg VR) rfl)))),?_⟩
 dsimp only[Vh,Cx.nox,Cx.wish];show let T0:=_;let T1:=Yk _ T0;let T2:=Yk _ T1;let T3:=Yk _ T2;Yk _ T3 _ _ _
 intros
 obtain⟨G1,r,lst,D⟩:=N.gg.st;obtain⟨tt,pp,kn,v1,v2,v3,v4,v5⟩:=D k B hs;refine⟨x,CO,O,_,Y,hx,TO.cl,TO.gr,by decide,?_⟩;refine fld_in x _ λH1 b1 x1=>⟨x,CO,O,_,Y,x1,TO.cl,TO.nu,(by show 1<1000;decide),?_⟩;refine fld_in x _ λH2 b2 x2=>?_;have M:Same S H2:=J5 l sm<|b1.trans b2;refine⟨CG,_,_,_,M _ _ N.gg.ins,TG.cl,TG.st,MS _,_,by rw[<-v1];exact Vi.k (k:=Sum.inl (k:Int))<|M _ _ r,?_⟩;refine⟨_,Z2<|M _ _ v2,rfl,x,CO,O,_,rfl,x2,TO.cl,TO.f,(by show 2<1000;decide),?_⟩;refine fld_in x _ λH3 b3 x3=>⟨x,CO,O,_,Y,x3,TO.cl,TO.pl,(by show 3<1000;decide),?_⟩;refine fld_in x _ λH4 b4 x4=>⟨x,CO,O,_,Y,x4,TO.cl,TO.kn,(by show 4<1000;decide),?_⟩;refine fld_in x _ λH5 b5 X=>?_;have J:Same S H5:=J5 l M<|(b3.trans b4).trans b5;have I:=N.bi.mono<|N.sm.trans J;obtain⟨A',kv,ea,b'⟩:=id I;exists CG,_,_,_,J _ _ N.gg.ins,TG.cl,TG.bk,LP _,_,_,by rw[<-ea];exact b'.ins,yw _;exists CO,_,_,_,X,TO.cl,TO.f,Y;rw[<-ef];refine⟨i.bk,ks,d,ds,df,I,hd,λv hv=>?_⟩;refine⟨x,CO,O,_,Y,X,TO.cl,TO.bd,(by show 5<1000;decide),?_⟩;refine fld_in x _ λH6 b6 U=>⟨sl 0,λT R=>?_⟩;have xw:T≠x:=(Ya U R).symm;have t:TK H5 H6:=λb ys h=>b6 _ _ (λz=>by rw[z,X]at h;cases h) h;refine up_in R _ λH7 p g7=>⟨x,CO,O,_,Y,p _ _ U,TO.cl,TO.wt,(by show 6<1000;decide),?_⟩;refine fld_in x _ λH8 b8 x8=>?_;have y:TK H6 H8:=λb ys h=>b8 _ _ (λz=>by rw[z,U]at h;cases h)<|p _ _ h;have Z:Same S H8:=J5 l J<|(b6.trans p.sb).trans b8
 have fw:S T=none:=by
  cases e:S T with
  |none=>rfl
  |some o=>have:=b6 _ _ xw<|J _ _ e;rw[R]at this;cases this
 have wb:T≠i.bs:=λz=>by
  obtain⟨xs,h1,_⟩:=N.gg.bs;rw[<-z,fw]at h1;cases h1
 have J2:Hm T=none:=N.sm.free fw
 let O':OM:=⟨x,O,i.t,k,B.f,pp,kn,v,T⟩
 refine q O' H8 Y Y Y Z fw ⟨N.mono Z,λa h=>let⟨o,e⟩:=al a h;⟨o,Z _ _ e⟩,⟨x8,?_,ok,Y⟩,⟨[],b8 _ _ xw g7,Y,λj z c h=>by simp at h⟩,wb,J2,hk⟩ (Z _ _ v3) (v4.mono Z) v5;exact VD (λb ys h=>y _ _<|t _ _ h) _ (Bd.ti _) hv
end
end K4
namespace L2
open PySem PySem.Spec PyProof.Rows
def yY(K:W.Frag):V->List V->Hp->VK->Prop:=λx J H Q=>∃p Z y z j,x=.ref p/\J=[y]/\SqL K H p Z/\UJ y=true/\Z.all UJ=true/\Z[j]?=some z/\eqV z y=true/\(∀i u,i<j->Z[i]?=some u->eqV u y=false)/\Q (.int (j:Nat)) H
def AH:MtR X "list.index" (yY X.K):=by
 intro M s U H x e v o Q I E F h;obtain⟨p,G,y,z,j,rfl,rfl,t,k,D,N,d,m,q⟩:=h;cases E;obtain⟨u,rfl,A⟩:=F.one;obtain⟨Z,r,C,hl⟩:=I.list t;obtain⟨⟨l,f,data,sl⟩,R,B,n,T⟩:=id C.isList;simp only at B T;subst B T;have lx:=r.length;have jl:=(ZF.mp N).1;have c:∀{i:Nat}{a:V},G[i]?=some a->UJ a=true:=λh=>qr.mp D _<|ZJ h
 have J:∀(i:Nat)(a:V)(L:i<Z.toArray.size),G[i]?=some a->eqU y Z.toArray[i]=eqV a y:=λi a L h=>by
  obtain⟨b,g,S⟩:=r.get h
  have:Z.toArray[i]=b:=by
   have:=(ZF.mp g).2;simpa using this
  rw[this];exact Dg S<|c h
 refine j7 PySem.F.slot_list_index ⟨_,R,Y⟩ PySem.F.entry_list_index (PySem.F.args_list_index_2 _ _)
  (SeqAt.list_indexAt p Z.toArray n f sl u (eqU y) j (by rw[ZO];omega) (by have:sizeLine=16777216:=rfl;omega) ?_ ?_) ⟨R,λw P=>UP A k r D w<|by simpa using P,⟨.int _,H,I.tok _,⟨_,rfl⟩,q⟩⟩
 .rw [J _ _ _ N];exact d
 .intro i L hlt
  have O:G[i]?=some (G[i]'(by rw[ZO]at L;omega)):=ZD _;rw[J _ _ L O];exact m i _ hlt O
def GG.avoids(g:GG P w H CG A cs sts av)(h:∀a,av' a->H a=none)(s:Same H F):GG P w F CG A cs sts av':=by
 have E:=g.mono s;obtain⟨Z,D,B,T⟩:=g.st;refine{E with st:=⟨Z,s _ _ D,B,λn G e=>?_⟩};obtain⟨t,p,R,O,N,M,J,I⟩:=T n G e;refine⟨t,p,R,O,s _ _ N,s _ _ M,J.mono s,λz=>?_⟩;obtain⟨_,S,L,_,_⟩:=J;rw[h _ z]at L;cases L
def SY(ns:kZ)(n:Nat):Rho:=XO ns<|(List.range n).map Tg.giv
def Xi(F:Str)(ρ:Rho):Nat->Option Sta:=stP (λ_=>none) 0 ⟨F,[],ρ⟩
def LM(n:Nat):((List.range n).map Tg.giv).map Tg.dat=(List.range n).map λi=>NY i []:=by rw[vm];rfl
end L2
namespace K4
open PySem L2
section
variable{C CK CG:Addr}
inductive za(P:Program)(w:World)(C CK CG:Addr)(H:Hp)(Q:VK):List V->Prop
 |mk (Hm:Hp) (x dx bk gv:Addr) (ks:List (Str×Shp)) (d:Str->Nat) (ds:List Dd) (df:Dd) (gs:List Str) (h0:Hm x=none) (sm:Same Hm H) (hx:H x=some (.ins CG dx [])) (bi:BI Hm C CK bk ks d ds) (hd:df∈ds) (hg:Hm gv=some (.tup (gs.map V.str))) (ln:gs.length=df.1.2.1.length) (l3:df.1.2.1.length<=3) (nd:(df.1.2.1.map (·.1)).Nodup)
  (q:∀(A:GA) H',A.t=x->A.bk=bk->A.gs=gs->MX P w Hm H' C CK CG A ks d ds [] (Xi df.1.1 (SY (df.1.2.1.map (·.1)) gs.length)) av0->Q .non H'):za P w C CK CG H Q [.ref x,.ref bk,.str df.1.1,.ref gv]
def EC(P:Program)(w:World)(C CK CG:Addr):Sp:=λZ H Q _=>za P w C CK CG H Q Z
def S7(B:Blt mg)(TG:GCl K CG)(F:Fun K "__init__" "Ground.__init__" LS f fd)(DN:Df P w K mg base n "named" ["book","f","things"] (IM C CK)):Yf P w K mg base CX0 (n+1) f fd ["self","book","F","worths"] (EC P w C CK CG):=by
 refine F.oi yM λF2 A R8 s H L Q E hr h=>?_;obtain⟨m,x,t,bk,gv,ks,d,ds,df,gs,h0,sm,hx,bi,hd,hg,ln,l3,nd,q⟩:=h;refine⟨_,YZ (VZ (pv 0) (pv 1) Y)
  (YZ (VZ (pv 0) (pv 3) rfl)
  (YZ (VZ (pv 0) (Vg<|pa1<|Yq VR) rfl)
  (YZ (VZ (pv 0) (Iz (n:=1) (hn:=hn1)) rfl)
  (Yb<|VZ (pv 0) (On (Iu Yc (Yq<|pa3 (pv 2) (Yq VR)<|Vc DN hr<|pa3 (pv 1) (pv 2)<|JN ["i"] [] (UN rfl B.range (pa1<|VF Y8 rfl B.len Zu (pa1<|pv 3))) (Vv (i:=0)<|by decide) (λcl C fp s H=>Yj 0 yd rfl (Or.inl rfl) (Or.inr rfl)) λcl C fp s H=>Yq<|pa3 (Y0) (pv 0)<|Yq VR) Oh) rfl rfl (by simp) (by decide)) rfl)))),?_⟩
 dsimp only[Vh,Cx.nox,Cx.wish];show let T0:=_;let T1:=Yk _ T0;let T2:=Yk _ T1;let T3:=Yk _ T2;Yk _ T3 _ _ _
 intros
 have nx:∀{b o},m b=some o->b≠x:=λh=>Ya h h0;refine⟨x,CG,t,_,Y,hx,TG.cl,TG.bk,by decide,?_⟩;refine fld_in x _ λH1 b1 x1=>?_;refine⟨x,CG,t,_,Y,x1,TG.cl,TG.gv,(by show 1<1000;decide),?_⟩;refine fld_in x _ λH2 b2 x2=>⟨sl 0,λe he=>?_⟩;refine up_in he _ λH3 s3 g3=>⟨sl 1,λl hl=>?_⟩;have xe:e≠x:=(Ya x2 he).symm;have x3:=s3 _ _ x2;have xl:l≠x:=(Ya x3 hl).symm;refine up_in hl _ λH4 s4 g4=>⟨x,CG,t,_,Y,s4 _ _ x3,TG.cl,TG.bs,(by show 2<1000;decide),?_⟩;refine fld_in x _ λH5 b5 x5=>λnu S=>?_;have xn:nu≠x:=(Ya x5 S).symm;refine up_in S _ λH6 s6 g6=>⟨x,CG,t,_,Y,s6 _ _ x5,TG.cl,TG.nu,(by show 3<1000;decide),?_⟩;refine fld_in x _ λX b7 x7=>λj O=>?_;have u:j≠x:=(Ya x7 O).symm;refine up_in O _ λH8 s8 g8=>⟨sl 0,λe2 T6=>?_⟩;have M2:SameB x H X:=(((((b1.trans b2).trans s3.sb).trans s4.sb).trans b5).trans s6.sb).trans b7;have D2:SameB x H H8:=M2.trans s8.sb;have J2:Same m X:=J5 h0 sm M2;have r:Same m H8:=J5 h0 sm D2;refine up_in T6 _ λH9 s9 g9=>?_;refine⟨gv,_,Y,.inr<|Z2<|s9 _ _<|r _ _ hg,gs.length,by rw[ZA],by omega,by omega,?_⟩;refine Vj gs.length (JR<|by omega) (λi L g=>Same H9 g/\L.length=i/\HasL g L ((List.range i).map λi=>NY i [])) ⟨Z8 _,rfl,Z6⟩ (λi L g z=>z.2.1) (λi L g hi z=>hi) (λL g z=>ZG _) ?_ ?_
 .rintro i L g y H'' R hi ⟨z1,z2,z3⟩ ⟨rfl,rfl⟩ hR
  refine⟨sl 0,λa ha=>?_⟩;refine up_in ha _ λHa sa ga=>⟨sl 3,λc hc=>?_⟩;refine up_in hc _ λHc sc gc=>hR _ _ ⟨(z1.trans sa).trans sc,by rw[ZL,z2];rfl,?_⟩;rw[vT,ZK];refine Z7 (z3.mono<|sa.trans sc)<|Z5<|Pd (k:=i) (by rw[gc];simp)<|PJ<|sc _ _ ga
 rintro L F6 tl ⟨z1,z2,z3⟩ T5;refine up_in T5 _ λF5 G1 D1=>?_;have Z:=z1.trans G1;refine⟨bk,tl,L,ks,d,ds,df,bi.mono<|r.trans<|s9.trans Z,hd,D1,by omega,l3,nd,λkn F4 I T T8=>⟨sl 3,λtt T4=>?_⟩⟩;refine up_in T4 _ λO1 N D0=>?_;have J:=((s9.trans Z).trans I).trans N;refine⟨J _ _ g8,[(Sum.inl 0,.ref tt)],Y,(by show 1<=15;decide),?_⟩;have v:=J _ _<|s8 _ _ x7;refine fld_in j _ λF3 G3 T9=>⟨x,CG,t,_,Y,G3 _ _ u.symm v,TG.cl,TG.st,(by show 4<1000;decide),?_⟩;refine fld_in x _ λG G2 R1=>?_;have U:∀{b o},O1 b=some o->b≠x->b≠j->G b=some o:=λh n1 n2=>G2 _ _ n1<|G3 _ _ n2 h;have tk:TK O1 G:=λb ys h=>U h (λz=>by rw[z,v]at h;cases h) (λz=>by rw[z,J _ _ g8]at h;cases h);have T7:∀{b o},X b=some o->b≠j:=λh=>Ya h O;have M:∀{b o},X b=some o->b≠x->G b=some o:=λh n=>U (J _ _<|s8 _ _ h) n<|T7 h;have e4:X e=some (.tup []):=b7 _ _ xe<|s6 _ _<|b5 _ _ xe<|s4 _ _ g3;have l7:X l=some (.lst [.ref e]):=b7 _ _ xl<|s6 _ _<|b5 _ _ xl g4;have n7:X nu=some (ddO P w 1 hn1 nu []):=b7 _ _ xn g6;have D:Same m G:=λb o h=>M (J2 _ _ h)<|nx h;have xk:kn≠x/\kn≠j:=⟨λz=>(by rw[z,Z _ _ (s9 _ _<|s8 _ _ x7)]at T;cases T),λz=>(by rw[z,Z _ _ (s9 _ _ g8)]at T;cases T)⟩;have D3:SameB x H H5:=(((b1.trans b2).trans s3.sb).trans s4.sb).trans b5;have R6:Same m H5:=J5 h0 sm D3;have F1:SameB x H H3:=(b1.trans b2).trans s3.sb;have R7:Same m H3:=J5 h0 sm F1
 let A':GA:=⟨x,t,bk,gv,l,nu,j,gs⟩
 refine q A' G Y Y Y ⟨D,bi,R7.free hl,R6.free S,J2.free O,?_⟩;refine⟨R1,⟨_,M l7 xl,Z5<|Yx (M e4 xe) Z6⟩,⟨[],M n7 xn,(λp h=>(by cases h)),rfl,λk p h=>(by simp at h)⟩,jM,D _ _ hg,_,G2 _ _ u T9,(by show(1:Nat)<=1;exact ZG 1),λn s hs=>?_⟩;unfold Xi stP at hs
 by_cases n0:n=0
 .subst n0
  rw[Zp rfl]at hs;cases hs;refine⟨tt,e2,kn,Y,tk _ _ D0,tk _ _<|(Z.trans<|I.trans N) _ _ g9,⟨xk.2,_,U (N _ _ T8) xk.1 xk.2,?_,λx th e=>?_⟩,id⟩
  .unfold nmD;rw[ZA,List.length_zip,ZA];show _<=3;omega
  .refine N1 ?_ e
   rw[LM];exact Vu tk _ (Pc _)<|z3.mono<|G1.trans<|I.trans N
 .rw [Zq n0]at hs;cases hs
end
end K4
namespace L2
open PySem PySem.Spec PyProof.Rows
structure Qf(K:W.Frag)(C:Addr)(m:Str)(f:Addr):Prop where
 gt:W.specialIn K (.ref C) "__getattribute__"=some (some (.builtin "type.__getattribute__"))
 rd:W.readsIn K C (.type "type")=true
 fc:W.findCls K (.ref C) (.type "type") m=some (.val (.ref f))
 kp:W.keepIn K (.ref f)=true
def KA{C f:Addr}(d:Gl X x)(g:X.mg x=some (.ref C))(c:Qf X.K C m f)(F:Yf X.prog X.w X.K X.mg X.base CX k f o S R)(z:Vr k X.A)(l:Binds X.K o S n)(w:Vals dvs n)(P:Uj CX X E)(b:PA X (e::J) t)(M:(x==("__debug__":Str))=false:=by decide)(G:starEach (e::J) X.env=(false,eval e X.env)::starEach J X.env:=by rfl)(L:(backTo pos<|starEach J X.env).any (·.1)=false:=by rfl)(j:eval (.Call (.Attribute (.Name x p) m apos) (e::J) [] pos) X.env=(do
   let ov <-eval (.Name x p) X.env
   standAt apos.atName
   let(f,first) <-holding [ov] (getMethod ov m pl)
   callWith pos f first (backTo pos<|starEach (e::J) X.env) (backToKw pos<|keywordEach [] X.env)):=by rfl):
  PE X (.Call (.Attribute (.Name x p) m apos) (e::J) [] pos) (My R dvs E t):=by
 intro Z s U H Q I h;refine W.methodCall_KW (pl:=pl) (thn ((Ja (v:=.ref C) d g Y M) Z s U H (λx O=>x=.ref C/\My R dvs E t U O Q) I ⟨Y,h⟩) λu B ⟨y,O,N,D,i,q⟩=>?_) j;subst i;obtain rfl:u=Value.ref C:=D;refine W.method_cls N.kIn c.gt<|W.cls_value N.kIn c.rd c.fc rfl ?_;have a:=N.tok<|B.toks+1;refine qP (first:=[]) (h₀:=X.base) I.ok.mod.kin c.kp (thn (b pos Z _ U O _ a q) λus s2 ⟨vs,H2,T,r,A⟩=>⟨T.kIn,?_⟩) G L;exact Gh F z l w P T r A
structure WA where
 t:Addr
 dx:Addr
 gr:Addr
 uw:Addr
 wr:Addr
 wn:Addr
 hs:Addr
def V2(bw:Bool)(A:WA)(mo bg:Int):List (Str×V):=("ground",.ref A.gr)::("most",.int mo)::("begun",.int bg)::("under_way",.ref A.uw)::if bw=true then[("wanters",.ref A.wr),("wants",.ref A.wn),("heads",.ref A.hs)]else[]
structure DCl(K:W.Frag)(C:Addr):Prop where
 cl:Cls K C
 gr:VH K C "ground"
 mo:VH K C "most"
 bg:VH K C "begun"
 uw:VH K C "under_way"
structure WCl(K:W.Frag)(C:Addr):Prop extends DCl K C where
 wr:VH K C "wanters"
 wn:VH K C "wants"
 hs:VH K C "heads"
structure WS(bw:Bool)(H:Hp)(C:Addr)(A:WA)(mo bg:Int)(us:List V)(r n h:List (Key×V)):Prop where
 ins:H A.t=some (.ins C A.dx (V2 bw A mo bg))
 uw:H A.uw=some (.lst us)
 wr:bw=true->H A.wr=some (.dK r)
 wn:bw=true->H A.wn=some (.dK n)
 hs:bw=true->H A.hs=some (.dK h)
def WS.mono(g:WS bw H C A mo bg Z r n h)(s:Same H J):WS bw J C A mo bg Z r n h:=⟨s _ _ g.ins,s _ _ g.uw,λz=>s _ _<|g.wr z,λz=>s _ _<|g.wn z,λz=>s _ _<|g.hs z⟩
structure WF(bw:Bool)(Hm:Hp)(A:WA):Prop where
 t:Hm A.t=none
 uw:Hm A.uw=none
 wr:bw=true->Hm A.wr=none
 wn:bw=true->Hm A.wn=none
 hs:bw=true->Hm A.hs=none
 d1:bw=true->A.wr≠A.wn
 d2:bw=true->A.wr≠A.hs
 d3:bw=true->A.wn≠A.hs
end L2
namespace K4
open PySem L2
section
variable{C CK CG CO CW CD:Addr}
def yO:Yi ["self","ground","most"] ["self","ground","most"] (Ye Li):=Y4
def yE:Yi ["self","ground","most"] ["self","ground","most"] (Ye Ft):=Y4
inductive SDI(CW:Addr)(H:Hp)(Q:VK):List V->Prop
 |mk (x dx gr:Addr) (mo:Int) (hx:H x=some (.ins CW dx []))
  (q:∀uw H',H uw=none->SameB x H H'->H' x=some (.ins CW dx [("ground",.ref gr),("most",.int mo),("begun",.int 0),("under_way",.ref uw)])->H' uw=some (.lst [])->Q .non H'):SDI CW H Q [.ref x,.ref gr,.int mo]
def Q8(CW:Addr):Sp:=λZ H Q _=>SDI CW H Q Z
def Ct(Z:DCl K CW)(F:Fun K "__init__" "Doing.__init__" Li f j):Yf P w K v base CX0 (n+1) f j ["self","ground","most"] (Q8 CW):=by
 refine F.oi yO λy A M s H d Q E r h=>?_;obtain⟨x,L,l,u,U,q⟩:=h;refine⟨_,YZ (VZ (pv 0) (pv 1) Y)
  (YZ (VZ (pv 0) (pv 2) rfl)
  (YZ (VZ (pv 0) (Yc) rfl)
  (Yb<|VZ (pv 0) (Vg VR) rfl))),?_⟩
 dsimp only[Vh,Cx.nox,Cx.wish];show let p:=_;let k:=Yk _ p;let g:=Yk _ k;Yk _ g _ _ _
 intros
 refine⟨x,CW,L,_,Y,U,Z.cl,Z.gr,by decide,?_⟩;refine fld_in x _ λi m S=>⟨x,CW,L,_,Y,S,Z.cl,Z.mo,(by show 1<1000;decide),?_⟩;refine fld_in x _ λo t I=>⟨x,CW,L,_,Y,I,Z.cl,Z.bg,(by show 2<1000;decide),?_⟩;refine fld_in x _ λe z O=>⟨sl 0,λR J=>?_⟩;have N:R≠x:=(Ya O J).symm;refine up_in J _ λb T X=>⟨x,CW,L,_,Y,T _ _ O,Z.cl,Z.uw,(by show 3<1000;decide),?_⟩;refine fld_in x _ λc B D=>?_;have G:=(m.trans t).trans z;exact q R c (G.free N J) ((G.trans T.sb).trans B) D<|B _ _ N X
inductive SWI(CW:Addr)(H:Hp)(Q:VK):List V->Prop
 |mk (Hm:Hp) (x dx gr:Addr) (mo:Int) (h0:Hm x=none) (sm:Same Hm H) (hx:H x=some (.ins CW dx []))
  (q:∀(A:WA) H',A.t=x->A.gr=gr->WF true Hm A->Same Hm H'->WS true H' CW A mo 0 [] [] [] []->Q .non H'):SWI CW H Q [.ref x,.ref gr,.int mo]
def Qz(CW:Addr):Sp:=λZ H Q _=>SWI CW H Q Z
def Cd(M:WCl K CW)(F:Fun K "__init__" "Walk.__init__" Ft f fd)(mD:o "Doing"=some (.ref CD))(cD:Qf K CD "__init__" g)(k:Yf P w K o base CX0 n g gd ["self","ground","most"] (Q8 CW))(bD:Binds K gd ["self","ground","most"] []):Yf P w K o base CX0 (n+1) f fd ["self","ground","most"] (Qz CW):=by
 refine F.oi yE λJ2 A z s H vs Q E hr h=>?_;obtain⟨Hm,x,T,gr,mo,t,b,i,q⟩:=h;refine⟨_,YZ (VW<|KA rfl mD cD k hr bD .nil Y1 (pa3 (pv 0) (pv 1)<|pv 2))
  (YZ (VZ (pv 0) (Vp) rfl)
  (YZ (VZ (pv 0) (Vp) rfl)
  (Yb<|VZ (pv 0) (Vp) rfl))),?_⟩
 dsimp only[Vh,Cx.nox,Cx.wish];show let T0:=_;let T1:=Yk _ T0;let T2:=Yk _ T1;Yk _ T2 _ _ _
 intros
 refine⟨x,T,gr,mo,i,λl H1 R b1 u g1=>?_⟩;have xu:l≠x:=(Ya i R).symm;intro v L;have X:v≠x:=(Ya u L).symm;refine up_in L _ λH2 e g2=>⟨x,CW,T,_,Y,e _ _ u,M.cl,M.wr,(by show 4<1000;decide),?_⟩;refine fld_in x _ λH3 b3 d=>?_;intro r G;have j:r≠x:=(Ya d G).symm;have g3:=b3 _ _ X g2;refine up_in G _ λH4 y g4=>⟨x,CW,T,_,Y,y _ _ d,M.cl,M.wn,(by show 5<1000;decide),?_⟩;refine fld_in x _ λH5 m c=>?_;intro a Z;have p:a≠x:=(Ya c Z).symm;refine up_in Z _ λH6 S g6=>⟨x,CW,T,_,Y,S _ _ c,M.cl,M.hs,(by show 6<1000;decide),?_⟩;refine fld_in x _ λH7 U x7=>?_;have I:=e.sb.trans b3;have D:=(I.trans y.sb).trans m;have B:=(D.trans S.sb).trans U;have J:Same Hm H1:=J5 t b b1;have N:=m _ _ X<|y _ _ g3;have O:=m _ _ j g4
 let A':WA:=⟨x,T,gr,l,v,r,a⟩
 refine q A' H7 Y Y ⟨t,?_,λ_=>?_,λ_=>?_,λ_=>?_,λ_=>?_,λ_=>?_,λ_=>?_⟩ (J5 t J B) ⟨x7,B _ _ xu g1,λ_=>U _ _ X<|S _ _ N,λ_=>U _ _ j<|S _ _ O,λ_=>U _ _ p g6⟩
 .exact b.free R
 .exact J.free L
 .exact J.free (I.free j G)
 .exact J.free (D.free p Z)
 .exact Ya g3 G
 .exact Ya N Z
 .exact Ya O Z
end
end K4
namespace L2
open PySem
def XQ{H:Hp}{o p:HO}(h:H a=some o)(g:H b=some p)(n:o≠p):a≠b:=λz=>n (by rw[z,g]at h;exact(ZT h).symm)
def WS.tb(g:WS bw H C A mo bg J r n h)(s:SameB A.t H Z)(x:Z A.t=some (.ins C A.dx<|V2 bw A mo bg')):WS bw Z C A mo bg' J r n h:=
 have k:∀{c kvs},H c=some (.dK kvs)->Z c=some (.dK kvs):=λe=>s _ _ (XQ e g.ins (by intro z;cases z)) e
 ⟨x,s _ _ (XQ g.uw g.ins (by intro z;cases z)) g.uw,λz=>k<|g.wr z,λz=>k<|g.wn z,λz=>k<|g.hs z⟩
def WS.ub(g:WS bw H C A mo bg J r n h)(s:SameB A.uw H Z)(x:Z A.uw=some (.lst us')):WS bw Z C A mo bg us' r n h:=
 have k:∀{c kvs},H c=some (.dK kvs)->Z c=some (.dK kvs):=λe=>s _ _ (XQ e g.uw (by intro z;cases z)) e
 ⟨s _ _ (XQ g.ins g.uw (by intro z;cases z)) g.ins,x,λz=>k<|g.wr z,λz=>k<|g.wn z,λz=>k<|g.hs z⟩
def WS.rb(g:WS true H C A mo bg J r n h)(f:WF true G A)(b:SameB A.wr H Z)(x:Z A.wr=some (.dK r')):WS true Z C A mo bg J r' n h:=
 ⟨b _ _ (XQ g.ins (g.wr rfl) (by intro z;cases z)) g.ins,b _ _ (XQ g.uw (g.wr rfl) (by intro z;cases z)) g.uw,λ_=>x,λz=>b _ _ (f.d1 z).symm<|g.wn z,λz=>b _ _ (f.d2 z).symm<|g.hs z⟩
def WS.nb(g:WS true H C A mo bg J r n h)(f:WF true G A)(b:SameB A.wn H Z)(x:Z A.wn=some (.dK n')):WS true Z C A mo bg J r n' h:=
 ⟨b _ _ (XQ g.ins (g.wn rfl) (by intro z;cases z)) g.ins,b _ _ (XQ g.uw (g.wn rfl) (by intro z;cases z)) g.uw,λz=>b _ _ (f.d1 z)<|g.wr z,λ_=>x,λz=>b _ _ (f.d3 z).symm<|g.hs z⟩
def WS.lb(g:WS bw H C A mo bg J r n h)(e:H l=some (.lst L))(G:l≠A.uw)(s:SameB l H Z):WS bw Z C A mo bg J r n h:=
 have k:∀{c kvs},H c=some (.dK kvs)->Z c=some (.dK kvs):=λq=>s _ _ (XQ q e (by intro z;cases z)) q
 ⟨s _ _ (XQ g.ins e (by intro z;cases z)) g.ins,s _ _ G.symm g.uw,λz=>k<|g.wr z,λz=>k<|g.wn z,λz=>k<|g.hs z⟩
def Ph:Jf O≠V2 bw B mo bg:=λz=>by
 have Z:some ("number":Str)=some ("most":Str):=congrArg (λl:List (Str×V)=>(l.map (·.1))[1]?) z;exact Zr Z<|by decide +kernel
def Pi:Xw G≠V2 bw B mo bg:=λz=>by
 have Z:some ("given":Str)=some ("most":Str):=congrArg (λl:List (Str×V)=>(l.map (·.1))[1]?) z;exact Zr Z<|by decide +kernel
structure UE where
 k:Nat
 F:Str
 b:Bd
 l:List WEn
structure WSt where
 u:List UE
 r:List (Nat×Option Nat)
 h:List (Nat×Str)
 bg:Nat
 wc:Nat
 s:Ss
def oV:Option Nat->V
 |none=>.non
 |some k=>.int (k:Nat)
def kK(k:Nat):Key:=Sum.inl (k:Int)
def rK(r:List (Nat×Option Nat)):pj:=r.map λp=>(kK p.1,oV p.2)
def avW(bw:Bool)(B:WA):Addr->Prop:=λa=>bw=true/\(a=B.wr\/a=B.wn\/a=B.hs)
def hdT(t:Str):Dat:=.tup [.str "tag",.str t]
def AU:(hdT t).ti=true:=by simp[hdT,Dat.ti,Dat.tis]
def HdV(H:Hp)(hK:pj)(h:List (Nat×Str)):Prop:=hK.map (·.1)=h.map (λp=>kK p.1)/\HasL H (hK.map (·.2)) (h.map λp=>hdT p.2)
def WLs(Hm H:Hp)(A:GA)(B:WA)(wc:Nat)(Os:List OM)(v:V):Prop:=∃l Z,v=.ref l/\H l=some (.lst Z)/\Z.all UJ=true/\Z.length<=wc/\l≠B.uw/\l≠A.bs/\Hm l=none/\∀O∈Os,l≠O.wl
structure WK(bw:Bool)(P:Program)(w:World)(Hm H:Hp)(C CK CG CO CW:Addr)(A:GA)(ks:List (Str×Shp))(d:Str->Nat)(ds:List Dd)(B:WA)(mo:Nat)(S:WSt)(Os:List OM):Prop where
 mx:MX P w Hm H C CK CG A ks d ds S.s.1 S.s.2 (avW bw B)
 gr:B.gr=A.t
 wf:WF bw Hm B
 n1:¬avW bw B A.st
 n2:A.bs≠B.uw
 l3:A.gs.length<=3
 ws:∃nK hK,WS bw H CW B (mo:Nat) (S.bg:Nat) (Os.map λO=>.ref O.t) (rK S.r) nK hK/\HdV H hK S.h/\nK.map (·.1)=S.r.map (λp=>kK p.1)/\∀p∈nK,WLs Hm H A B S.wc Os p.2
 ul:Os.length=S.u.length
 us:∀(i:Nat) O e,Os[i]?=some O->S.u[i]?=some e->RG P w Hm H C CK CG CO A ks d ds (avW bw B) O e.b e.l S.s/\O.n=e.k/\O.F=e.F
 nd:(Os.map (·.wl)).Nodup
 nu:∀O∈Os,O.wl≠B.uw
def WLs.mono(h:WLs G H A B wc Os v)(s:Same H L):WLs G L A B wc Os v:=let⟨l,Z,e,J,r⟩:=h;⟨l,Z,e,s _ _ J,r⟩
def PX(h:List (Nat×Str)):Dat.tis (h.map λp=>hdT p.2)=true:=UW λd Z=>by obtain⟨p,_,rfl⟩:=ZW.mp Z;exact AU
def HdV.tk(h:HdV H hK l)(t:TK H Z):HdV Z hK l:=⟨h.1,Vu t _ (PX l) h.2⟩
def Same.tk0(s:Same H Z):TK H Z:=λ_ _ e=>s _ _ e
def WK.mono(k:WK bw P w D H C F CG CO CW A J d T B mo S Os)(s:Same H E):WK bw P w D E C F CG CO CW A J d T B mo S Os:=by
 obtain⟨Z,G,R,N,M,L⟩:=k.ws;exact⟨k.mx.mono s,k.gr,k.wf,k.n1,k.n2,k.l3,⟨Z,G,R.mono s,N.tk s.tk0,M,λp m=>(L p m).mono s⟩,k.ul,λi O e a b=>let⟨r,q⟩:=k.us i O e a b;⟨r.same s,q⟩,k.nd,k.nu⟩
def WK.al(k:WK bw P w O H C R CG CO CW A L d N B mo S Os):∀a,avW bw B a->∃o,H a=some o:=by
 obtain⟨G,M,J,_⟩:=k.ws;rintro a ⟨Z,rfl|rfl|rfl⟩
 .exact ⟨_,J.wr Z⟩
 .exact ⟨_,J.wn Z⟩
 .exact ⟨_,J.hs Z⟩
structure Fo(Hm H H':Hp)(A:GA)(av:Addr->Prop)(l:Addr):Prop where
 b:SameB l H H'
 x:∃o,H' l=some o
 m:Hm l=none
 t:l≠A.t
 bs:l≠A.bs
 nu:l≠A.nu
 st:l≠A.st
 tk:TK H H'
 kn:∀kn ρ m,KnR A H kn ρ m->¬av kn->kn≠l
def KnR.fo(k:KnR A H kn ρ m)(f:Fo B H T A av l)(M:¬av kn):KnR A T kn ρ m:=by
 obtain⟨n,Z,R,N,O⟩:=id k;exact⟨n,Z,f.b _ _ (f.kn _ _ _ k M) R,N,λx J e=>let⟨v,L,G⟩:=O x J e;⟨v,L,VD f.tk _ (Tg.ti J) G⟩⟩
def GG.fo(g:GG P w H CG A cs sts av)(f:Fo j H Q A av l):GG P w Q CG A cs sts av:=by
 obtain⟨L,X,C⟩:=g.bs;obtain⟨B,U,S,G⟩:=g.nu;obtain⟨Z,I,F,E⟩:=g.st;refine⟨f.b _ _ f.t.symm g.ins,⟨L,f.b _ _ f.bs.symm X,Vu f.tk _ (J8 cs) C⟩,⟨B,f.b _ _ f.nu.symm U,S.tk G f.tk,G⟩,g.nd,f.tk _ _ g.gv,Z,f.b _ _ f.st.symm I,F,λk T e=>?_⟩;obtain⟨t,p,D,R,O,N,M,J⟩:=E k T e;exact⟨t,p,D,R,f.tk _ _ O,f.tk _ _ N,M.fo f J,J⟩
def MX.fo(m:MX P w Z H C M CG A J d G cs sts av)(f:Fo Z H L A av l):MX P w Z L C M CG A J d G cs sts av:=
 ⟨λa o e=>f.b a o (Ya e f.m)<|m.sm _ _ e,m.bi,m.f1,m.f2,m.f3,m.gg.fo f⟩
def WEm.fo(h:WEm A av H z c)(f:Fo T H R A av l):WEm A av R z c:=by
 obtain⟨t,O,p,J,e,N,M,L,G,Z⟩:=h;exact⟨t,O,p,J,e,f.tk _ _ N,VD f.tk _ (Bd.ti _) M,f.tk _ _ L,G.fo f Z,Z⟩
def RG.fo(g:RG P w J H C E CG CO A N d B av O b l s)(f:Fo J H D A av p)(M:p≠O.t)(L:p≠O.wl):RG P w J D C E CG CO A N d B av O b l s:=by
 obtain⟨G,R,Z⟩:=g.wl;refine⟨g.mx.fo f,λa T=>?_,⟨f.b _ _ M.symm g.gm.ins,VD f.tk _ (Bd.ti _) g.gm.bd,g.gm.ok,g.gm.gr⟩,⟨G,f.b _ _ L.symm R,Z.1,λk z c a b=>(Z.2 k z c a b).fo f⟩,g.wb,g.fw,g.on⟩
 by_cases z:a=p
 .exact z ▸ f.x
 .obtain ⟨o,q⟩:=g.al a T
  exact⟨o,f.b a o z q⟩
def LU(g:GG P w H CG A cs sts av)(L:H l=some (.lst N))(f:FrW A l H M):TK H M:=λa O h=>by
 obtain⟨G,J,Z⟩:=g.ne h (λ_ z=>by cases z) (λ_ z=>by cases z) λ_=>Ep.symm;exact f a _ G J Z (Ym h L (by intro z;cases z)) h
def RG.frw(g:RG P w U H C Q CG CO A M d S av O1 b1 l1 s)(I:RG P w U X C Q CG CO A M d S av O b l E)(N:H O.wl=some (.lst zs0))(ne:O1.wl≠O.wl)(f:FrW A O.wl H X)(h:s.1.length<=E.1.length):RG P w U X C Q CG CO A M d S av O1 b1 l1 E:=by
 obtain⟨j,R,F⟩:=g.wl;have Z:=LU g.mx.gg N f;have L:=g.mx.gg.ne g.gm.ins (λ_ z=>by cases z) (λ_ z=>by cases z) λ_=>X1.symm
 have n:O1.wl≠A.nu/\O1.wl≠A.st:=by
  obtain⟨J,T,_⟩:=g.mx.gg.nu;obtain⟨M,e3,_⟩:=g.mx.gg.st;exact⟨Ym R T JP.symm,Ym R e3 (by intro z;cases z)⟩
 refine⟨I.mx,I.al,⟨f _ _ L.1 L.2.1 L.2.2 (Ym g.gm.ins N (by intro z;cases z)) g.gm.ins,VD Z _ (Bd.ti _) g.gm.bd,g.gm.ok,g.gm.gr⟩,⟨j,f _ _ g.wb n.1 n.2 ne R,F.1,λk z c a b=>?_⟩,g.wb,g.fw,Zb g.on h⟩;obtain⟨t,bv,p,kn,e,u1,u2,i,⟨B,J,G,y,m⟩,o⟩:=F.2 k z c a b;obtain⟨xs,e1,_⟩:=g.mx.gg.bs;obtain⟨J2,T,_⟩:=g.mx.gg.nu;exact⟨t,bv,p,kn,e,Z _ _ u1,VD Z _ (Bd.ti _) u2,Z _ _ i,⟨B,J,f _ _ (Ym G e1 (by intro z;cases z)) (Ym G T Jr.symm) B (Ym G N (by intro z;cases z)) G,y,λx D q=>let⟨v,r,u⟩:=m x D q;⟨v,r,VD Z _ (Tg.ti D) u⟩⟩,o⟩
def Qi(h:∀p∈nK,WLs M H A B wc Os p.2)(k:List.map (·.1) nK=List.map (λp:Nat×Option Nat=>kK p.1) r)(m:x∈r.map (·.1)):∃v,VB nK (kK x)=some v/\WLs M H A B wc Os v:=by
 have:(nK.any λG=>decide<|G.1=kK x)=true:=by
  obtain⟨p,L,rfl⟩:=ZW.mp m;have:kK p.1∈List.map (·.1) nK:=by rw[k];exact ZW.mpr ⟨p,L,Y⟩
  obtain⟨y,Z,e⟩:=ZW.mp this;exact jV.mpr ⟨y,Z,decide_eq_true e⟩
 rw[JW]at this;obtain⟨v,J⟩:=qj.mp this;exists v,J;unfold VB at J;obtain⟨y,Z,rfl⟩:=Zj.mp J;exact h y<|vp Z
section
variable{P:Program}{w:World}{bw:Bool}{C CK CG CO CW:Addr}
def WK.get(k:WK bw P w M H C CK CG CO CW A G d L B mo S Os)(h:O∈Os):∃e:UE,RG P w M H C CK CG CO A G d L (avW bw B) O e.b e.l S.s:=by
 obtain⟨i,J⟩:=vj.mp h;have Z:=(ZF.mp J).1;rw[k.ul]at Z;exact⟨_,(k.us i O _ J<|ZD Z).1⟩
def WK.usf(k:WK bw P w Z H C CK CG CO CW A M d N B mo S Os)(f:Fo Z H R A (avW bw B) l)(J:∀O∈Os,l≠O.t/\l≠O.wl):∀(i:Nat) O e,Os[i]?=some O->S.u[i]?=some e->RG P w Z R C CK CG CO A M d N (avW bw B) O e.b e.l S.s/\O.n=e.k/\O.F=e.F:=λi O e a b=>by
 obtain⟨r,q⟩:=k.us i O e a b;obtain⟨L,G⟩:=J O<|ZJ a;exact⟨r.fo f L G,q⟩
def WLs.fo(h:WLs G H A B wc Os v)(b:SameB l H L)(n:∀Z,H l≠some (.lst Z)):WLs G L A B wc Os v:=by
 obtain⟨a,Z,e,J,r⟩:=h;exact⟨a,Z,e,b _ _ (λz=>n Z<|z ▸ J) J,r⟩
def WK.foI(k:WK bw P w N H C CK CG CO CW A R d D B mo S Os)(h:H B.t=some (.ins CW B.dx<|V2 bw B mo bg))(b:SameB B.t H Z)(x:Z B.t=some o):Fo N H Z A (avW bw B) B.t:=by
 obtain⟨L,G,J⟩:=k.mx.gg.ne h (λ_ z=>by cases z) (λ_ z=>by cases z) λ_=>X1.symm;refine⟨b,⟨_,x⟩,k.wf.t,λz=>?_,L,G,J,λa O e=>b _ _ (Ym e h (by intro z;cases z)) e,λT ρ m M _=>?_⟩
 .exact (Ym h k.mx.gg.ins (λz=>by injection z with _ _ z;exact Pi z.symm)) z
 .obtain ⟨_,kvs,e,_⟩:=M
  exact Ym e h (by intro z;cases z)
def WK.foD(k:WK bw P w Z H C CK CG CO CW A D d I B mo S Os)(a:avW bw B l)(h:H l=some (.dK O))(m:Z l=none)(b:SameB l H J)(x:J l=some o):Fo Z H J A (avW bw B) l:=by
 obtain⟨T,N,_⟩:=k.mx.gg.bs;obtain⟨L,M,_⟩:=k.mx.gg.nu;exact⟨b,⟨_,x⟩,m,Ym h k.mx.gg.ins (by intro z;cases z),Ym h N (by intro z;cases z),Ym h M Jr.symm,λz=>k.n1<|z ▸ a,λa R e=>b _ _ (Ym e h (by intro z;cases z)) e,λF ρ m E G z=>G<|z ▸ a⟩
def WK.foL(k:WK bw P w Z H C CK CG CO CW A F d U B mo S Os)(h:H l=some (.lst D))(m:Z l=none)(G:l≠A.bs)(b:SameB l H J)(x:J l=some o):Fo Z H J A (avW bw B) l:=by
 obtain⟨N,T,_⟩:=k.mx.gg.nu;obtain⟨M,R,_⟩:=k.mx.gg.st;refine⟨b,⟨_,x⟩,m,Ym h k.mx.gg.ins (by intro z;cases z),G,Ym h T JP.symm,Ym h R (by intro z;cases z),λa E e=>b _ _ (Ym e h (by intro z;cases z)) e,λI ρ m O _=>?_⟩;obtain⟨_,L,e,_⟩:=O;exact Ym e h (by intro z;cases z)
def WK.nD(k:WK bw P w M H C CK CG CO CW A G d L B mo S Os)(h:H l=some (.dK Z)):∀O∈Os,l≠O.t/\l≠O.wl:=λO m=>by
 obtain⟨e,r⟩:=k.get m;obtain⟨Z,J,_⟩:=r.wl;exact⟨Ym h r.gm.ins (by intro z;cases z),Ym h J (by intro z;cases z)⟩
def WK.bg(k:WK bw P w I H C CK CG CO CW A M d F B J S Os)(b:SameB B.t H G)(x:G B.t=some (.ins CW B.dx<|V2 bw B (J:Nat) (bg':Nat))):WK bw P w I G C CK CG CO CW A M d F B J {S with bg:=bg'} Os:=by
 obtain⟨L,N,Z,E,D,T⟩:=k.ws;have f:=k.foI Z.ins b x;refine⟨k.mx.fo f,k.gr,k.wf,k.n1,k.n2,k.l3,⟨L,N,Z.tb b x,E.tk f.tk,D,λp m=>(T p m).fo b (λX z=>by rw[Z.ins]at z;cases z)⟩,k.ul,k.usf f λO m=>?_,k.nd,k.nu⟩;obtain⟨e,r⟩:=k.get m;obtain⟨U,R,_⟩:=r.wl;exact⟨(Ym r.gm.ins Z.ins (λz=>by injection z with _ _ z;exact Ph z)).symm,Ym Z.ins R (by intro z;cases z)⟩
def WK.wr(k:WK true P w M H C CK CG CO CW A N d R B T S Os)(U:VB nK' (kK c)=none->True)(b:SameB B.wr H Z)(x:Z B.wr=some (.dK<|rK<|S.r++[(c,o)])):∃J G,TK H Z/\MX P w M Z C CK CG A N d R S.s.1 S.s.2 (avW true B)/\WS true Z CW B (T:Nat) (S.bg:Nat) (Os.map λO=>.ref O.t) (rK<|S.r++[(c,o)]) J G/\HdV Z G S.h/\J.map (·.1)=S.r.map (λp=>kK p.1)/\(∀p∈J,WLs M Z A B S.wc Os p.2)/\(∀(i:Nat) O e,Os[i]?=some O->S.u[i]?=some e->RG P w M Z C CK CG CO A N d R (avW true B) O e.b e.l S.s/\O.n=e.k/\O.F=e.F):=by
 obtain⟨J,G,L,F,E,D⟩:=k.ws;have f:=k.foD ⟨rfl,.inl rfl⟩ (L.wr rfl) (k.wf.wr rfl) b x;exact⟨J,G,f.tk,k.mx.fo f,L.rb k.wf b x,F.tk f.tk,E,λp m=>(D p m).fo b (λI z=>by rw[L.wr rfl]at z;cases z),k.usf f<|k.nD<|L.wr rfl⟩
def WK.wn(k:WK true P w N H C CK CG CO CW A j d g B mo S Os)(bR:SameB B.wr H T)(n:T B.wr=some (.dK<|rK<|S.r++[(c,o)]))(M:T l=none)(s:Same T R)(U:R l=some (.lst []))(b:SameB B.wn R H3)(nn:∀L:pj,R B.wn=some (.dK L)->H3 B.wn=some (.dK<|L++[(kK c,.ref l)])):WK true P w N H3 C CK CG CO CW A j d g B mo {S with r:=S.r++[(c,o)]} Os:=by
 obtain⟨L,hK,x,J,Q,h2,h3,h4,G⟩:=k.wr (nK':=[]) (λ_=>trivial) bR n;have k1:WK true P w N T C CK CG CO CW A j d g B mo {S with r:=S.r} Os->True:=λ_=>trivial;have Z:=Q.mono s;have X:=nn L<|Z.wn rfl;obtain⟨h,e1,_⟩:=(J.mono s).gg.bs;obtain⟨J2,e2,_⟩:=(J.mono s).gg.nu;have f:Fo N R H3 A (avW true B) B.wn:=⟨b,⟨_,X⟩,k.wf.wn rfl,Ym (Z.wn rfl) (J.mono s).gg.ins (by intro z;cases z),Ym (Z.wn rfl) e1 (by intro z;cases z),Ym (Z.wn rfl) e2 Jr.symm,λz=>k.n1<|z ▸ ⟨rfl,.inr<|.inl rfl⟩,λa ys e=>b _ _ (Ym e (Z.wn rfl) (by intro z;cases z)) e,λkn ρ m kr nk z=>nk<|z ▸ ⟨rfl,.inr<|.inl rfl⟩⟩;have D:H3 l=some (.lst []):=b _ _ (Ym U (Z.wn rfl) (by intro z;cases z)) U;have G1:=J.gg.bs;obtain⟨v,e3,_⟩:=J.gg.bs;have F:N l=none:=J.sm.free M;refine⟨(J.mono s).fo f,k.gr,k.wf,k.n1,k.n2,k.l3,⟨_,hK,Z.nb k.wf b X,(h2.tk s.tk0).tk f.tk,by rw[ZK,ZK,h3];rfl,λp m=>?_⟩,k.ul,λi O e a b'=>?_,k.nd,k.nu⟩
 .rcases ZX.mp m with m|m
  .exact ((h4 p m).mono s).fo b (λh z=>by rw[Z.wn rfl]at z;cases z)
  .rw [ZQ]at m
   subst m;refine⟨l,[],Y,D,Y,Zc _,(Ya Q.uw M).symm,(Ya e3 M).symm,F,λO m=>?_⟩;obtain⟨i,t⟩:=vj.mp m;have y:=(ZF.mp t).1;rw[k.ul]at y;obtain⟨u,I,_⟩:=(G i O _ t<|ZD y).1.wl;exact(Ya I M).symm
 .obtain ⟨r,q⟩:=G i O e a b'
  have E:=r.same s;obtain⟨u,I,_⟩:=E.wl;exact⟨E.fo f (Ym (Z.wn Y) E.gm.ins (by intro z;cases z)) (Ym (Z.wn Y) I (by intro z;cases z)),q⟩
def WK.wl(k:WK true P w J H C CK CG CO CW A I d c B mo S Os)(h:WLs J H A B S.wc Os (.ref l))(e:H l=some (.lst M))(b:SameB l H G)(x:G l=some (.lst<|M++[y]))(t:UJ y=true):WK true P w J G C CK CG CO CW A I d c B mo {S with wc:=S.wc+1} Os:=by
 obtain⟨F,U,q,j,Q,X⟩:=k.ws;obtain⟨o,L,g,Z,E,v,D,T,R,N⟩:=h;cases g;rw[e]at Z;cases Z;have f:=k.foL e R T b x;refine⟨k.mx.fo f,k.gr,k.wf,k.n1,k.n2,k.l3,⟨F,U,q.lb e D b,j.tk f.tk,Q,λp m=>?_⟩,k.ul,k.usf f λO m=>?_,k.nd,k.nu⟩
 .obtain ⟨a,ys,v1,v2,v3,v4,v5⟩:=X p m
  by_cases z:a=l
  .subst z
   rw[e]at v2;cases v2;exact⟨a,_,v1,x,by rw[List.all_append,E];simp[t],by rw[ZL,vc];exact qp v4,v5⟩
  .exact ⟨a,ys,v1,b _ _ z v2,v3,qd v4,v5⟩
 .obtain ⟨e2,r⟩:=k.get m
  exact⟨Ym e r.gm.ins (by intro z;cases z),N O m⟩
def WK.wc(k:WK true P w X H C CK CG CO CW A R d U B mo S Os):WK true P w X H C CK CG CO CW A R d U B mo {S with wc:=S.wc+1} Os:=by
 obtain⟨O,T,I,F,E,D⟩:=k.ws;exact⟨k.mx,k.gr,k.wf,k.n1,k.n2,k.l3,⟨O,T,I,F,E,λp m=>let⟨a,Z,N,M,L,G,J⟩:=D p m;⟨a,Z,N,M,L,qd G,J⟩⟩,k.ul,k.us,k.nd,k.nu⟩
def WK.push(k:WK bw P w X H C CK CG CO CW A F d U B mo S Os)(s:Same H Q)(g:RG P w X Q C CK CG CO A F d U (avW bw B) O bd l S.s)(E:H O.wl=none)(b:SameB B.uw Q y)(x:y B.uw=some (.lst<|(Os.map λO=>.ref O.t)++[.ref O.t])):WK bw P w X y C CK CG CO CW A F d U B mo {S with u:=S.u++[⟨O.n,O.F,bd,l⟩]} (Os++[O]):=by
 have M:=k.mono s;obtain⟨nK,hK,D,h2,h3,h4⟩:=M.ws;obtain⟨N,T,I,g2,g3,g4⟩:=k.ws;have f:=M.foL D.uw k.wf.uw k.n2.symm b x;have G:O.wl≠B.uw:=(Ya I.uw E).symm
 have v:∀Z∈Os,Z.wl≠O.wl:=λZ m=>by
  obtain⟨e,r⟩:=k.get m;obtain⟨zs,n,_⟩:=r.wl;exact Ya n E
 refine⟨M.mx.fo f,k.gr,k.wf,k.n1,k.n2,k.l3,⟨N,T,?_,(g2.tk s.tk0).tk f.tk,g3,λp m=>?_⟩,by rw[ZL,ZL,k.ul];rfl,λi Z e a L=>?_,?_,λZ m=>?_⟩
 .rw [ZK]
  exact(I.mono s).ub b x
 .obtain ⟨a,ys,v1,v2,v3,v4,v5,v6,v7,v8⟩:=g4 p m
  refine⟨a,ys,v1,b _ _ v5<|s _ _ v2,v3,v4,v5,v6,v7,λZ J=>?_⟩;rcases ZX.mp J with J|J
  .exact v8 Z J
  .rw [ZQ]at J;subst J;exact Ya v2 E
 .rcases jn i Os.length with q|q
  .rw [vd q]at a
   rw[vd (by rw[<-k.ul];exact q)]at L;have m:=ZJ a;obtain⟨r,t⟩:=M.us i Z e a L;exact⟨r.fo f (Ym D.uw r.gm.ins (by intro z;cases z)) (k.nu Z m).symm,t⟩
  .rw [vb q]at a
   rw[vb (by rw[<-k.ul];exact q),<-k.ul]at L
   cases e0:i-Os.length with
   |zero=>
    rw[e0]at a L;cases a;cases L;exact⟨g.fo f (Ym D.uw g.gm.ins (by intro z;cases z)) G.symm,Y,Y⟩
   |succ j=>rw[e0]at a;simp at a
 .rw [ZK,jt]
  refine⟨k.nd,by simp,λa h c o=>?_⟩;obtain⟨Z,m,rfl⟩:=ZW.mp h;have R:c=O.wl:=by simpa using o
  rw[R];exact v Z m
 .rcases ZX.mp m with m|m
  .exact k.nu Z m
  .rw [ZQ]at m;subst m;exact G
def WK.run(k:WK bw P w v H C CK CG CO CW A X d t B mo S (Os++[O]))(Q:S.u=u++[e])(f:FrW A O.wl H F)(g:RG P w v F C CK CG CO A X d t (avW bw B) O e.b l' I)(le:S.s.1.length<=I.1.length):WK bw P w v F C CK CG CO CW A X d t B mo {S with u:=u++[{e with l:=l'}],s:=I} (Os++[O]):=by
 obtain⟨nK,hK,J,h2,h3,h4⟩:=k.ws;have b:=k.ul;rw[Q,ZL,ZL,vc,vc]at b;have Z:Os.length=u.length:=by omega
 have N:=k.us;rw[Q]at N;obtain⟨n,q1,x⟩:=N Os.length O e (by rw[vb (ZG _),vO];rfl) (by rw[Z,vb<|ZG _,vO];rfl);obtain⟨M,L,_⟩:=n.wl;have o:=LU k.mx.gg L f;obtain⟨xs,e1,_⟩:=k.mx.gg.bs;obtain⟨G1,E,_⟩:=k.mx.gg.nu;obtain⟨J2,y,_⟩:=k.mx.gg.st;have T:O.wl≠B.uw:=k.nu O<|ZU _<|ZQ.mpr rfl;have D:∀{a M},avW bw B a->H a=some (.dK M)->F a=some (.dK M):=λha h=>f _ _ (Ym h e1 (by intro z;cases z)) (Ym h E Jr.symm) (λz=>k.n1<|z ▸ ha) (Ym h L (by intro z;cases z)) h;have R:=k.mx.gg.ne J.ins (λ_ z=>by cases z) (λ_ z=>by cases z) λ_=>X1.symm;have U:=k.nd;rw[ZK,jt]at U;refine⟨g.mx,k.gr,k.wf,k.n1,k.n2,k.l3,⟨nK,hK,⟨f _ _ R.1 R.2.1 R.2.2 (Ym J.ins L (by intro z;cases z)) J.ins,f _ _ k.n2.symm (Ym J.uw E JP.symm) (Ym J.uw y (by intro z;cases z)) T.symm J.uw,λz=>D ⟨z,.inl Y⟩<|J.wr z,λz=>D ⟨z,.inr<|.inl rfl⟩<|J.wn z,λz=>D ⟨z,.inr<|.inr rfl⟩<|J.hs z⟩,h2.tk o,h3,λp m=>?_⟩,by rw[ZL,ZL,Z];rfl,λi c e' a G=>?_,k.nd,k.nu⟩
 .obtain ⟨a,ys,v1,v2,v3,v4,v5,v6,v7,v8⟩:=h4 p m
  exact⟨a,ys,v1,f _ _ v6 (Ym v2 E JP.symm) (Ym v2 y (by intro z;cases z)) (v8 O<|ZU _<|ZQ.mpr rfl) v2,v3,v4,v5,v6,v7,v8⟩
 .rcases jn i Os.length with q|q
  .have a':=a
   rw[vd q]at a';rw[vd (by rw[<-Z];exact q)]at G;obtain⟨r,q'⟩:=N i c e' a (by rw[vd (by rw[<-Z];exact q)];exact G);exact⟨r.frw g L (U.2.2 _ (ZW.mpr ⟨c,ZJ a',Y⟩) _<|by simp) f le,q'⟩
  .rw [vb q]at a
   rw[vb (by rw[<-Z];exact q),<-Z]at G
   cases e0:i-Os.length with
   |zero=>
    rw[e0]at a G;cases a;cases G;exact⟨g,q1,x⟩
   |succ j=>rw[e0]at a;simp at a
end
def Ln{α:Type}{us:List α}{D E:α->V}(L:Itx J H (us.map D))(F:us.length<=10000)(O:∀u (R:V->Hp->Prop),u∈us->R (E u) H->g (D u) s0 H λN B=>te N B R)(T:∀p Z,H p=none->Same H Z->Z p=some (.lst<|us.map E)->Q (.ref p) Z):Te J g te s0 Q H:=by
 refine Vj us.length (JR<|by omega) (λi G Z=>Z=H/\G=(us.take i).map E/\i<=us.length) ⟨rfl,rfl,Zc _⟩ (λi G Z z=>by rw[z.2.1,ZA,ZN];exact jf z.2.2) ?_ ?_ ?_ ?_
 .rintro i G Z hi ⟨rfl,_⟩
  exact L.go i (by rw[ZA];exact hi)
 .rintro G Z ⟨rfl,_⟩
  have:=L.stop
  rwa [ZA]at this
 .rintro i G Z x H'' R hi ⟨rfl,rfl,z3⟩ yl rT
  obtain⟨rfl,y⟩:=L.yld i x H'' yl;rw[ZH]at y;obtain⟨u,M,rfl⟩:=Zj.mp y;refine O u R (ZJ M)<|rT _ _ ⟨rfl,?_,hi⟩;rw[take_snoc M,ZK]
  rfl
 .rintro G Z p ⟨rfl,rfl,_⟩ hp
  rw[Zg (ZG _)];exact T p _ hp (Yu hp _) Yh
def bD(cs:List Mk1)(n:Nat):Dat:=(Vq cs).getD n<|.tup []
def WK.nums(k:WK bw P w L H C M CG CO CW A J d G B mo S Os):Os.map (λO=>V.int (O.n:Nat))=S.u.map λe=>V.int (e.k:Nat):=by
 refine qh λi=>?_;rw[ZH,ZH]
 cases h:Os[i]? with
 |none=>
  have:=vW.mp h;rw[vW.mpr (by rw[<-k.ul];exact this)]
  rfl
 |some O=>
  have Z:=(ZF.mp h).1;rw[k.ul]at Z;have:=k.us i O _ h<|ZD Z;rw[ZD Z];exact congrArg some<|congrArg (λn:Nat=>V.int n) this.2.1
def WK.le(k:WK bw P w M H C N CG CO CW A G d L B mo S Os)(m:e∈S.u):e.k<=S.s.1.length:=by
 obtain⟨i,J⟩:=vj.mp m;have Z:=(ZF.mp J).1;rw[<-k.ul]at Z;have:=k.us i _ e (ZD Z) J;rw[<-this.2.1];exact this.1.on
theorem RE:∀l:List UE,HasL H (l.map λe=>V.int (e.k:Nat))<|l.map λe=>Dat.int (e.k:Nat)
 |[]=>Z6
 |e::l=>Z4 (by unfold Has;rfl)<|RE l
def itd{Z:pj}(h:H d=some (.frz o<|.dK Z)):Itx (Itd d o Z) H (Z.map λJ=>kV J.1):=⟨λi G=>⟨h,by rw[ZA]at G;exact G⟩,⟨h,by rw[ZA]⟩,λi x M y=>by
 obtain⟨e,J,L,rfl⟩:=y;exact⟨e,by rw[ZH,L];rfl⟩⟩
def EQ(K:W.Frag)(Z:PE X e ta)(J:attributeBase e f X.env (eval e X.env)=eval e X.env)(G:X.K=K:=by rfl):PE X (.Attribute e f pos) (A3 K ta f):=by
 subst G;exact Yt Z J
end L2
namespace K4
open PySem L2
section
variable{C CK CG CO CW CD:Addr}
abbrev sn:kZ:=["self","number"]
def QC(A:WA):(V2 bw A mo bg).lookup ("ground":Str)=some (V.ref A.gr):=rfl
def Aq(A:WA):(V2 bw A mo bg).lookup ("most":Str)=some (V.int mo):=rfl
def QD(A:WA):(V2 bw A mo bg).lookup ("begun":Str)=some (V.int bg):=rfl
def Mq(A:WA):(V2 bw A mo bg).lookup ("under_way":Str)=some (V.ref A.uw):=rfl
def P9(A:WA):(V2 true A mo bg).lookup ("wanters":Str)=some (V.ref A.wr):=rfl
def Fq(A:WA):(V2 true A mo bg).lookup ("wants":Str)=some (V.ref A.wn):=rfl
def QB(A:WA):(V2 true A mo bg).lookup ("heads":Str)=some (V.ref A.hs):=rfl
def Qk(A:WA):(V2 bw A mo bg).lookup ("going_of":Str)=none:=by cases bw <;> rfl
def As(A:WA):(V2 bw A mo bg).lookup ("go_into":Str)=none:=by cases bw <;> rfl
def Av(A:WA):(V2 true A mo bg).lookup ("birth_of":Str)=none:=rfl
def Ap(A:WA):(V2 true A mo bg).lookup ("ring_from":Str)=none:=rfl
def Qj(A:WA):(V2 bw A mo bg).length<1000:=by unfold V2;cases bw <;> simp
def Ku(A:OM):(Jf A).lookup ("begin":Str)=none:=rfl
def CH:Yi sn sn (Ye TX):=Y4
def CI:Yi sn sn (Ye Md):=Y4
def CL:Yi sn sn (Ye GD):=Y4
def CC:Yi ["self","number","numbers"] sn (Ye X7):=Y4
inductive L0(P:Program)(w:World)(CG CW:Addr)(H:Hp)(Q:VK):List V->Prop
 |num (A:GA) (B:WA) (mo bg:Int) (cs:List Mk1) (sts:Nat->Option Sta) (av:Addr->Prop) (k:Nat) (ins:H B.t=some (.ins CW B.dx (V2 true B mo bg))) (gr:B.gr=A.t) (gg:GG P w H CG A cs sts av) (hk:k<=cs.length) (q:∀v,Has H v (bD cs k)->Q v H):L0 P w CG CW H Q [.ref B.t,.int (k:Nat)]
 |non (B:WA) (q:Q .non H):L0 P w CG CW H Q [.ref B.t,.non]
def Ro(P:Program)(w:World)(CG CW:Addr):Sp:=λZ H Q _=>L0 P w CG CW H Q Z
def PB(M:WCl K CW)(TG:GCl K CG)(F:Fun K "birth_of" "Walk.birth_of" GD f S):Yf P w K m base CX0 (n+1) f S sn (Ro P w CG CW):=by
 refine F.oi CL (len:=λO H Q E h=>by cases h <;> rfl) λj A Z s H O Q E g h=>?_;refine⟨_,YZ (Y5 (Yp Gr (pv 1) JJ<|Yz _) (Yb<|Yn<|JJ) Yo)
  (Yb<|Yn<|Ys VI (Yt (Yt (pv 0) rfl) rfl) (pv 1) λ_ _=>rfl),?_⟩
 dsimp only[Vh,Cx.nox,Cx.wish];show let z:=_;let y:=_;Yk (VG _ y _) z _ _ _
 intros
 rcases h with⟨r,B,t,u,d,R,v,k,ins,I,L,p,q⟩|⟨B,q⟩
 .refine ⟨rfl,_,rfl,Y6 (by simp) ?_⟩
  exists CW,_,_,_,ins,M.cl,M.gr,QC _;rw[I];obtain⟨N,D,G⟩:=L.bs;have T:=G.length;rw[Xg]at T;have J:k<N.length:=by omega
  obtain⟨c,X,U⟩:=G.get<|ZD J;refine⟨CG,_,_,_,L.ins,TG.cl,TG.bs,MU _,_,_,Z3 D,VC<|ZD J,q _ ?_⟩;unfold bD;rw[vg,X];exact U
 .exact ⟨rfl,_,rfl,VP (by decide +kernel) q⟩
inductive Qb(bw:Bool)(P:Program)(w:World)(C CK CG CO CW:Addr)(H:Hp)(Q:VK):List V->Prop
 |mk (Hm:Hp) (A:GA) (ks:List (Str×Shp)) (d:Str->Nat) (ds:List Dd) (B:WA) (mo:Nat) (S:WSt) (Os:List OM) (k:Nat) (sta:Sta) (df:Dd) (wk:WK bw P w Hm H C CK CG CO CW A ks d ds B mo S Os) (hs:S.s.2 k=some sta) (hd:df∈ds) (ef:df.1.1=sta.f) (ok:df.2.ok) (hk:k<=S.s.1.length)
  (q:∀(O:OM) H',O.n=k->O.F=sta.f->Same H H'->H O.wl=none->RG P w Hm H' C CK CG CO A ks d ds (avW bw B) O df.2 [] S.s->H' O.pl=some (.tup (sta.pl.map V.int))->KnR A H' O.kn sta.ρ (3+sta.pl.length)->¬avW bw B O.kn->Q (.ref O.t) H'):Qb bw P w C CK CG CO CW H Q [.ref B.t,.int (k:Nat)]
def BL(bw:Bool)(P:Program)(w:World)(C CK CG CO CW:Addr):Sp:=λZ H Q _=>Qb bw P w C CK CG CO CW H Q Z
def O8(I:DCl K CW)(F:Fun K "going_of" "Doing.going_of" TX f fd)(m:T "Going"=some (.ref CO))(MO:Mk K CO g)(GI:Yf P w K T base CX0 n g a ["self","ground","number"] (D8 P w C CK CG CO))(bI:Binds K a ["self","ground","number"] []):Yf P w K T base CX0 (n+2) f fd sn (BL bw P w C CK CG CO CW):=by
 refine F.oi CH λJ2 A L s H vs Q E v h=>?_;obtain⟨Hm,A',p,d,ds,B,mo,S,Os,k,G,df,J,u,i,ef,z,l,q⟩:=h;exists _,Yb<|Yn<|Uc MO GI v rfl m bI .nil Y1 (pa2 (Yt (pv 0) rfl)<|pv 1);dsimp only[Vh,Cx.nox,Cx.wish];obtain⟨nK,hK,U,_⟩:=J.ws;refine⟨CW,_,_,_,U.ins,I.cl,I.gr,QC _,λx Z D M r=>?_⟩;have R:Same H (upd (upd H Z<|.own x) x<|.ins CO Z []):=λb o e=>by rw[Yg (Ya e D),Yg (Ya e M)];exact e
 have N:upd (upd H Z<|.own x) x (.ins CO Z []) x=some (.ins CO Z []):=Yh;generalize upd (upd H Z<|.own x) x (.ins CO Z [])=H7 at N R |-;rw[J.gr];refine⟨Hm,H,x,Z,A',p,d,ds,avW bw B,S.s,k,G,df,D,R,N,J.mx,J.al,u,i,ef,z,l,λO H' e1 e2 e3 X f1 j y c t=>⟨Y,?_⟩⟩;rw[<-e1];exact q O H' e2 e3 X f1 j y c t
inductive Qc(bw:Bool)(P:Program)(w:World)(C CK CG CO CW:Addr)(n:Nat)(H:Hp)(Q:VK):List V->Prop
 |mk (Hm:Hp) (A:GA) (ks:List (Str×Shp)) (d:Str->Nat) (ds:List Dd) (B:WA) (mo:Nat) (S:WSt) (Os:List OM) (k:Nat) (sta:Sta) (df:Dd) (m:Nat) (r:Stp) (l':List WEn) (s':Ss) (wk:WK bw P w Hm H C CK CG CO CW A ks d ds B mo S Os) (hs:S.s.2 k=some sta) (hd:df∈ds) (ef:df.1.1=sta.f) (ok:df.2.ok) (hk:k<=S.s.1.length) (lt:S.bg<mo) (lu:S.u.length<=9000) (gs:Gos ds A.gs sta.f df.2 k n m (.body sta.pl sta.ρ) [] S.s r l' s') (ls:S.s.1.length<=s'.1.length)
  (q:∀v O H',WK bw P w Hm H' C CK CG CO CW A ks d ds B mo {S with u:=S.u++[⟨k,sta.f,df.2,l'⟩],bg:=S.bg+1,s:=s'} (Os++[O])->r.on A (avW bw B) H' v->Q v H'):Qc bw P w C CK CG CO CW n H Q [.ref B.t,.int (k:Nat)]
def BM(bw:Bool)(P:Program)(w:World)(C CK CG CO CW:Addr)(n:Nat):Sp:=λZ H Q _=>Qc bw P w C CK CG CO CW n H Q Z
def O9(Z:DCl K CW)(TO:OCl K CO)(F:Fun K "go_into" "Doing.go_into" Md f fd)(m1:VN K CW "going_of" g1)(G1:Yf P w K p base CX0 L g1 d1 sn (BL bw P w C CK CG CO CW))(z:Binds K d1 sn [])(m2:VN K CO "begin" g2)(G2:Yf P w K p base CX0 L g2 d2 ["self"] (Rp P w C CK CG CO n))(b2:Binds K d2 ["self"] []):Yf P w K p base CX0 (L+1) f fd sn (BM bw P w C CK CG CO CW n):=by
 refine F.oi CI λR1 A j s H vs Q E l h=>?_;obtain⟨a,x,c,d,o,B,mo,S,i,k,R,D,m,r,l',s',U,hs,hd,ef,ok,hk,lt,lu,gs,ls,q⟩:=h;refine⟨_,YZ (Y5 (Yp Vl (Yt (pv 0) Y) (Yt (pv 0) Y)<|Yz _) VT Yo)
  (YZ (FD (pv 0) Yc AR)
  (YZ (VW<|Js Zz Z0 Z1 Vn (Yt (pv 0) rfl)<|pa1<|Y3 (pv 0) Z.cl m1 G1 l z .nil Y1<|pa1<|pv 1)
  (Yb<|Yn<|Vo (Ys VI (Yt (pv 0) rfl)<|Tu X8 Yc) TO.cl m2 G2 l b2 .nil Y1))),?_⟩
 dsimp only[Vh,Cx.nox,Cx.wish];show let T0:=_;let T1:=Yk _ T0;let T2:=Yk _ T1;Yk (VG _ _ _) T2 _ _ _
 intros
 obtain⟨nK,hK,I,_⟩:=id U.ws;refine⟨CW,_,_,_,I.ins,Z.cl,Z.bg,QD _,CW,_,_,_,I.ins,Z.cl,Z.mo,Aq _,Y,_,Y,Y6 (by simp;omega) ?_⟩;exists _,_,_,_,_,Y,I.ins,Z.cl,Z.bg,QD _,_,1,Y,Y,_,_,I.ins,Qj _;refine fld_in B.t _ λH1 z x1=>?_;have N:=U.bg (bg':=S.bg+1) z x1;obtain⟨G3,O1,J,_⟩:=id N.ws;refine⟨CW,_,_,_,J.ins,Z.cl,Z.uw,Mq _,.inl ⟨Y,_,Z3 J.uw⟩,_,_,J.ins,Qk _,a,x,c,d,o,B,mo,_,i,k,R,D,N,hs,hd,ef,ok,hk,λO H2 e b t f2 r2 p2 k2 n2=>?_⟩;have G:=J.mono t;have lo:=U.ul;refine⟨B.uw,_,_,Y,Y,G.uw,JR (by rw[ZA];omega),?_⟩;refine fld_in B.uw _ λH3 y x3=>?_;have M:=N.push t r2 f2 y x3;obtain⟨J2,M2,T,_⟩:=id M.ws;have eu:S.u++[⟨O.n,O.F,D.2,[]⟩]=S.u++[(⟨O.n,O.F,D.2,[]⟩:UE)]:=rfl;obtain⟨g,_⟩:=M.us i.length O ⟨O.n,O.F,D.2,[]⟩ (by rw[vb (ZG _),vO];rfl) (by show(S.u++ _)[_]?=_;rw[lo,vb<|ZG _,vO];rfl);have X:=V6 y G.uw;exists CW,_,_,_,T.ins,Z.cl,Z.uw,Mq _,1,Y,_,V.ref O.t,Z3 T.uw,by rw[ZK];exact Td _ _,_,_,g.gm.ins,Ku _;refine⟨a,x,c,d,o,avW bw B,O,D.2,R.pl,R.ρ,S.s,m,r,l',s',g,X _ _ p2,k2.lb G.uw y,n2,by rw[e,b];exact gs,U.l3,λv H4 f4 r4 hv=>?_⟩;refine q v O H4 ?_ hv;have:=M.run (u:=S.u) rfl f4 r4 ls;rw[e,b]at this;exact this
def putK_new{Z:pj}{J:List Nat}(h:Z.map (·.1)=J.map kK)(n:k∉J):VB Z (kK k)=none/\putK Z (kK k) v=Z++[(kK k,v)]:=by
 have a:(Z.any λL=>decide<|L.1=kK k)=false:=by
  rw[ka];intro p M z;have:p.1∈Z.map (·.1):=j5 M;rw[h]at this;obtain⟨j,G,e⟩:=ZW.mp this;have N:kK j=kK k:=e.trans<|Zt z;have:(j:Int)=k:=Sum.inl.inj N;rw[show j=k by omega]at G;exact n G
 refine⟨?_,by unfold putK;rw[a];rfl⟩;rw[JW]at a
 cases e:VB Z (kK k)with
 |none=>rfl
 |some _=>rw[e]at a;cases a
def ye:List.Nodup [("going":Str)]:=by decide +kernel
def C0:List.Nodup [("other":Str),"self"]:=by decide +kernel
inductive SRF(P:Program)(w:World)(C CK CG CO CW:Addr)(H:Hp)(Q:VK):List V->Prop
 |mk (Hm:Hp) (A:GA) (ks:List (Str×Shp)) (d:Str->Nat) (ds:List Dd) (B:WA) (mo:Nat) (S:WSt) (Os:List OM) (k i:Nat) (wk:WK true P w Hm H C CK CG CO CW A ks d ds B mo S Os) (lu:S.u.length<=9000) (hi:(S.u.map (·.k))[i]?=some k) (hn:∀j u,j<i->(S.u.map (·.k))[j]?=some u->u≠k)
  (q:∀p vs H',Same H H'->H p=none->H' p=some (.lst vs)->HasL H' vs ((S.u.drop i).map λe=>bD S.s.1 e.k)->Q (.ref p) H'):SRF P w C CK CG CO CW H Q [.ref B.t,.int (k:Nat)]
def Q3(P:Program)(w:World)(C CK CG CO CW:Addr):Sp:=λZ H Q _=>SRF P w C CK CG CO CW H Q Z
def Ci(TW:WCl K CW)(TO:OCl K CO)(F:Fun K "ring_from" "Walk.ring_from" X7 f fd)(m:VN K CW "birth_of" g)(G:Yf P w K mg base CX0 n g gd sn (Ro P w CG CW))(bG:Binds K gd sn []):Yf P w K mg base CX0 (n+1) f fd sn (Q3 P w C CK CG CO CW):=by
 refine F.oi CC λR6 A y s H vs Q E hr h=>?_;obtain⟨Hm,A',ks,d,ds,B,mo,S,Os,k,i,J,lu,b,hn,q⟩:=h;refine⟨_,YZ (MD (i0:=2) ["going"] [] CC.nd Y (Or.inl Y) (JM<|Yt (pv 0) rfl) (Vv (i:=0)<|by decide) (λcl C T s H=>Yj 0 ye rfl (Or.inl rfl) (Or.inr rfl)) (λcl C T s H=>EQ K (pv 0) rfl))
  (Yb<|Yn<|JN ["other"] [0] (JM<|JA Wx (pv 2) (JY<|Js Zz PySem.F.slot_list_index PySem.F.type_list_index AH (pv 2)<|pa1<|pv 1) JZ) (Vv (i:=0)<|by decide) (λcl C T s H=>Yj 0 C0 rfl (Or.inl rfl) (Or.inr rfl)) λcl C T s H=>Y3 (pv 1) TW.cl m G hr bG .nil Y1<|pa1<|pv 0),?_⟩
 dsimp only[Vh,Cx.nox,Cx.wish];show let T0:=_;Yk _ T0 _ _ _
 intros
 obtain⟨nK,hK,I,_⟩:=id J.ws;have lo:=J.ul;exists CW,_,_,_,I.ins,TW.cl,TW.uw,Mq _,⟨_,Z3 I.uw⟩;refine Ln (us:=Os) (D:=λO=>.ref O.t) (E:=λO=>.int (O.n:Nat)) (itl<|Z3 I.uw) (by omega) (λO R m a=>?_) λp H1 T X N=>?_
 .obtain ⟨e,r⟩:=J.get m
  exact⟨CO,_,_,_,r.gm.ins,TO.cl,TO.nu,EW _,a⟩
 rw[J.nums]at N;have M:=J.mono X;obtain⟨M2,R1,G2,_⟩:=id M.ws;have il:=(ZF.mp b).1;rw[ZA]at il;rw[ZH]at b;obtain⟨ei,o,G1⟩:=Zj.mp b;exists .inl ⟨Y,_,Z3 N⟩,p,_,_,.int (k:Nat),i,Y,Y,Z3 N,Y,?_,by rw[ZH,o];exact congrArg (λn:Nat=>some<|V.int n) G1,by simp[eqV],λj u hj hu=>?_
 .rw [qr]
  intro v c;obtain⟨e,_,rfl⟩:=ZW.mp c
  rfl
 .rw [ZH]at hu
  obtain⟨e,he,rfl⟩:=Zj.mp hu;have:=hn j e.k hj (by rw[ZH,he];rfl);simp[eqV];omega
 refine⟨(i:Int),Y,p,_,Y,Z3 N,λt ht=>?_⟩;refine up_in ht _ λH2 U g2=>?_
 have ec:Uo (S.u.map λe=>V.int (e.k:Nat)) (some (i:Int)) none=(S.u.drop i).map λe=>V.int (e.k:Nat):=by
  unfold Uo;rw[HT.sIx_nat,HT.sIx_none,ZA,jf<|Zh il,List.map_drop,Zg (by rw[jz,ZA];exact ZG _)]
 rw[ec]at g2;exists ⟨_,Z3 g2⟩;have Z:=M.mono U;obtain⟨G3,O1,L,_⟩:=id Z.ws;refine Ng (us:=S.u.drop i) (D:=λe=>.int (e.k:Nat)) (E:=λe=>bD S.s.1 e.k) (itl<|Z3 g2) ?_ (by rw[jz];omega) (λe x R m hx a=>?_) λvs p2 H3 J2 s3 l z=>?_
 .exact RE _
 .have:x=.int (e.k:Nat):=by unfold Has at hx;exact hx
  subst this;exact⟨_,_,L.ins,Av _,.num A' B _ _ S.s.1 S.s.2 (avW true B) e.k L.ins J.gr Z.mx.gg (Z.le<|jX m) λv c=>a v c⟩
 .exact q p2 vs H3 ((X.trans U).trans s3) ((X.trans U).free J2) l z
end
end K4
namespace L2
open PySem
def Ul(u:List UE):Option Nat:=u.getLast?.map (·.k)
def upW(k:Nat)(S:WSt):WSt:={S with r:=S.r++[(k,Ul S.u)],wc:=S.wc+1}
inductive WC(ds:List Dd)(gs:List Str)(mo n k:Nat)(S:WSt)(Rg:List Dat->Prop)(Go:WSt->Nat->Prop):Prop
 |ring (i:Nat) (m:k∈S.r.map (·.1)) (hi:(S.u.map (·.k))[i]?=some k) (hn:∀j u,j<i->(S.u.map (·.k))[j]?=some u->u≠k) (q:Rg ((S.u.drop i).map λe=>bD S.s.1 e.k))
 |go (sta:Sta) (df:Dd) (j k':Nat) (l':List WEn) (s':Ss) (m:k∉S.r.map (·.1)) (hs:S.s.2 k=some sta) (hd:df∈ds) (ef:df.1.1=sta.f) (ok:df.2.ok) (hk:k<=S.s.1.length) (lt:S.bg<mo) (gs:Gos ds gs sta.f df.2 k n j (.body sta.pl sta.ρ) [] S.s (.want k') l' s') (ls:S.s.1.length<=s'.1.length)
   (q:Go {upW k S with u:=S.u++[⟨k,sta.f,df.2,l'⟩],bg:=S.bg+1,s:=s'} k')
def WC.mono{M Z:List Dat->Prop}{N J:WSt->Nat->Prop}(c:WC y L mo n k S M N)(P:∀r,M r->Z r)(X:∀s r,N s r->J s r):WC y L mo n k S Z J:=by
 cases c with
 |ring i m U A q=>exact .ring i m U A<|P _ q
 |go G z j E D O m F C Q R I T L B q=>exact .go G z j E D O m F C Q R I T L B<|X _ _ q
def WK.insB(k:WK bw P w L H C M CG CO CW A J d G B Z S Os):H B.t=some (.ins CW B.dx<|V2 bw B (Z:Nat) (S.bg:Nat)):=let⟨_,_,h,_⟩:=k.ws;h.ins
def EJ(r:List (Nat×Option Nat)):(rK r).map (·.1)=(r.map (·.1)).map kK:=by unfold rK;rw[vm,vm];rfl
def L7(h:Z.map (·.1)=(l:List Nat).map kK)(m:k∈l):(VB (Z:pj)<|kK k).isSome=true:=by
 rw[<-JW,jV];have:kK k∈Z.map (·.1):=by rw[h];exact j5 m
 obtain⟨p,J,e⟩:=ZW.mp this;exact⟨p,J,decide_eq_true e⟩
def FQ{c A B:Prop}[Decidable c](J:c->A)(Z:¬c->B):if c then A else B:=by
 by_cases h:c
 .rw [Zp h];exact J h
 .rw [Zq h];exact Z h
def Sb:(rK r).length=r.length:=by unfold rK;rw[ZA]
def DD(h:S.u=u++[e]):Ul (S:WSt).u=some e.k:=by unfold Ul;rw[h,List.getLast?_concat];rfl
end L2
namespace K4
open PySem L2
section
variable{C CK CG CO CW CD:Addr}
def BP:Yi ["self","number","wanter"] sn (Ye Fs):=Y4
inductive Lx(P:Program)(w:World)(C CK CG CO CW:Addr)(n:Nat)(H:Hp)(Q:VK):List V->Prop
 |mk (Hm:Hp) (A:GA) (ks:List (Str×Shp)) (d:Str->Nat) (ds:List Dd) (B:WA) (mo:Nat) (S:WSt) (Os:List OM) (k:Nat) (wk:WK true P w Hm H C CK CG CO CW A ks d ds B mo S Os) (sh:S.h=[]) (hw:(∀e∈S.u,e.k∈S.r.map (·.1))/\S.r.length<=900/\S.wc<=9000) (lu:S.u.length<=9000)
  (c:WC ds A.gs mo n k S (λrs=>∀t p vs H',WK true P w Hm H' C CK CG CO CW A ks d ds B mo {S with wc:=S.wc+1} Os->H' t=some (.tup [.str "ring",.ref p])->Hm p=none->H' p=some (.lst vs)->HasL H' vs rs->Q (.ref t) H')
   (λS' k'=>∀v O H',WK true P w Hm H' C CK CG CO CW A ks d ds B mo S' (Os++[O])->(Stp.want k').on A (avW true B) H' v->Q v H')):Lx P w C CK CG CO CW n H Q [.ref B.t,.int (k:Nat)]
def Rh(P:Program)(w:World)(C CK CG CO CW:Addr)(n:Nat):Sp:=λZ H Q _=>Lx P w C CK CG CO CW n H Q Z
def KQ(B':Blt mg)(J:WCl K CW)(TO:OCl K CO)(F:Fun K "want" "Walk.want" Fs f fd)(m:VN K CW "go_into" g)(G:Yf P w K mg base CX0 L g gd sn (BM true P w C CK CG CO CW n))(bG:Binds K gd sn [])(mR:VN K CW "ring_from" gR)(GR:Yf P w K mg base CX0 L gR gRd sn (Q3 P w C CK CG CO CW))(bR:Binds K gRd sn []):Yf P w K mg base CX0 (L+1) f fd sn (Rh P w C CK CG CO CW n):=by
 refine F.oi BP λR7 A G2 s H vs Q E hr h=>?_;obtain⟨Hm,A',ks,d,ds,B,mo,S,u,k,X,sh,⟨hw,lr,lw⟩,lu,c⟩:=h;have y:=V7 hr;refine⟨_,YZ (Yw 2 BP.nd<|JJ)
  (YZ (Y5 (Yp Gs (VF Y8 rfl B'.len Zu (pa1<|Yt (pv 0) rfl)) Yc<|Yz _) (YZ (Yw 2 BP.nd<|Yt (Ys VI (Yt (pv 0) rfl)<|Tu X8 Yc) rfl)
  (Yb<|Y5 (Yp Jb (pv 1) (Vt y (Yt (pv 0) rfl) (pv 2) λ_ _=>rfl) rfl) (Yb<|VW<|Js Zz Z0 Z1 Vn (Vt y (Yt (pv 0) rfl) (pv 2) λ_ _=>rfl)<|pa1<|pv 1) Yo)) Yo)
  (YZ (Y5 (Jh<|U0 y (pv 1)<|Yt (pv 0) rfl) VT Yo)
  (YZ (Y5 (Jh<|U0 y (pv 1)<|Yt (pv 0) rfl) (Yb<|Yn<|Yq<|pa2 (Y0)<|Y3 (pv 0) J.cl mR GR hr bR .nil Y1<|pa1<|pv 1) Yo)
  (YZ (Vs y (Yt (pv 0) rfl) (pv 1) (pv 2) rfl)
  (YZ (Vs y (Yt (pv 0) rfl) (pv 1) (Vg VR) rfl)
  (Yb<|Yn<|Y3 (pv 0) J.cl m G hr bG .nil Y1<|pa1<|pv 1)))))),?_⟩
 dsimp only[Vh,Cx.nox,Cx.wish];show let T0:=_;let T1:=Yk _ T0;let T2:=Yk _ T1;let T3:=_;let T4:=Yk (VG _ T3 _) T2;let T5:=Yk (VG _ _ _) T4;let T6:=_;let T7:=VG _ T6 _;let T8:=Yk _ T7;let T9:=Yk (VG _ T8 _) T5;Yk _ T9 _ _ _
 intros
 have lo:=X.ul;refine Lv ?_;refine XC (λU H'=>∃H1,U=[some (.ref B.t),some<|.int (k:Nat),some (oV<|Ul S.u)]/\WK true P w Hm H' C CK CG CO CW A' ks d ds B mo {S with wc:=S.wc+1} u/\H1=H') ?_ ?_
 .rintro U H1 ⟨_,rfl,wk1,-⟩
  obtain⟨nK,hK,Z,h2,h3,h4⟩:=id wk1.ws;have O1:hK.map (·.1)=(S.h.map (·.1)).map kK:=by rw[h2.1,vm];rfl
  have vh:VB hK (kK k)=none:=(putK_new (v:=.non) O1 (by show k∉S.h.map (·.1);rw[sh];exact jB)).1;refine⟨CW,_,_,_,Z.ins,J.cl,J.hs,QB _,_,Vi.k (k:=kK k)<|Z.hs rfl,_,rfl,Y6 (by rw[vh];decide) ?_⟩;exists CW,_,_,_,Z.ins,J.cl,J.wr,P9 _,_,Vi.k (k:=kK k)<|Z.wr rfl,_,rfl
  cases c with
  |ring i m hi hn q=>
   refine VP (by rw[L7 (EJ _) m]) ?_;refine⟨_,_,Z.ins,Ap _,Hm,A',ks,d,ds,B,mo,_,u,k,i,wk1,lu,hi,hn,λp vs H2 s2 fp hp hv=>⟨sl 2,λt ht=>?_⟩⟩;refine up_in ht _ λH3 D g3=>q t p vs H3 (wk1.mono<|s2.trans D) g3 (wk1.mx.sm.free fp) (D _ _ hp)<|hv.mono D
  |go G1 df j k' l' s' m hs hd ef ok hk lt gs ls q=>
   obtain⟨vr,pr⟩:=putK_new (v:=oV<|Ul S.u) (EJ S.r) m;refine Y6 (by rw[vr];decide) ?_;refine⟨CW,_,_,_,Z.ins,J.cl,J.wr,P9 _,_,UU.k (k:=kK k) (Z.wr Y)<|Yv (by rw[Sb];exact Zb lr<|by decide),?_⟩;rw[pr];refine fld_in B.wr _ λH2 b2 x2=>⟨sl 0,λl a=>?_⟩;refine up_in a _ λH3 D g3=>?_;have G3:=D _ _<|b2 _ _ (Ym Z.ins (Z.wr rfl) (by intro z;cases z)) Z.ins;have r:=D _ _<|b2 _ _ (wk1.wf.d1 rfl).symm<|Z.wn rfl;have e3:rK (S.r++[(k,Ul S.u)])=rK S.r++[(kK k,oV<|Ul S.u)]:=by unfold rK;rw[ZK];rfl
   have I:=congrArg List.length h3;rw[ZA,ZA]at I;refine⟨CW,_,_,_,G3,J.cl,J.wn,Fq _,_,UU.k (k:=kK k) r<|Yv (by rw[I];exact Zb lr<|by decide),?_⟩;have n3:=(putK_new (v:=.ref l) (h3.trans (by rw[vm];rfl):nK.map (·.1)=(S.r.map (·.1)).map kK) m).2;rw[n3];refine fld_in B.wn _ λH5 b5 x5=>?_
   have b:=wk1.wn (c:=k) (o:=Ul S.u) (l:=l) b2 (by rw[e3];exact x2) a D g3 b5 λR1 e=>by
    rw[r]at e;cases e;exact x5
   exists _,_,(b.insB),As _;exact⟨Hm,A',ks,d,ds,B,mo,_,u,k,G1,df,j,.want k',l',s',b,hs,hd,ef,ok,hk,lt,lu,gs,ls,q⟩
 .intro N hN
  obtain⟨nK,hK,T,h2,h3,h4⟩:=id X.ws;exists CW,_,_,_,T.ins,J.cl,J.uw,Mq _,B.uw,_,Y,.inl<|Z3 T.uw,_,rfl
  by_cases u0:S.u=[]
  .have o0:u=[]:=ja (by rw[lo,u0];rfl)
   refine Y6 (by rw[o0];decide)<|hN _ _ ⟨H,?_,X.wc,rfl⟩;unfold Ul;rw[u0]
   rfl
  .have ne:u≠[]:=λz=>u0<|ja (by rw[<-lo,z];rfl)
   obtain⟨M,O,rfl⟩:∃M O,u=M++[O]:=⟨_,_,(jc ne).symm⟩;obtain⟨u',e,eu⟩:∃u' e,S.u=u'++[e]:=⟨_,_,(jc u0).symm⟩
   have ll:M.length=u'.length:=by
    rw[eu,ZL,ZL]at lo;simpa using lo
   have us:=X.us M.length O e (by rw[vb (ZG _),vO];rfl) (by rw[eu,ll,vb<|ZG _,vO];rfl);have ek:=DD eu;have em:=hw e (by rw[eu];exact ZU _<|ZQ.mpr rfl);refine VP (by rw[ZA,ZL,vc];exact decide_eq_true<|by omega) ?_;exists CW,_,_,_,T.ins,J.cl,J.uw,Mq _,1,Y,_,V.ref O.t,Z3 T.uw,by rw[ZK];exact Td _ _,CO,_,_,_,us.1.gm.ins,TO.cl,TO.nu,EW _;obtain⟨v,hv,a⟩:=Qi h4 h3 em;obtain⟨l,xs,rfl,R,M2,I,R6⟩:=id a;rw[us.2.1];have dg:=Vi.k (k:=kK e.k)<|T.wn rfl;rw[hv]at dg;exists CW,_,_,_,T.ins,J.cl,J.wn,Fq _,_,dg;exists l,xs,Y,.inl<|Z3 R,rfl,M2,_,rfl;have x:∀{H':Hp},WK true P w Hm H' C CK CG CO CW A' ks d ds B mo {S with wc:=S.wc+1} (M++[O])->N [some (.ref B.t),some<|.int (k:Nat),some (.int (e.k:Nat))] H':=λJ2=>hN _ _ ⟨_,by rw[ek];rfl,J2,rfl⟩;refine FQ (λ_=>?_) λ_=>x X.wc;refine⟨CW,_,_,_,T.ins,J.cl,J.wn,Fq _,_,dg,.inl ⟨Y,_,Z3 R⟩,l,_,_,Y,Y,R,JR<|by omega,?_⟩;refine fld_in l _ λH1 b1 x1=>x<|X.wl a R b1 x1 rfl
end
end K4
namespace L2
open PySem
def Wlk(ds:List Dd)(gs:kZ)(mo n:Nat)(rs:pE):Nat->Nat->WSt->Prop
 |0,_,_=>False
 |j+1,k,S=>S.h=[]/\((∀e∈S.u,e.k∈S.r.map (·.1))/\S.r.length<=900/\S.wc<=9000)/\S.u.length<=9000/\WC ds gs mo n k S (λr=>r=rs) (λS' k'=>Wlk ds gs mo n rs j k' S')
def Mw(b:SameB p H G)(h:H p=some (.dK J)):TL H G:=⟨λa Z e=>b _ _ (Ym e h (by intro z;cases z)) e,λa Z e=>b _ _ (Ym e h (by intro z;cases z)) e⟩
def RgV(Hm H:Hp)(v:V)(rs:pE):Prop:=∃t p Z,v=.ref t/\H t=some (.tup [.str "ring",.ref p])/\Hm p=none/\H p=some (.lst Z)/\HasL H Z rs
def RgV.tl(h:RgV O H v rs)(t:TL H R):RgV O R v rs:=let⟨J,p,Z,e,N,M,L,G⟩:=h;⟨J,p,Z,e,t.1 _ _ N,M,t.2 _ _ L,HasL.tl t _ G⟩
end L2
namespace K4
open PySem L2
section
variable{C CK CG CO CW CD:Addr}
def Ao(A:WA):(V2 bw A mo bg).lookup ("want":Str)=none:=by cases bw <;> rfl
def Ar(A:WA):(V2 bw A mo bg).lookup ("head_of_cell":Str)=none:=by cases bw <;> rfl
def SO:Yi ["self","number","stop","ended"] sn (Ye We):=Y4
inductive zY(P:Program)(w:World)(C CK CG CO CW:Addr)(n:Nat)(H:Hp)(Q:VK):List V->Prop
 |mk (Hm:Hp) (A:GA) (ks:List (Str×Shp)) (d:Str->Nat) (ds:List Dd) (B:WA) (mo:Nat) (S:WSt) (Os:List OM) (k j:Nat) (rs:List Dat) (wk:WK true P w Hm H C CK CG CO CW A ks d ds B mo S Os) (gs:Wlk ds A.gs mo n rs j k S)
  (q:∀v S' Os' H',S'.h=[]->WK true P w Hm H' C CK CG CO CW A ks d ds B mo S' Os'->RgV Hm H' v rs->Q v H'):zY P w C CK CG CO CW n H Q [.ref B.t,.int (k:Nat)]
def IN(P:Program)(w:World)(C CK CG CO CW:Addr)(n:Nat):Sp:=λZ H Q _=>zY P w C CK CG CO CW n H Q Z
def S5(TW:DCl K CW)(F:Fun K "head_of_cell" "Doing.head_of_cell" We f fd)(m1:VN K CW "want" g1)(G1:Yf P w K mg base CX0 L g1 d1 sn (Rh P w C CK CG CO CW n))(b1:Binds K d1 sn []):Yf P w K mg base CX0 (L+1) f fd sn (IN P w C CK CG CO CW n):=by
 refine F.oi SO λJ2 A y s H vs Q E hr h=>?_;obtain⟨a,x,ks,d,i,B,m,S,T,k,j,rs,D,R,q⟩:=h;refine⟨_,YZ (Yw 2 SO.nd<|Yq<|pa2 (Y0)<|pv 1)
  (Yb<|Uy Zv (JS J4)<|Yb<|Y5 (Yp Vl (Ys (r:=Vy K) Yy (pv 2)<|Yc) Y0<|Yz _) (Yb<|Yw 2 SO.nd<|Y3 (pv 0) TW.cl m1 G1 hr b1 .nil Y1<|pa1<|Ys (r:=Vy K) Yy (pv 2)<|Yc)<|Yb<|Y5 (Yp Vl (Ys (r:=Vy K) Yy (pv 2)<|Yc) Y0<|Yz _) VT<|Yb<|Y5 (Yp UO (Ys (r:=Vy K) Yy (pv 2)<|Yc) Y0<|Yz _) (Yb<|Yn<|pv 2) VT),?_⟩
 show let T0:=_;let T1:=_;let T2:=VG _ T1 _;let T3:=VG _ _ T2;let T4:=VG _ T0 T3;let T5:=WB _ T4;Yk _ T5 _ _ _
 intros
 try dsimp only[Vh,Cx.nox,Cx.wish]
 refine⟨sl 2,λt0 l=>?_⟩;refine up_in l _ λH0 s0 g0=>?_
 let W:pB:=λj U Z=>∃S T v z,U=[some (.ref B.t),some<|.int (k:Nat),some v,z]/\WK true P w a Z C CK CG CO CW x ks d i B m S T/\((∃I,Has Z v (.tup [.str "want",.int (I:Nat)])/\Wlk i x.gs m n rs j I S)\/S.h=[]/\RgV a Z v rs)
 refine⟨W,⟨j,S,T,_,_,Y,D.mono s0,.inl ⟨k,Yx g0<|Z4 VA<|Z5 (by unfold Has;rfl),R⟩⟩,?_⟩;rintro j U H1 ⟨S,T,v,z,rfl,D,M⟩;refine⟨true,Y,VP Y ⟨λU Z=>∃j',j'<j/\W j' U Z,λU' Z z=>z,?_⟩⟩;rcases M with⟨I,M,R⟩|⟨X,M⟩
 .cases j with
  |zero=>unfold Wlk at R;exact R.elim
  |succ j=>
  unfold Wlk at R;obtain⟨X,n1,n2,c⟩:=R;obtain⟨t,ys,rfl,N,hl⟩:=Yr M;obtain⟨x1,r1,rfl,e1,o⟩:=Yd hl;obtain⟨x2,r2,rfl,e2,e⟩:=Yd o;obtain rfl:=Y9 e;obtain rfl:=has_str e1;obtain rfl:x2=.int (I:Nat):=by unfold Has at e2;exact e2
  refine⟨_,_,Z2 N,at0,Y,_,Y,VP (by decide +kernel) ?_⟩;refine⟨_,_,D.insB,Ao _,_,_,Z2 N,at1,a,x,ks,d,i,B,m,S,T,I,D,X,n1,n2,c.mono ?_ ?_⟩
  .exact λr g t p us Z J b fp hp G=>⟨j,vi _,_,T,_,_,rfl,J,.inr ⟨X,t,p,us,rfl,b,fp,hp,by rw[<-g];exact G⟩⟩
  .exact λS' k2 g u O Z J G=>⟨j,vi _,S',_,_,_,rfl,J,.inl ⟨k2,G,g⟩⟩
 .obtain ⟨t,p,us,rfl,N,-⟩:=id M
  refine⟨_,_,Z2 N,at0,Y,_,Y,Y6 (by decide +kernel) ?_⟩;refine⟨_,_,Z2 N,at0,Y,_,Y,Y6 (by decide +kernel) ?_⟩;exact⟨_,_,Z2 N,at0,Y,_,Y,VP (by decide +kernel)<|q _ _ _ _ X D M⟩
def QI:Yi ["self","whole","told"] ["self","whole"] (Ye TV):=Y4
inductive Qa(P:Program)(w:World)(C CK CG CO CW:Addr)(n:Nat)(H:Hp)(Q:VK):List V->Prop
 |mk (Hm:Hp) (A:GA) (ks:List (Str×Shp)) (d:Str->Nat) (ds:List Dd) (B:WA) (mo:Nat) (S:WSt) (Os:List OM) (j:Nat) (rs:List Dat) (full:Bool) (wk:WK true P w Hm H C CK CG CO CW A ks d ds B mo S Os) (gs:Wlk ds A.gs mo n rs j 0 S)
  (q:∀v S' Os' H',S'.h=[]->WK true P w Hm H' C CK CG CO CW A ks d ds B mo S' Os'->RgV Hm H' v rs->Q v H'):Qa P w C CK CG CO CW n H Q [.ref B.t,.bl full]
def Rj(P:Program)(w:World)(C CK CG CO CW:Addr)(n:Nat):Sp:=λZ H Q _=>Qa P w C CK CG CO CW n H Q Z
def O3(u:DCl K CW)(F:Fun K "outcome" "Doing.outcome" TV f z)(D:VN K CW "head_of_cell" y)(a:Yf P w K T base CX0 L y g sn (IN P w C CK CG CO CW n))(c:Binds K g sn []):Yf P w K T base CX0 (L+1) f z ["self","whole"] (Rj P w C CK CG CO CW n):=by
 refine F.oi QI λk A J s H vs Q E U h=>?_;obtain⟨i,x,I,d,m,B,R,S,o,j,O,full,G,X,q⟩:=h;refine⟨_,YZ (Yw 2 QI.nd<|Y3 (pv 0) u.cl D a U c .nil Y1<|pa1<|Yc)
  (YZ (Y5 (Yp UO (Ys (r:=Vy K) Yy (pv 2)<|Yc) Y0<|Yz _) (Yb<|Yn<|pv 2) Yo)
  VT),?_⟩
 show let b:=_;let l:=Yk (VG _ b _) _;Yk _ l _ _ _
 intros
 refine⟨_,_,G.insB,Ar _,i,x,I,d,m,B,R,S,o,0,j,O,G,X,λv S' e H' N Z M=>?_⟩;obtain⟨t,p,us,rfl,ht,-⟩:=id M;exact⟨_,_,Z2 ht,at0,Y,_,Y,VP (by decide +kernel)<|q _ _ _ _ N Z M⟩
def SQ:Yi ["self"] ["self"] (Ye Fu):=Y4
def C2:List.Nodup [("number":Str),"self"]:=by decide +kernel
inductive Ly(P:Program)(w:World)(C CK CG CO CW:Addr)(H:Hp)(Q:VK):List V->Prop
 |mk (Hm:Hp) (A:GA) (ks:List (Str×Shp)) (d:Str->Nat) (ds:List Dd) (B:WA) (mo:Nat) (S:WSt) (Os:List OM) (wk:WK true P w Hm H C CK CG CO CW A ks d ds B mo S Os) (sh:S.h=[])
  (q:∀p H',Same Hm H'->TL H H'->H' p=some (.lst [])->Q (.ref p) H'):Ly P w C CK CG CO CW H Q [.ref B.t]
def Rm(P:Program)(w:World)(C CK CG CO CW:Addr):Sp:=λZ H Q _=>Ly P w C CK CG CO CW H Q Z
def Ke(M:WCl K CW)(F:Fun K "done" "Walk.done" Fu f fd)(m:VN K CW "birth_of" g)(G:Yf P w K v base CX0 L g a sn (Ro P w CG CW))(y:Binds K a sn []):Yf P w K v base CX0 (L+1) f fd ["self"] (Rm P w C CK CG CO CW):=by
 refine F.oi SQ λJ2 A N s H c Q E I h=>?_;obtain⟨Hm,A',ks,d,ds,B,mo,S,Os,J,u,q⟩:=h;have r:=V7 I;refine⟨_,Yb<|Yn<|JN ["number"] [0] (Oj<|Yt (pv 0) rfl) (Vv (i:=0)<|by decide) (λcl C j s H=>Yj 0 C2 rfl (Or.inl rfl) (Or.inr rfl)) λcl C j s H=>Yq<|pa2 (Y3 (pv 1) M.cl m G I y .nil Y1<|pa1<|pv 0)<|Y3 (pv 1) M.cl m G I y .nil Y1<|pa1<|Vt r (EQ K (pv 1) rfl) (pv 0) λ_ _=>rfl,?_⟩;dsimp only[Vh,Cx.nox,Cx.wish];obtain⟨nK,e,Z,n,h3,h4⟩:=id J.ws;refine⟨CW,_,_,_,Z.ins,M.cl,M.hs,QB _,B.hs,_,Y,Z.hs Y,λo=>?_⟩;refine fld_in B.hs _ λH1 z X=>?_;have O:=J.mx.fo<|J.foD ⟨rfl,.inr<|.inr rfl⟩ (Z.hs rfl) (J.wf.hs rfl) z X
 have e0:e=[]:=by
  have:=n.1;rw[u]at this;exact List.map_eq_nil_iff.mp this
 subst e0;refine Nh (us:=([]:List Nat)) (D:=λk=>.int (k:Nat)) (F:=λ_=>.non) (λH' s=>itd<|s _ _ X) Z6 (by decide) (λk x t R b=>by cases b) λc p t j U l T=>?_;obtain rfl:=Y9 T;exact q p t (O.sm.trans U) ((Mw z<|Z.hs rfl).trans U.tl) l
end
end K4
namespace L2
open PySem PySem.Spec PyProof.Rows
structure Nz(K:W.Frag)(x qual:Str)(st:Stmt)(f:Addr)(fd:FuncData):Prop where
 ex:∃(oc:Value)(od:Option Addr)(kV doc pm:Value)(an:Option Addr)(cdv ct:Value)(osl:Array (Option Value))(T:Addr)(tc:Value)(td:Option Addr)(tn:Nat)(tl:Array (Option Value)),
  fd=W.fnOf x qual (JO st) (Vw st) (Ye st) (.ref T) kV doc pm an cdv ct/\K.lookup f=some ⟨oc,od,.func fd,osl⟩/\W.codeIn K cdv qual=true/\K.lookup T=some ⟨tc,td,.seq #[.bool false] tn,tl⟩
 kp:W.keepIn K (.ref f)=true
def Nz.oi{K:W.Frag}{M:Stmt}(F:Nz K x qual M f j)(S:Yi N D (Ye M))(L:∀(J:Value)(A:Around)(Z:List Env)(s:Shared)(H:Hp)(G:px)(Q:VK)(E:XK),Vr k (A.deeper<|PyProof.Rows.envOfC qual (Ye M) s.heap.objs.size f J)->B G H Q E->
   ∃t,PSs (Vh CX0 P w K U base N qual (Ye M) f J A Z s H E).nox (Vw M) t/\t {nx:=λ_ z=>Q .non z,rt:=Q} (start N G) H)(len:∀G H Q E,B G H Q E->G.length=D.length:=by intro G H Q E h;cases h;rfl):Yf P w K U base CX0 (k+1) f j D B:=by
 obtain⟨v,u,kV,y,d,l,J,r,I,T,c,p,m,g,rfl,C,R,_⟩:=F.ex;refine QY C R S len λA Z s H G Q E X O=>?_;obtain⟨t,h,q⟩:=L J A Z s H G Q E X O;exact⟨t,h.nox,q⟩
def U1{α:Type}{Z:List α}{n:Nat}(h:Z.length=n+1):∃a t,Z=a::t/\t.length=n:=by
 cases Z with
 |nil=>cases h
 |cons a t=>exact⟨a,t,Y,Nat.succ.inj h⟩
def Nz.b5{K:W.Frag}{L:Stmt}(F:Nz K x qual L f m)(p E D B R:Str)(h:∀(a b c d e T kV Z M:Value)(O:ph)(J N:Value),∃k:Option (pi)->Sem (List<|Str×Value),bindArgs (W.fnOf x qual (JO L) (Vw L) (Ye L) T kV Z M O J N) ⟨[a,b,c,d,e],[]⟩=seqItems? T >>=k/\k (some #[.bool false])=pure ([p,E,D,B,R].zip [a,b,c,d,e]):=by
   exact λ_ _ _ _ _ _ _ _ _ _ _ _=>⟨_,Y,Y⟩):Binds K m [p,E,D,B,R] []:=λs G X A=>by
 obtain⟨l,r,kV,Z,M,O,J,N,I,T,w,v,g,u,rfl,o,z,S⟩:=F.ex;have U:G.length=5:=by simpa using A
 clear A;obtain⟨a,G,rfl,C⟩:=U1 U;obtain⟨b,G,rfl,P⟩:=U1 C;obtain⟨c,G,rfl,Q⟩:=U1 P;obtain⟨d,G,rfl,j⟩:=U1 Q;obtain⟨e,G,rfl,y⟩:=U1 j;obtain rfl:=ja y;obtain⟨k,t,q⟩:=h a b c d e (.ref T) kV Z M O J N;exact BindsTo.of_defaults Y (X _ _ S) Y t q
def S0(F:Str)(ρ:Rho):WSt:=⟨[],[],[],0,0,([],Xi F ρ)⟩
def MA(df:Dd):Rho:=SY (df.1.2.1.map (·.1)) df.1.2.1.length
end L2
namespace K4
open PySem L2
section
variable{C CK CG CO CW CD:Addr}
abbrev wop:kZ:=["book","F","worths","most"]
abbrev P4:kZ:=["book","F","worths","most","whole"]
def QA(A:WA):(V2 bw A mo bg).lookup ("outcome":Str)=none:=by cases bw <;> rfl
def Au(A:WA):(V2 true A mo bg).lookup ("done":Str)=none:=rfl
structure RgA(H:Hp)(C CK bk gv:Addr)(ks:List (Str×Shp))(d:Str->Nat)(ds:List Dd)(df:Dd)(gs:List Str):Prop where
 bi:BI H C CK bk ks d ds
 hd:df∈ds
 hg:H gv=some (.tup (gs.map V.str))
 ln:gs.length=df.1.2.1.length
 l3:df.1.2.1.length<=3
 nd:(df.1.2.1.map (·.1)).Nodup
 ok:∀(i:Nat)(p:Str×Str)(u:Str),df.1.2.1[i]?=some p->gs[i]?=some u->okW ks (.tag u) p.2
def RgA.oks(r:RgA H C CK bk gv J d M df gs):∀(i:Nat)(p:Str×Str)(u:W),df.1.2.1[i]?=some p->(gs.map W.tag)[i]?=some u->okW J u p.2/\u.dep<3:=λi p u L Z=>by
 rw[ZH]at Z;obtain⟨g,G,rfl⟩:=Zj.mp Z;exact⟨r.ok i p g L G,by simp[W.dep]⟩
def yC:Yi wop wop (Ye Rx):=Y4
def Ib:Yi ["book","F","worths","most","whole","walk","outcome"] P4 (Ye Bm):=Y4
inductive zT(P:Program)(w:World)(C CK CG CO CW:Addr)(H:Hp)(Q:VK):List V->Prop
 |mk (bk gv:Addr) (ks:List (Str×Shp)) (d:Str->Nat) (ds:List Dd) (df:Dd) (gs:List Str) (mo:Nat) (ra:RgA H C CK bk gv ks d ds df gs) (m1:1<=mo) (m2:mo<=500)
  (q:∀(A:GA)(B:WA) Hm H',Same H Hm->A.gs=gs->WK true P w Hm H' C CK CG CO CW A ks d ds B mo (S0 df.1.1 (MA df)) []->Q (.ref B.t) H'):zT P w C CK CG CO CW H Q [.ref bk,.str df.1.1,.ref gv,.int (mo:Nat)]
def D7(P:Program)(w:World)(C CK CG CO CW:Addr):Sp:=λZ H Q _=>zT P w C CK CG CO CW H Q Z
def Sx(F:Fun K "walk_of" "walk_of" Rx f fd)(DA:Df P w K R base (n+1) "check_asking" bfw (BK C CK .non))(DM:Df P w K R base (n+1) "check_most" ["most","highest"] Q9)(hC:R "MOST_CELLS"=some u1)(rC:RelV (.int 500) u1)(mW:R "Walk"=some (.ref CW))(MW:Mk K CW c)(GW:Yf P w K R base CX0 n c d1 ["self","ground","most"] (Qz CW))(bW:Binds K d1 ["self","ground","most"] [])(mG:R "Ground"=some (.ref CG))(MG:Mk K CG g2)(GG:Yf P w K R base CX0 n g2 d2 ["self","book","F","worths"] (EC P w C CK CG))(bG:Binds K d2 ["self","book","F","worths"] []):Yf P w K R base CX0 (n+2) f fd wop (D7 P w C CK CG CO CW):=by
 refine F.oi yC λG3 A m s H vs Q E X h=>?_;obtain⟨bk,gv,ks,d,ds,df,gs,mo,Z,m1,m2,q⟩:=h;refine⟨_,YZ (VW<|Vc DA X<|pa3 (pv 0) (pv 1)<|pv 2)
  (YZ (VW<|Vc DM X<|pa2 (pv 3)<|Ja rfl hC rC)
  (Yb<|Yn<|Uc MW GW X rfl mW bW .nil Y1 (pa2 (Uc MG GG X rfl mG bG .nil Y1 (pa3 (pv 0) (pv 1)<|pv 2))<|pv 3))),?_⟩
 show let T0:=_;let T1:=Yk _ T0;Yk _ T1 _ _ _
 intros
 refine⟨bk,gv,_,ks,d,ds,df,gs.map W.tag,Z.bi,Z.hd,Z.hg,X9 _,by rw[ZA];exact Z.ln,Z.l3,Z.oks,λT t=>?_⟩;refine⟨mo,500,by omega,by omega,?_⟩;intro x N U k G2;have r:Same T (upd (upd T N<|.own x) x<|.ins CG N []):=λb o e=>by rw[Yg (Ya e U),Yg (Ya e k)];exact e
 have u:upd (upd T N<|.own x) x (.ins CG N []) x=some (.ins CG N []):=Yh;generalize upd (upd T N<|.own x) x (.ins CG N [])=H2 at u r |-;refine⟨T,x,N,bk,gv,ks,d,ds,df,gs,U,r,u,Z.bi.mono t,Z.hd,t _ _ Z.hg,Z.ln,Z.l3,Z.nd,λG I e1 e2 e3 L=>⟨Y,?_⟩⟩;rw[Z.ln]at L;intro y M S g J2;have v:Same I (upd (upd I M<|.own y) y<|.ins CW M []):=λb o e=>by rw[Yg (Ya e S),Yg (Ya e g)];exact e
 have ty:upd (upd I M<|.own y) y (.ins CW M []) y=some (.ins CW M []):=Yh;generalize upd (upd I M<|.own y) y (.ins CW M [])=H4 at ty v |-;refine⟨I,y,M,x,mo,S,v,ty,λB H5 f1 f2 J l ws=>⟨Y,?_⟩⟩;rw[<-f1];have D:=L.sm;have j:WF true T B:=⟨D.free J.t,D.free J.uw,λz=>D.free<|J.wr z,λz=>D.free<|J.wn z,λz=>D.free<|J.hs z,J.d1,J.d2,J.d3⟩
 have na:∀a,avW true B a->I a=none:=λa z=>by
  rcases z.2 with rfl|rfl|rfl
  .exact J.wr rfl
  .exact J.wn rfl
  .exact J.hs rfl
 obtain⟨xs,c,_⟩:=L.gg.bs;obtain⟨G1,g3,_⟩:=L.gg.st;refine q G B T H5 t e3 ⟨⟨D.trans l,L.bi,L.f1,L.f2,L.f3,L.gg.avoids na l⟩,by rw[f2,e1],j,λz=>?_,Ya c J.uw,by rw[e3,Z.ln];exact Z.l3,⟨[],[],ws,⟨Y,Z6⟩,Y,λp h=>(by cases h)⟩,Y,λi O e h=>(by simp at h),jM,λO h=>(by cases h)⟩;have:=na _ z;rw[g3]at this;cases this
inductive Qe(P:Program)(w:World)(C CK:Addr)(n:Nat)(H:Hp)(Q:VK):List V->Prop
 |mk (bk gv:Addr) (ks:List (Str×Shp)) (d:Str->Nat) (ds:List Dd) (df:Dd) (gv':List Str) (mo:Nat) (full:Bool) (j:Nat) (rs:List Dat) (ra:RgA H C CK bk gv ks d ds df gv') (m1:1<=mo) (m2:mo<=500) (gs:Wlk ds gv' mo n rs j 0 (S0 df.1.1 (MA df)))
  (q:∀t r l Hm H',Same H Hm->Same H H'->H' t=some (.tup [r,.ref l])->RgV Hm H' r rs->H' l=some (.lst [])->Q (.ref t) H'):Qe P w C CK n H Q [.ref bk,.str df.1.1,.ref gv,.int (mo:Nat),.bl full]
def BN(P:Program)(w:World)(C CK:Addr)(n:Nat):Sp:=λZ H Q _=>Qe P w C CK n H Q Z
def PF(m:WCl K CW)(F:Nz K "asked" "asked" Bm f fd)(DW:Df P w K N base L "walk_of" wop (D7 P w C CK CG CO CW))(e:VN K CW "outcome" g1)(G1:Yf P w K N base CX0 L g1 d1 ["self","whole"] (Rj P w C CK CG CO CW n))(b1:Binds K d1 ["self","whole"] [])(b:VN K CW "done" g2)(G2:Yf P w K N base CX0 L g2 d2 ["self"] (Rm P w C CK CG CO CW))(b2:Binds K d2 ["self"] []):Yf P w K N base CX0 (L+1) f fd P4 (BN P w C CK n):=by
 refine F.oi Ib λJ2 A G s H vs Q E D h=>?_;obtain⟨bk,x,T,d,S,df,I,M,full,j,u,r,R,O,gs,q⟩:=h;refine⟨_,YZ (Yw 5 Ib.nd<|Vc DW D<|pa4 (pv 0) (pv 1) (pv 2)<|pv 3)
  (YZ (Yw 6 Ib.nd<|Y3 (pv 5) m.cl e G1 D b1 .nil Y1<|pa1<|pv 4)
  (Yb<|Yn<|Yq<|pa2 (pv 6)<|Vo (pv 5) m.cl b G2 D b2 .nil Y1)),?_⟩
 show let T0:=_;let T1:=Yk _ T0;Yk _ T1 _ _ _
 intros
 refine⟨bk,x,T,d,S,df,I,M,r,R,O,λg B X H1 z eg y=>?_⟩;refine⟨_,_,y.insB,QA _,X,g,T,d,S,B,M,_,[],j,u,_,y,by rw[eg];exact gs,λv S' U H2 p Z o=>?_⟩;refine⟨_,_,Z.insB,Au _,X,g,T,d,S,B,M,S',U,Z,p,λl H3 c k a=>⟨sl 2,λt i=>?_⟩⟩;exact up_in i _ λH4 J g4=>q t v l X H4 z ((z.trans c).trans J) g4 (o.tl<|k.trans J.tl)<|J _ _ a
end
end K4
namespace L2
open PySem PySem.Spec PyProof.Rows
section
variable{prog:Program}{w:World}{A:Around}{R:Result->Shared->Prop}{s:Shared}
def Mf{B O target G:Expr}{scope:Scope}{M:Pos}{N:Value}{D:Addr}{J:Env}(I:Nat->Shared->Prop)(turn:∀n s,I n s->wpAny (model prog w) A (pyNext N) (λr T=>match r with
   |none=>R (.ok .next) T
   |some v=>wpAny (model prog w) A (letOwnedTupleGo target N v) (λ_ L=>wpAny (model prog w) A (assign target J v) (λ_ X=>wpAny (model prog w) A (eval B J) (λP C=>wpAny (model prog w) A (eval O J) (λF U=>
     wpAny (model prog w) A (dictSet D P F) (λ_ S=>∃m,m<n/\I m S) (λ_ _=>False) U) (λ_ _=>False) C)
     (λ_ _=>False) X) (λ_ _=>False) L) (λ_ _=>False) T) (λ_ _=>False) s)(n:Nat)(h:I n s):codeAny (model prog w) A (.compLoop (.DictComp B O [⟨target,G,[],0⟩] scope M) 0 N (.ref D) J) R s:=by
 refine codeAny_loop Y I (λn s j=>wpAny_noted (m:=compTurn (.DictComp B O [⟨target,G,[],0⟩] scope M) 0 N (.ref D) J) ?_) n h;rw[compTurn_dict];refine Zl<|vU<|Zl<|Zn (turn n s j) (λr T Q=>?_) λ_ _ Z=>Z.elim
 cases r with
 |none=>exact Zm Q
 |some v=>
  refine Zl<|Zn Q (λ_ L E=>Zl<|Zn E (λ_ X t=>?_) λ_ _ Z=>Z.elim) λ_ _ Z=>Z.elim;exact Zl<|Zm<|Zl<|Zl<|Zn t (λP C q=>Zl<|wpAny_holding<|Zn q (λF U z=>Zl<|vU<|wpAny_holding<|Zn z (λ_ S y=>Zm ⟨rfl,y⟩) λ_ _ Z=>Z.elim) λ_ _ Z=>Z.elim) λ_ _ Z=>Z.elim
end
structure CBD(X:Cx)(owl:List Str)(ix:List Nat)(scope:Scope)(pins:List (Addr×Obj))(U:St)(tg:Expr)(cl:List (Str×Addr))(C:Addr)(fp:List Addr)(it:Addr)(tn:Nat->Heap->Prop)(J:It)(H2:Hp)(s3:Shared):Prop where
 T:Turn X.prog X.w X.K tg J fp it tn
 ok:(VM X (VU X owl ix) scope cl C fp s3 H2).Ok
 f2:∀b∈fp,Jj X pins H2 b
 I3:Inv X pins U H2 s3
 fC:∀H':Hp,H' C=none->Jj X pins H' C
section
def Ff{R:It->Addr->Hp->Prop}{rest:List Comprehension}(Z:kZ)(E:List Nat)(hi:PI X tg iter wi)(N:scope.kind=.function)(T8:J7 scope X.env.scope.names X.N E=true)(hs:∀x,foldedSetIterable iter X.env x=pure x)(I:Inv X L U H s)(h:wi U H λJ H1=>∀D,H1 D=none->R J D (upd H1 D<|.dK []))(loop:∀(cl:List (Str×Addr))(D C:Addr)(fp:pf)(it:Addr)(tn:Nat->Heap->Prop)(J:It)(A:Hp)(s3 s5:Shared),CBD X Z E scope L U tg cl C fp it tn J A s3->R J D A->Inv (VM X (VU X Z E) scope cl C fp s3 A) [] (VY Z.length E U) A s5->tn 0 s5.heap->
   codeAny (model X.prog X.w) X.A (.compLoop (.DictComp kx vx (⟨tg,iter,ifs,0⟩::rest) scope pos) 0 (.ref it) (.ref D)<|compEnvC scope cl C X.env) (compPost (model X.prog X.w) X.A X.xe use POST (.ref D) C) s5):
  wpAny (model X.prog X.w) X.A (comprehension (.DictComp kx vx (⟨tg,iter,ifs,0⟩::rest) scope pos) scope X.env cpos newDict false (eval iter X.env) use) POST X.xe s:=by
 obtain⟨G2,Q,R1,T9⟩:=J7.all T8;have G3:∀x∈scope.names,x.2=.free->∃c,X.env.cells.lookup x.1=some c:=λx hx hf=>I.ok.has x.1<|R1 x hx hf;obtain⟨cl,D0,G,O1⟩:=TZ G3;refine wpAny_comprehension_free Y hs D0 N G2 ?_;refine thn (hi L s U H _ I h) λv s1 h1=>thn h1 λF2 l h2=>?_;obtain⟨it,fp,tn,J,H1,e,F,T,R8,f1,hR⟩:=h2;subst e;refine vP<|wpAny_newFunctionEnv Q (by intro y hy;simp at hy) (λh4 G1 J2=>?_) N;dsimp only at G1 J2 |-;generalize hh3:l.heap.push {cls:=.type "dict",dict:=none,data:=.dict #[]}=h3 at G1 J2 |-;have T1:h3.objs.size=l.heap.objs.size+1:=by rw[<-hh3,vK]
 have n:∀b u,l.heap.get? b=some u->h3.get? b=some u:=λb u q=>by rw[<-hh3];exact ZE _ q
 have D3:h3.get? l.heap.objs.size=some {cls:=.type "dict",data:=.dict #[]}:=by rw[<-hh3];exact ZY _ Y
 obtain⟨D,g⟩:∃D,D=l.heap.objs.size:=⟨_,rfl⟩;obtain⟨C,hC⟩:∃C,C=h3.objs.size:=⟨_,rfl⟩;rw[<-hC]at G1 J2;rw[<-g]at D3 T1;have d:C=D+1:=hC.trans T1
 let s3:Shared:={l with heap:=h3}
 have F1:H1 D=none:=F.hok.fresh (by rw[g];exact ZG _)
 let A:Hp:=upd H1 D<|.dK []
 have I3:Inv X L U A s3:=F.laid (a:=D) (o:=.dK []) (t':=l.toks) n (by rw[g];exact ZG _) (by rw[<-hh3,g];exact TU l.heap F.big);have T7:∀b u,h3.get? b=some u->b<C:=λb u q=>by rw[hC];exact ZP q
 have O:∀b u,h3.get? b=some u->h4.get? b=some u:=λb u q=>J2.extBut b u (Ze<|T7 b u q)<|ZE _ q;have D2:A C=none:=(Yg (by rw[d];exact vM<|vi _)).trans<|F.hok.fresh (by rw[d,g];exact jK _)
 have w:∀x c,X.env.cells.lookup x=some c->c<D:=λx c e=>by
  obtain⟨v,z⟩:=F.cell x c e;rw[g];exact z.lt
 have R6:∀b∈fp,b<D:=λb M=>by
  obtain⟨o,e,_⟩:=T.obj 0 _ R8 b M;rw[g];exact ZP e
 have f2:∀b∈fp,Jj X L A b:=λb M=>⟨(Yg<|Ze<|R6 b M).trans (f1 b M).1,(f1 b M).2⟩
 let X':Cx:=VM X (VU X Z E) scope cl C fp s3 A
 have R7:∀b∈frs X.stack,b∉fp:=λb M z=>by
  rcases Zd.mp (F.stkSub b M)with q|q
  .exact (f2 b z).2.1 q
  .exact (f2 b z).2.2.1 q
 have T2:X'.Ok:=by
  refine⟨I.ok.mod,N,I.ok.glob,I.ok.blt,?_,λx y c h1 h2=>I.ok.inj x y c (G x c h1)<|G y c h2,λx hx=>O1 x<|Ua (scope:=scope) hx Q,(λx c z=>Bool.noConfusion (show false=true from z)),I.ok.hd,I.ok.frames,.inl rfl,λb M=>⟨?_,λx c h1=>?_⟩,λb o e=>?_,?_,λb o e M=>?_,λb M z=>R7 b z M,?_,λb M=>(Yg<|Ze (by obtain⟨_,o,e,_⟩:=F.stack.mem M;rw[g];exact ZP e)).trans<|F.stkFree b M⟩
  .show h3.objs.size<=C
   rw[hC];exact ZG _
  .show b≠C
   rw[d];exact Ze<|jN<|R6 b M
  .exact (f2 b M).2.2.2.2.1 x c (G x c h1)
  .exact I3.bs b o e
  .show X.base.objs.size<=h3.objs.size
   have:=Zb I.ok.bsz F.sz;rw[<-g]at this;rw[<-hC,d];exact qd this
  .rcases (f2 b M).2.2.2.1 with q|q
   .exact I.ok.noex b o e q
   .have:=Zx (ZP (I.ok.bs b o e).1) q
    exact vy _ this
  .exact I3.stack
 have T3:(VY Z.length E U).length=(VU X Z E).length:=by simp[VY,VU]
 have I4:∀t,Inv X' [] (VY Z.length E U) A {l with heap:=h4,toks:=t}:=λt=>by
  refine⟨T2,Y,F.bare,Un.kept O,⟨_,G1,λi x v e1 e2 e3=>?_⟩,λx c e=>?_,D2,λx c e=>(Yg<|Ze<|w x c<|G x c e).trans<|F.freeC x c<|G x c e,λp hp=>Zr (show p∈([]:kU)from hp) (by simp),(I3.hok).kept O,T3⟩
  .-- a name of the def that the block reads
   have T6:Z.length<=i:=by
    apply jA;intro T5;unfold VY at e2;rw[vd (by simpa using T5),jb,Zp T5]at e2;cases e2
   have f:(E.map λj=>X.N.getD j ("":Str))[i-Z.length]?=some x:=by
    have z:(Z++ E.map λj=>X.N.getD j ("":Str))[i]?=some x:=e1
    rwa [vb T6]at z
   have T0:(E.map λj=>U.getD j none)[i-Z.length]?=some (some v):=by
    unfold VY at e2;rw[vb (by simpa using T6)]at e2;simpa using e2
   rw[ZH]at f T0
   cases hj:E[i-Z.length]? with
   |none=>rw[hj]at f;cases f
   |some j=>
    rw[hj]at f T0;obtain⟨y,hy,P⟩:=T9 j<|ZJ hj
    have ex:x=y:=by
     have z:X.N.getD j ("":Str)=x:=ZT f;rw[<-z,vg,hy];rfl
    subst ex
    have ev:U[j]?=some (some v):=by
     have z:U.getD j none=some v:=ZT T0;rw[vg]at z
     cases q:U[j]? with
     |none=>rw[q]at z;cases z
     |some a=>rw[q]at z;exact congrArg some z
    have T4:=jd P;have M2:=R1 _ T4 rfl;obtain⟨m,hn,hl⟩:=F.loc;obtain⟨u,r,lk⟩:=hl j x v hy ev<|.inr M2;refine⟨u,r,.inr ⟨?_,?_⟩⟩
    .rcases e3 with z|z
     .exact Zr z (Uv P)
     .exact z
    .rcases lk with⟨k,_⟩|⟨_,c,D1,z⟩
     .rcases M2 with q|q
      .exact Zr (k.symm.trans q) (by simp)
      .exact Zr (k.symm.trans q) (by simp)
     .obtain ⟨c',hc'⟩:=O1 x T4
      have:=G x c' hc';rw[D1]at this;cases this;obtain⟨o,ho,hd⟩:=z;exact⟨c,hc',o,O _ _<|n _ _ ho,hd⟩
  .obtain ⟨v,z⟩:=I3.cell x c<|G x c e
   obtain⟨o,ho,hd⟩:=z;exact⟨v,o,O _ _ ho,hd⟩
 have B:CBD X Z E scope L U tg cl C fp it tn J A s3:=⟨T,T2,f2,I3,λH' hn=>F.fpOk (by rw[d,g];exact jK _) hn⟩;have S:=λt=>loop cl D C fp it tn J A s3 {l with heap:=h4,toks:=t} B (hR D F1) (I4 t)<|T.keep 0 _ _ R8 λb _ o e=>O _ _<|n _ _ e;rw[<-hC,<-g];exact codeAny_compStart_dict (S _)<|T.self _ 0 _ _ _ (T.keep 0 _ _ R8 λb _ o e=>O _ _<|n _ _ e)<|S _
end
def Mp(J:It)(D:Addr)(g:TG)(tk tv:TE)(s0:St)(Q:VK)(H1:Hp):Prop:=∃W:Nat->Nat->Hp->Prop,(∃m,W 0 m H1)/\∀i m H,W i m H->
 (J.stop i H/\Q (.ref D) H)\/(J.go i H/\∀x M,J.yld i H x M->g x s0 M fun σ2 O=>tk σ2 O λy N=>tv σ2 N λz L=>∃Z k,y=kV k/\L D=some (.dK Z)/\Z.length<sizeLine/\∃G,G<m/\W (i+1) G (upd L D<|.dK<|putK Z k z))
def Qu(n:Nat)(ix:List Nat)(wi:TI)(g:TG)(tk tv:TE):TE:=λU H Q=>wi U H λJ Z=>∀D,Z D=none->Mp J D g tk tv (VY n ix U) Q (upd Z D<|.dK [])
def Ae(I:Inv X G U H s)(e:H a=some (.dK Z))(l:Z.length<sizeLine)(O:RelV (kV k) u)(R:RelV v r)(h:∀M,Inv X G U (upd H a<|.dK<|putK Z k v) M->Q () M):
  wpAny (model X.prog X.w) A (dictSet a u r) Q E s:=by
 obtain⟨z,C,N,J,j⟩:=Nc I.hok e;have T:N.length<=sizeLine:=by rw[<-J.length];exact z
 have F:(putK Z k v).length<=sizeLine:=by have:=Vd Z k v;omega
 refine kS (hsz:=T) (U2 O) j λP L B=>h _ ?_;have S:∃q,P.get? a=some q:=let⟨q,_,_,D,_⟩:=L;⟨q,D⟩
 exact X2 I (by rw[e];exact True.intro) B S<|Xf F C (J.put k R) L
def CBD.loop(B:CBD X owl ix scope M U tg L C Z it tn J O s3)(hc:X.calm=true)(R6:GK owl.length g)(hg:∀L C Z s H,PG (VM X (VU X owl ix) scope L C Z s H) tg g)(hk:∀L C Z s H,PE (VM X (VU X owl ix) scope L C Z s H) kx tk)(hv:∀L C Z s H,PE (VM X (VU X owl ix) scope L C Z s H) vx tv)(cw:Mp J D g tk tv (VY owl.length ix U) Q O)(R8:∀E N,Inv X M U N E->Jj X M N C->(∃m,E.heap.Ns C m)->Q (.ref D) N->Rs (.ok .next) E)(I4:Inv (VM X (VU X owl ix) scope L C Z s3 O) [] (VY owl.length ix U) O c)(G1:tn 0 c.heap):
  codeAny (model X.prog X.w) X.A (.compLoop (.DictComp kx vx [⟨tg,iter,[],0⟩] scope pos) 0 (.ref it) (.ref D)<|compEnvC scope L C X.env) Rs c:=by
 obtain⟨W,⟨m0,w0⟩,turn⟩:=cw;have T:=B.T;have F:=B.ok
 let a:Cx:=VM X (VU X owl ix) scope L C Z s3 O
 have A:∀{S:Hp},(∀b∈Z,S b=none)->∀b∈Z,Jj a [] S b:=λ{S} hn b G=>
  ⟨hn b G,(F.exf b G).1,F.exfs b G,.inl G,(F.exf b G).2,λp M2 z=>by cases M2⟩
 refine Mf (λn s'=>∃i S,Inv a [] (VY owl.length ix U) S s'/\tn i s'.heap/\(∀b∈Z,S b=none)/\W i n S) ?_ m0
  ⟨0,O,I4,G1,λb G=>(B.f2 b G).1,w0⟩
 rintro n c ⟨i,N,I5,t,w,w5⟩;rcases turn i n N w5 with⟨stop,qn⟩|⟨go,step⟩
 .refine thn (T.done a rfl rfl rfl hc i _ c _ N _ I5 (A w) t stop) λr E ⟨hr,P⟩=>?_
  subst hr;obtain⟨m,O1,_⟩:=id P.loc
  have I7:Inv X M U N E:=B.I3.call' (ch:=Z) P.os P.base P.hok P.bare λb G=>by
   have f:=B.f2 b G;exact⟨f.2.2.2.1,f.2.1,f.2.2.2.2.1,f.2.2.2.2.2⟩
  exact R8 E N I7 (B.fC _ P.free) ⟨m,O1⟩ qn
 .refine thn (T.item a rfl rfl rfl hc i _ c _ N _ I5 (A w) t go) λr E ⟨u,hr,h6⟩=>?_
  subst hr;refine thn h6 λ_ s7 ⟨x,H7,I7,r7,y7,R,R7⟩=>?_;have T1:=I7.pinned (A R7)<|T.obj _ _ R;refine thn (hg L C Z s3 O _ s7 _ H7 x u _ T1 r7<|R6 _ _ _ _<|step x H7 y7) λ_ s8 ⟨σ8,H8,I8,q8,l8,k8⟩=>?_;refine thn (hk L C Z s3 O _ s8 σ8 H8 _ I8 q8) λkv s9 ⟨y,H9,I9,r9,q9⟩=>?_;refine thn (hv L C Z s3 O _ s9 σ8 H9 _ I9 q9) λvv T4 ⟨z,T6,T2,G2,T5,k,ey,T0,G3,m',R1,J2⟩=>?_;subst ey;refine Ae (X:=VM X (VU X owl ix) scope L C Z s3 O) T2 T0 G3 r9 G2 λT3 I=>?_;refine⟨m',R1,i+1,_,?_,?_,?_,J2⟩
  .refine Inv.weak (I.pins_of (pins':=[]) λp hp=>nomatch hp) (by rw[l8]) λj v h=>?_
   by_cases hlt:j<owl.length
   .unfold VY at h
    rw[vd (by simpa using hlt),jb,Zp hlt]at h;cases h
   .have e:σ8[j]?=(VY owl.length ix U)[j]?:=by
     have q:=congrArg (λl:List (pD)=>l[j-owl.length]?) k8;simp only[qZ]at q
     rwa [qR (jA hlt)]at q
    rw[e];exact h
  .exact T.keep _ _ _ R λb G o e=>(I.pin (b,o)<|ZU _<|V1 G e).1
  .intro b G
   obtain⟨o,e,d⟩:=T.obj _ _ R b G;exact(I.pin (b,o)<|ZU _<|V1 G e).2.1
def Im(J:swapsWith (.DictComp kx vx gens scope pos) (some<|.Name x0 py) spos.line X.env=pure true)(h:wpAny (model X.prog X.w) X.A (comprehension (.DictComp kx vx gens scope pos) scope X.env (firstIterPos gens pos) newDict (firstAsync gens) (firstIter gens X.env)<|some<|assign (.Name x0 py) X.env) (λ_ G=>∃L M,Inv X Z L M G/\D0.nx L M) X.xe s):
  wpAny (model X.prog X.w) X.A (exec (.Assign [.Name x0 py] (.DictComp kx vx gens scope pos) spos) X.env) (SP X Z D0) X.xe s:=by
 rw[exec_Assign_Name_used _ _ _ _ J];refine Zl<|vU<|Zl (?_:wpAny _ X.A (do let _ <-comprehension (.DictComp kx vx gens scope pos) scope X.env _ newDict _ _ (some<|assign (.Name x0 py) X.env)) _ _ s);exact Zl<|Zn h (λ_ G N=>Zm<|Zm N) λ_ _ e=>e
def Oe(Z:kZ)(G:List Nat)(u:X.N.Nodup)(A:X.N[i0]?=some x0)(T:Loc X.env.scope x0)(p:PI X tg iter wi)(S:GK Z.length g)(c:∀N C M s H,PG (VM X (VU X Z G) scope N C M s H) tg g)(k:∀N C M s H,PE (VM X (VU X Z G) scope N C M s H) kx tk)(t:∀N C M s H,PE (VM X (VU X Z G) scope N C M s H) vx tv)(f:X.calm=true:=by rfl)(L:scope.kind=.function:=by rfl)(F:J7 scope X.env.scope.names X.N G=true:=by rfl)(E:swapsWith (.DictComp kx vx [⟨tg,iter,[],0⟩] scope pos) (some<|.Name x0 py) spos.line X.env=pure true:=by rfl)(d:X.fn x0=true\/X.env.scope.names.lookup x0=some .local:=by first|exact .inl Y|exact .inr Y|assumption)(m:∀x,foldedSetIterable iter X.env x=pure x:=by intro _;rfl):
  PS X (.Assign [.Name x0 py] (.DictComp kx vx [⟨tg,iter,[],0⟩] scope pos) spos) (BF (Qu Z.length G wi g tk tv)<|Vm i0):=by
 intro P s U H b I h;exact Im E<|Ff (R:=λJ D l=>Mp J D g tk tv (VY Z.length G U) (λv Q=>Vm i0 v U Q b.nx) l) Z G p L F m I h λN D C M a e J Q n i B w r O=>B.loop f S c k t w (λo H5 z y j q=>Dc u A T d z y j q) r O
end L2
namespace L2
open PySem PySem.Spec PyProof.Rows
section
variable{prog:Program}{w:World}{A:Around}{E:kW}{s:Shared}{Kk:Type}[DecidableEq Kk]{knd:KeyKind prog w Kk}
def Gw{G d:Addr}{i U:Nat}{Z:List (Kk×Value)}{k:Kk}{v:Value}{Q:kW}(J:s.heap.IsKeyIter G d i Z.length U)(z:s.heap.DictAt knd d Z U)(j:Z[i]?=some (k,v))(m:∀N P,knd.is k N=true->P.IsKeyIter G d (i+1) Z.length U->Heap.SameBut G s.heap P->Q N {s with heap:=P}):
  wpAny (model prog w) A (Builtin.SmallTypes.nextOf<|.ref G) Q E s:=by
 obtain⟨o,C,t,S⟩:=id J;obtain⟨g,I,T,q,D,c,y,p⟩:=id z;unfold Builtin.SmallTypes.nextOf;refine Zl (wpAny_callSpecial?_slot (name:=Str.ofString "__next__") J.typeIs jx
  (vo jx J.typeIs F.entry_dict_keyiterator_next ?_<|F.args_dict_keyiterator_next_1 _))
 refine Zl<|Zm ?_;refine Zl ?_;refine Zl ?_
 first|refine Zl (ju J.typeIs<|Zm ?_)|refine Zl<|jO J.typeIs<|Zm ?_
 refine Zl<|wpAny_fieldsOf C S ?_;have R:Builtin.Dict_items.ownsTuple "dict_keyiterator"=false:=by decide
 simp only[R,vY,if_false];show wpAny _ _ (if(Value.ref d==Value.none)=true then _ else _) _ _ s;rw[Zq (show ¬((Value.ref d==Value.none)=true)from Zi)];refine Zl<|Zm ?_;refine Zl<|wpAny_dictEntries T D ?_;have O:I.size=Z.length:=by rw[<-y.length];simp
 rw[Zq (by rw[O];simp)];refine Zl<|Zm ?_;refine Zl<|wpAny_dictEpoch T D ?_;rw[Zq (by simp)];refine Zm ?_
 have X:i<Z.length:=by
  rcases jn i Z.length with h|h
  .exact h
  .simp [qH h]at j
 have L:i<I.size:=by rw[O];exact X
 have B:knd.is k I[i].key=true:=(y.get? (e:=I[i]) (by simp[L]) j).1;simp only[show ¬((i:Int)<0)from by omega,if_false,js,Array.getElem?_eq_getElem L];refine Zl ?_
 first|refine Zl (ju J.typeIs<|Zm ?_)|refine Zl<|jO J.typeIs<|Zm ?_
 refine Zl<|wpAny_isOneOf_keyiter J.typeIs ?_;show wpAny _ _ (setField (.ref G) 1 (rawInt<|(i:Int)+1) >>=_) _ _ s;refine Zl<|kq C S (by simp) ?_
 have M:(s.heap.update G<|Obj.mapFields (·.setIfInBounds 1<|rawInt<|(i:Int)+1)).IsKeyIter G d (i+1) Z.length U:=
  ⟨_,qY _ C<|Obj.isFreed_of_fields<|Obj.data_mapFields S _,(Obj.cls_mapFields ..).trans t,by rw[Obj.data_mapFields S];simp[rawInt]⟩
 refine Zl<|wpAny_holding ?_;refine Zl<|wpAny_isOneOf_keyiter (s:={s with heap:=s.heap.update G (Obj.mapFields (·.setIfInBounds 1<|rawInt<|(i:Int)+1))}) M.typeIs ?_;show wpAny _ _ (pure I[i].key) _ _ _;exact Zm<|Zm ⟨_,rfl,Zm<|m _ _ B M<|Heap.SameBut.update ..⟩
def Tj{O d:Addr}{i U:Nat}{J:List (Kk×Value)}{Q:kW}(D:A.handled=none)(Z:s.heap.IsKeyIter O d i J.length U)(P:s.heap.DictAt knd d J U)(C:J[i]?=none)(y:∀T e,Heap.ExtBut O s.heap T->(∃o,T.get? e=some o/\o.cls=.type "StopIteration")->E (.ref e) {s with heap:=T}):wpAny (model prog w) A (Builtin.SmallTypes.nextOf<|.ref O) Q E s:=by
 obtain⟨o,B,g,I⟩:=id Z;obtain⟨z,S,M,j,N,t,X,q⟩:=id P;unfold Builtin.SmallTypes.nextOf;refine Zl (wpAny_callSpecial?_slot (name:=Str.ofString "__next__") Z.typeIs jx
  (vo jx Z.typeIs F.entry_dict_keyiterator_next ?_<|F.args_dict_keyiterator_next_1 _))
 refine Zl<|Zm ?_;refine Zl ?_;refine Zl ?_
 first|refine Zl (ju Z.typeIs<|Zm ?_)|refine Zl<|jO Z.typeIs<|Zm ?_
 refine Zl<|wpAny_fieldsOf B I ?_;have L:Builtin.Dict_items.ownsTuple "dict_keyiterator"=false:=by decide
 simp only[L,vY,if_false];show wpAny _ _ (if(Value.ref d==Value.none)=true then _ else _) _ _ s;rw[Zq (show ¬((Value.ref d==Value.none)=true)from Zi)];refine Zl<|Zm ?_;refine Zl<|wpAny_dictEntries M N ?_;have G:S.size=J.length:=by rw[<-X.length];simp
 rw[Zq (by rw[G];simp)];refine Zl<|Zm ?_;refine Zl<|wpAny_dictEpoch M N ?_;rw[Zq (by simp)];refine Zm ?_;have R:S.size<=i:=by rw[G];simpa using C
 simp only[show ¬((i:Int)<0)from by omega,if_false,js,Array.getElem?_eq_none R];refine Zl ?_
 first|refine Zl (ju Z.typeIs<|Zm ?_)|refine Zl<|jO Z.typeIs<|Zm ?_
 show wpAny _ _ (setField (.ref O) 0 .none >>=_) _ _ s;refine Zl<|kq B I (by simp) ?_;show wpAny _ _ (newExc (.type "StopIteration") [] >>=_) _ _ _;refine Zl ?_;simp only[newExc,newTuple];refine Zl (vP ?_<|by size_fits);refine Zl (m:=firstArgMember _ _)<|wpAny_of_eq (a:=Value.none) (by first|rfl|(simp only[firstArgMember];rfl)) ?_;refine vP ?_ (by size_fits);simp only[raiseNew];refine Zl (wpAny_handled ?_)
 first|rw[show A.in1.handled=none from D]|rw[D]
 refine Zl<|Zm<|wpAny_throw ?_;exact y _ _ (((Heap.SameBut.update ..).extBut.push _).push _) ⟨_,ZY _ Y,Y⟩
def LW{Z d:Addr}{i P:Nat}{J:List (Kk×Value)}{k:Kk}{v0:Value}{Q:kW}(f:IsEnum s.heap e Z i old)(c:s.heap.IsKeyIter Z d i J.length P)(hm:s.heap.DictAt knd d J P)(hx:J[i]?=some (k,v0))(L:e≠Z)(hQ:∀g x,knd.is k x=true->IsEnumOut g e Z ((i:Int)+1) x s.heap.objs.size->g.IsKeyIter Z d (i+1) J.length P->g.get? s.heap.objs.size=some {cls:=.type "tuple",data:=.seq #[.int i s.toks,x]}->g.objs.size=s.heap.objs.size+1->
   (∀b o,b≠e->b≠Z->s.heap.get? b=some o->g.get? b=some o)->Q (.ref s.heap.objs.size) {s with heap:=g,toks:=s.toks+1}):
  wpAny (model prog w) A (Builtin.«enumerate.__next__» ⟨[.ref e],[]⟩) (λh s'=>∃v,h=.done (.ret v)/\Q v s') E s:=by
 obtain⟨G,g,d',B,os⟩:=s;refine Zl (m:=field (.ref e) 2)<|Zo f rfl (x:=.ref Z) rfl ?_;refine Zl<|Gw c hm hx λx X hk z1 R=>?_;replace R:Heap.SameBut Z G X:=R;have t:IsEnum X e Z i old:=(R.2 e L).trans f;refine Zl (m:=field (.ref e) 3)<|Zo t rfl (x:=rawInt i) rfl ?_;refine Zl (m:=field (.ref e) 4)<|Zo t rfl (x:=.none) rfl ?_;refine Zl (m:=mkInt i)<|wpAny_mkInt ?_;refine Zl (m:=setField (.ref e) 3<|rawInt<|(i:Int)+1)<|vf t (by simp) λC z O=>?_;replace O:Heap.SameBut e X C:=O;replace z:IsEnum C e Z ((i:Int)+1) old:=z;refine Zl (m:=setField (.ref e) 4 .none)<|vf z (by simp) λT y N=>?_;replace N:Heap.SameBut e C T:=N;replace y:IsEnum T e Z ((i:Int)+1) old:=y;refine Zl (m:=newTuple [.int i B,x])<|kB ?_;have j:IsEnum (T.push {cls:=.type "tuple",data:=.seq #[.int i B,x]}) e Z ((i:Int)+1) old:=ZE _ y;generalize q4:T.push {cls:=.type "tuple",data:=.seq #[.int i B,x]}=g4 at j;have D:T.objs.size=G.objs.size:=by rw[N.1,O.1,R.1]
 have el:e<G.objs.size:=ZP f;have t4:g4.get? G.objs.size=some {cls:=.type "tuple",data:=.seq #[.int i B,x]}:=by rw[<-q4,<-D];exact ZY _ Y
 have z4:g4.objs.size=G.objs.size+1:=by rw[<-q4,vK,D]
 have k4:∀b o,b≠e->b≠Z->G.get? b=some o->g4.get? b=some o:=λb o M bi u=>by
  rw[<-q4];exact ZE _<|N.extBut b o M<|O.extBut b o M<|R.extBut b o bi u
 have j4:g4.IsKeyIter Z d (i+1) J.length P:=by
  rw[<-q4];exact z1.at λo ho=>ZE _<|N.extBut _ o (Zs L)<|O.extBut _ o (Zs L) ho
 show wpAny _ _ (Builtin.SmallTypes.ownedTupleIsFree (.ref e) >>=_) _ _ ⟨g4,g,d',B+1,os⟩;rw[D];clear q4 y N z O t R z1 D T C X;refine Zl (m:=Builtin.SmallTypes.ownedTupleIsFree<|.ref e)<|Zl (m:=field (.ref e) 0)<|Zo j rfl (x:=.none) rfl (Zm ?_);simp only[if_true];refine Zl (jD<|Zl<|Zo j rfl (x:=old) rfl (Zl<|vf j (by simp) λl e5 S=>?_));replace S:Heap.SameBut e g4 l:=S;replace e5:IsEnum l e Z ((i:Int)+1) x:=e5;refine Zl (m:=Builtin.SmallTypes.ownedTupleHandOut (.ref e)<|.ref G.objs.size) ?_;simp only[Builtin.SmallTypes.ownedTupleHandOut];refine Zl<|vf e5 (by simp) λr a I=>?_;replace I:Heap.SameBut e l r:=I;replace a:IsEnumOut r e Z ((i:Int)+1) x G.objs.size:=a;refine vf a (by simp) λU n F=>?_;replace F:Heap.SameBut e r U:=F;replace n:IsEnumOut U e Z ((i:Int)+1) x G.objs.size:=n;have p:∀b o,b≠e->g4.get? b=some o->U.get? b=some o:=λb o M q=>F.extBut b o M<|I.extBut b o M<|S.extBut b o M q;refine Zl<|kz<|Zm ⟨_,rfl,hQ U x hk n (j4.at λo q=>p _ o (Zs L) q) (p _ _ (vM el) t4) (by rw[F.1,I.1,S.1,z4]) λb o M bi u=>p b o M<|k4 b o M bi u⟩
end
def An(d:Addr)(o:Obj)(kvs:pj):It:=
 ⟨λi H=>H d=some (.frz o<|.dK kvs)/\i<kvs.length,λi H v J=>∃r Z,v=.ref r/\H r=none/\J=upd H r (.tup [.int (i:Nat),kV Z.1])/\kvs[i]?=some Z,λi H=>H d=some (.frz o<|.dK kvs)/\kvs.length=i⟩
structure EDR(h:Heap)(e it d:Addr)(n ep:Nat)(i:Nat):Prop where
 enu:∃old,IsEnum h e it i old
 one:h.IsKeyIter it d i n ep
def F0{P:Program}{w:World}{K:W.Frag}{j:pI}{x1}{r:Pos}{e L d:Addr}{o:Obj}{N:pj}(n1:e≠L):Turn P w K (.Tuple j x1 r) (An d o N) [e,L] e (λi h=>EDR h e L d N.length (epO o) i) where
 mem:=by simp
 obj:=λi h J b Z=>by
  have q:b=e\/b=L:=by simpa using Z
  rcases q with q|q <;> rw[q]
  .obtain ⟨M,Q⟩:=J.enu
   exact⟨_,Q,λv e=>nomatch e⟩
  .obtain ⟨ob,D,_,hd⟩:=J.one
   exact⟨ob,D,λv z=>by rw[hd]at z;cases z⟩
 keep:=λi h h' J k=>⟨let⟨M,Q⟩:=J.enu;⟨M,k e (by simp) _ Q⟩,J.one.at λo q=>k L (by simp) o q⟩
 item:=by
  intro X hP hw hK f i G s U H E I S J A;subst hP hw hK;obtain⟨R,O,p,_⟩:=I.dict_at A.1;have c:=WZ p;have one:=J.one;rw[c]at one;have hi:i<R.length:=by have z:i<N.length:=A.2;omega
  have hx:R[i]?=some (R[i].1,R[i].2):=ZD hi;obtain⟨v',J2⟩:=DI i _ _ p hx;obtain⟨M,B⟩:=J.enu;have t:e<s.heap.objs.size:=ZP B;have C:s.TypeIs (.ref e) "enumerate":=⟨_,B,rfl⟩;simp only[pyNext];refine Zl (jy (wpAny_callSpecial?_slot (name:=Str.ofString "__next__") C vQ (vo vQ C jZ
   (LW B one O hx n1 λg u1 F D hj ht sz kp=>Zm ?_) (jU _))))
  rw[<-c]at hj;have a:∀b o,b ∉ [e,L]->s.heap.get? b=some o->g.get? b=some o:=λb o Z q=>kp b o (λz=>Z<|by simp[z]) (λz=>Z<|by simp[z]) q;have I1:Inv X G U H {s with heap:=g,toks:=s.toks+1}:=I.turnedL (t':=s.toks+1) a S;have hn:H s.heap.objs.size=none:=I.hok.fresh<|ZG _;exists _,Y;refine wpAny_letOwnedTupleGo_enum (s:={s with heap:=g,toks:=s.toks+1}) D λg2 e2 u=>?_
  have I2:Inv X G U H {s with heap:=g2,toks:=s.toks+1}:=I1.turnedL (s:={s with heap:=g,toks:=s.toks+1}) (t':=s.toks+1) (ch:=[e]) (λb o Z q=>u.extBut b o (λz=>Z<|by simp[z]) q) λb Z=>by
   have q:b=e:=by simpa using Z
   rw[q];exact S e<|by simp
  have l:g2.get? s.heap.objs.size=some {cls:=.type "tuple",data:=.seq #[.int i s.toks,u1]}:=u.extBut _ _ (vM t) ht;have I3:Inv X G U (upd H s.heap.objs.size<|.tup [.int (i:Nat),kV R[i].1]) {s with heap:=g2,toks:=s.toks+1}:=I2.retrack hn (I.fpOk (ZG _) hn) ⟨sl 2,[.int i s.toks,u1],.cons ⟨_,rfl⟩<|.cons (ML F) .nil,⟨_,l,rfl,rfl,_,rfl⟩⟩
  have n:∀b∈ [e,L],b<s.heap.objs.size:=λb Z=>by
   have q:b=e\/b=L:=by simpa using Z
   rcases q with q|q <;> rw[q]
   .exact t
   .obtain ⟨o,q,_⟩:=J.one
    exact ZP q
  refine⟨.ref s.heap.objs.size,_,I3,Y,⟨_,_,Y,hn,Y,J2⟩,?_,λb Z=>?_⟩
  .exact ⟨⟨_,e2⟩,hj.at λo q=>u.extBut _ o (Zs n1) q⟩
  .rw [Yg (Ze<|n b Z)]
   exact(S b Z).1
 done:=by
  intro X hP hw hK f i G s U H E I S J A;subst hP hw hK;obtain⟨R,O,p,_⟩:=I.dict_at A.1;have c:=WZ p;have one:=J.one;rw[c]at one;have hi:N.length=i:=A.2;obtain⟨M,B⟩:=J.enu;have C:s.TypeIs (.ref e) "enumerate":=⟨_,B,rfl⟩;simp only[pyNext];refine Zl<|jy<|wpAny_callSpecial?_slot (name:=Str.ofString "__next__") C vQ<|vo vQ C jZ ?_<|jU _;refine Zl (m:=field (.ref e) 2) (Zo B Y (x:=.ref L) Y (Zl<|Tj (by exact I.ok.hd f) one O (vW.mpr<|by omega) λg y eg ⟨o,D,f⟩=>?_));refine Zl<|jI (T:="StopIteration") (b:=true) ⟨o,D,f⟩ kC<|Zm ⟨rfl,?_⟩
  exact I.turnedL (t':=s.toks) (ch:=[L]) (λb o Z q=>eg b o (λz=>Z<|by simp[z]) q) λb Z=>S b (by
   have q:b=L:=by simpa using Z
   rw[q];simp)
 self:=λ_ _ _ _ _ J h=>let⟨_,Q⟩:=J.enu;qF Q h
section
variable{P:Program}{w:World}{A:Around}{E:kW}{s:Shared}{Kk:Type}[DecidableEq Kk]
abbrev dkI(d:Addr)(n ep:Nat):Obj:={cls:=.type "dict_keyiterator",data:=.fields #[.ref d,.int 0 0,.int n 0,.int ep 0]}
set_option tactic.hygienic true in
def Dh(G:KeyKind P w Kk)(d:Addr)(Z:List (Kk×Value))(M:Nat)(N:(d==sysModules)=false){Q:Fin->Shared->Prop}(L:s.heap.DictAt G d Z M)(h:Q (.done<|.ret<|.ref (s.heap.push<|dkI d Z.length M).objs.size) {s with heap:=(s.heap.push<|dkI d Z.length M).push {cls:=.type "enumerate",data:=.fields #[.none,.bool false,.ref s.heap.objs.size,rawInt 0,.none,.none]}}):
  wpAny (model P w) A (Builtin.«enumerate.__new__» ⟨[.type "enumerate",.ref d],[]⟩) Q E s:=by
 obtain⟨F,g,S,R,B⟩:=s;have O:=sub_enumerate;obtain⟨D,I,J,_⟩:=id L
 wp_walk using AutoSeq1.wpAny_loadPart' J
 refine wpAny_stack_any λT=>Zm ?_
 split
 .rename_i c _ _ _ _ _
  cases(c==Value.type "enumerate") <;> (wp_walk using AutoSeq1.wpAny_loadPart' J,wpAny_pyIter_dict N L;exact h)
 .wp_walk using AutoSeq1.wpAny_loadPart' J,wpAny_pyIter_dict N L
  exact h
end
end L2
namespace L2
open PySem PySem.Spec PyProof.Rows PySem.W
section
variable{prog:Program}{w:World}{A:Around}{E:kW}{s:Shared}{Kk:Type}[DecidableEq Kk]{knd:KeyKind prog w Kk}
def Fj{d:Addr}{Z:List (Kk×Value)}{L:Nat}{Q:kW}(T:(d==sysModules)=false)(B:s.heap.DictAt knd d Z L)(h:∀g,IsEnum g (s.heap.objs.size+1) s.heap.objs.size 0 .none->g.IsKeyIter s.heap.objs.size d 0 Z.length L->(∀c o,s.heap.get? c=some o->g.get? c=some o)->Q (.ref<|s.heap.objs.size+1) {s with heap:=g}):
  wpAny (model prog w) A (call (.type "enumerate") [.ref d]) Q E s:=by
 have O:(s.heap.push<|dkI d Z.length L).objs.size=s.heap.objs.size+1:=vK ..;have M:((s.heap.push<|dkI d Z.length L).push {cls:=.type "enumerate",data:=.fields #[.none,.bool false,.ref s.heap.objs.size,rawInt 0,.none,.none]}).get? (s.heap.push<|dkI d Z.length L).objs.size=some _:=ZY _ rfl;have R:((s.heap.push<|dkI d Z.length L).push {cls:=.type "enumerate",data:=.fields #[.none,.bool false,.ref s.heap.objs.size,rawInt 0,.none,.none]}).IsKeyIter s.heap.objs.size d 0 Z.length L:=⟨_,ZE _<|ZY _ rfl,rfl,rfl⟩;rw[O]at M;refine callType_codes (Q₁:=λG J=>J.TypeIs G "enumerate" /\Q G J) F.called_enumerate (F.typeCall_enumerate_1 _) F.entry_object_init
  (codeAny_call_builtin F.called_enumerate.plain F.entry_enumerate_new<|wpAny_of_eq (F.newCall_enumerate_1 _)<|Dh knd d Z L T B ?_)
  λG J N=>⟨N.1,F.args_object_init_2 G _,object_init_meets F.called_enumerate.init.lookup F.called_enumerate.made (by decide) _ _ _ _ _ ⟨N.1,rfl,N.2⟩⟩
 show _/\_;rw[O];exact⟨⟨_,M,Y⟩,h _ M R λc o q=>ZE _<|ZE _ q⟩
def Mg{T:String}{r d:Addr}{n:Nat}{P:Nat->Value->Prop}{F:Heap->Prop}{Q:List Value->Shared->Prop}(K:KdlSrc prog w T r d n P F)(S:A.handled=none)(L:F s.heap)(I:n<=sizeLine)(h:∀J G Z,(∀b o,s.heap.get? b=some o->J.get? b=some o)->s.heap.objs.size<J.objs.size->ItemsOf P Z n->Q Z.toList {s with heap:=J,toks:=G}):wpAny (model prog w) A (collect<|.ref r) Q E s:=by
 have O:∀R:Result->Shared->Prop,(∀J G Z c,(∀b o,s.heap.get? b=some o->J.get? b=some o)->J.get? s.heap.objs.size=some {cls:=.type "list",dict:=none,data:=.seq Z c,slots:= #[]}->ItemsOf P Z n->R (.ok<|.ret<|.ref s.heap.objs.size) {s with heap:=J,toks:=G})->
   codeAny (model prog w) A (.builtin "proto.collect" ⟨[.ref r],[]⟩) R s:=λR q=>by
  refine jQ entry_proto_collect' ?_;show wpAny _ _ (do again (.builtin "list.__iadd__" ⟨[<-newList [],.ref r],[]⟩)) _ _ s;refine Zl (wpAny_newList<|Zm ⟨Code.quiet_builtin _<|by decide +kernel,jQ entry_list_iadd' ?_⟩);show wpAny _ _ (Builtin.List.listExtendWith (.ref s.heap.objs.size) (.ref r)<|.ref s.heap.objs.size) _ _ {s with heap:=s.heap.push (seqObj "list" #[] 0)};have M:=K.there _ L;rw[Around.under_plainId (by decide +kernel)];exact kdl_extend (A:=A) (R:=R) (s:={s with heap:=s.heap.push (seqObj "list" #[] 0)}) K S (K.keep _ _ L λb _ o e=>ZE _ e) _ (vM M.1) (vM M.2) _ 0 (ZY _ Y)
   (λJ G Z c B N D=>q J G Z c (λb o e=>B b o (Ze<|ZP e)<|ZE _ e) N D) I
 unfold collect;refine Zl<|wpAny_runValue<|O _ λJ G Z c B N D=>?_;show wpAny (model prog w) A (do
   let o <-load s.heap.objs.size
   match o.data with
   |.seq xs _=>pure xs.toList
   |_=>unsupported "internal:collect") Q E {s with heap:=J,toks:=G}
 refine Zl<|wpAny_load N ?_;exact Zm<|h J G Z B (ZP N) D
def BG{T:String}{r d:Addr}{n:Nat}{P:Nat->Value->Prop}{U:Heap->Prop}{ns:pe}{Q:kW}(K:KdlSrc prog w T r d n P U)(j:A.handled=none)(O:U s.heap)(R:n<64)(z:∀Z,ItemsOf P Z n->IntsAre Z.toList ns)(h:∀D B N out J c,s.heap.objs.size<=D->B.get? D=some (seqObj "list" out c)->IntsAre out.toList J->J.Perm ns->J.Pairwise (· <= ·)->(∀b o,s.heap.get? b=some o->B.get? b=some o)->Q (.ref D) {s with heap:=B,toks:=N}):
  wpAny (model prog w) A (call (.builtin "sorted") [.ref r]) Q E s:=by
 refine Calls.call_function_entry kind_sorted plain_sorted entry_sorted (args_sorted1 _) ?_;unfold Builtin.«sorted»;refine Zl (m:=checkCount "sorted" 1 1 _)<|Zm ?_;refine Zl<|Mg K (by exact j) O (by rw[q0];omega) λM N Z I C S=>?_;have X:Z.toList.length=n:=by rw[j3];exact S.1
 have F:∀b o,s.heap.get? b=some o->b<M.objs.size:=λb o e=>ZP<|I b o e;refine Zl<|wpAny_newList ?_;show wpAny _ _ _ _ _ {s with heap:=M.push<|seqObj "list" Z.toList.toArray 0,toks:=N};have G:(M.push<|seqObj "list" Z.toList.toArray 0).get? M.objs.size=some (seqObj "list" Z.toList.toArray 0):=ZY _ rfl;have L:Z.toList.length<64:=by rw[X];exact R
 refine Zl<|wpAny_holding<|vo slot_list_sort ⟨_,G,rfl⟩ entry_list_sort (list_sort_tree G (z Z S) L λout J g t q=>⟨_,rfl,?_⟩)<|args_list_sort _;obtain⟨c,y⟩:=sortedHeap_at (vs:=Z.toList) (out:=out) G;refine Zm ⟨_,Y,h _ _ _ out J c ?_ y g t q λb o e=>?_⟩
 .exact Zh C
 .show (sortedHeap _ _ _ _).get? b=_
  rw[sortedHeap_old (Ze<|F b o e) (by rw[size_push'];exact jN<|F b o e)];exact ZE _<|I b o e
end
def AS(ta:TA):TI:=λU H R=>ta U H λG J=>∃d o Z,G=[.ref d]/\J d=some (.frz o<|.dK Z)/\R (An d o Z) J
def Iw(y:Gl X "enumerate")(j:X.mg "enumerate"=none)(m:PA X [a] ta)(Q:starEach [a] X.env=[(false,eval a X.env)]:=by rfl):PI X (.Tuple elts x1 tpos) (.Call (.Name "enumerate" p) [a] [] pos) (AS ta):=by
 intro J s U H R I h;refine Call_ (J6 I y j Tc<|vq (thn (m pos J s U H _ I h) λc Z ⟨D,B,L,A,M⟩=>?_) (by rw[Q];rfl)<|by rfl);obtain⟨d,o,C,e,M,q⟩:=M;subst e;obtain⟨u,rfl,F⟩:=vals1 A;cases F;obtain⟨D,N,E,S⟩:=L.dict_at M;refine Fj S N λg T O P=>?_;rw[<-WZ E]at O;refine qF (s:={Z with heap:=g}) T ?_;have k:Inv X J U B {Z with heap:=g}:=L.kept (t':=Z.toks) P;refine⟨_,[Z.heap.objs.size+1,Z.heap.objs.size],_,_,B,Y,k,F0<|Nat.succ_ne_self _,⟨⟨_,T⟩,O⟩,λb t=>?_,q⟩
 have G:Z.heap.objs.size<=b:=by
  have z:b=Z.heap.objs.size+1\/b=Z.heap.objs.size:=by simpa using t
  rcases z with z|z <;> rw[z] <;> first|exact ZG _|exact vR _ _
 exact L.fpOk G<|L.hok.fresh G
theorem NS:∀(J:pe)(Z:kX),Vals (J.map V.int) Z->IntsAre Z J
 |[],Z,h=>by cases h;exact .nil
 |k::J,Z,h=>by
  cases h with
  |cons L G=>
   obtain⟨t,rfl⟩:=L;exact .cons _ _<|NS J _ G
theorem Nt:∀(J:pe)(Z:kX),IntsAre Z J->Vals (J.map V.int) Z
 |_,_,.nil=>.nil
 |_,_,.cons _ _ h=>.cons ⟨_,rfl⟩<|Nt _ _ h
def Mi(hc:X.calm=true):UA X (.builtin "sorted") (λS H Q=>∃(a:Addr)(kvs:pj)(G:pe),S=[.ref a]/\Rd H a (.dK kvs)/\kvs.map (λE=>kV E.1)=G.map V.int/\kvs.length<64/\∀(T:pe)(l:Addr),T.Perm G->T.Pairwise (· <= ·)->H l=none->Q (.ref l) (upd H l<|.lst<|T.map V.int)):=by
 intro z s U H S us Q I r h;obtain⟨a,kvs,G,rfl,ha,m,B,q⟩:=h;obtain⟨u,rfl,p⟩:=vals1 r;cases p;obtain⟨hz,d,C,P,n⟩:=Xy I.hok ha;obtain⟨ep,A⟩:=n.dictAt;have Z:=P.length;refine BG (ns:=G) (W.kdl_dict (knd:=Y7 X.prog X.w) (kvs:=C) (ep:=ep) d) (I.ok.hd hc) A (by rw[<-Z];exact B) (λJ2 M=>NS G _ ?_) λD h' tk O R c t e hI L w i=>?_
 .rw [<-m]
  obtain⟨b,L⟩:=M;refine Up (by simp[b,Z]) λj x u N e2=>?_;obtain⟨k,y,v,F⟩:=L j u (by rw[<-jT];exact e2);rw[ZH]at N
  cases hkv:kvs[j]? with
  |none=>rw[hkv]at N;cases N
  |some E=>
   rw[hkv]at N;cases N;have J:=P.keys;have g:(kvs.map (·.1))[j]?=(C.map (·.1))[j]?:=by rw[J]
   rw[ZH,ZH,hkv,v]at g;have e4:E.1=k:=ZT g;exact ML (by rw[e4];exact F)
 .have hv:=Nt _ _ hI
  have f:=hv.length;rw[ZA,L.length_eq]at f
  have l2:G.length=kvs.length:=by
   have:=congrArg List.length m;rw[ZA,ZA]at this;exact this.symm
  exact⟨.ref D,_,I.laid (o:=.lst<|R.map V.int) i t ⟨by rw[ZA,L.length_eq,q0];omega,O.toList,c,hv,by rw[Array.toArray_toList];exact e⟩,rfl,q _ _ L w<|I.hok.fresh t⟩
end L2
namespace L2
open PySem PySem.Spec PyProof.Rows
end L2
namespace L2
open PySem PySem.Spec PyProof.Rows PySem.W
def L3(K:W.Frag)(l:Addr)(xs:px):It:=⟨λi H=>SqL K H l xs/\i<xs.length,λi H x Z=>Z=H/\xs[xs.length-1-i]?=some x,λi _=>xs.length=i⟩
def E1{P:Program}{w:World}{K:W.Frag}{t:Expr}{l:Addr}{J:px}(M:Addr):Turn P w K t (L3 K l J) [M] M (λi h=>h.IsRevIter M l<|(J.length:Int)-1-(i:Int)) where
 mem:=by simp
 obj:=λi h Z b N=>by
  have e:b=M:=by simpa using N
  subst e;obtain⟨o,e,c,d⟩:=Z;exact⟨o,e,λv z=>by rw[d]at z;cases z⟩
 keep:=λi h R Z k=>Z.at λo e=>k M (by simp) o e
 item:=by
  intro X D T F q i G s U H E I O Z B;subst D T F;obtain⟨n,a⟩:=B;obtain⟨f,y,p,hz⟩:=I.list n;have hl:=y.length;obtain⟨u,r,g⟩:=y.get (ZD (show J.length-1-i<J.length by omega));obtain⟨j,Q,f2,C,S,A⟩:=O M (by simp);rw[show(J.length:Int)-1-(i:Int)=((J.length-1-i:Nat):Int) by omega]at Z;refine wpAny_pyNext_rev_item Z p.isList (x:=u) (by simpa using r) λR L m=>?_;rw[show((J.length-1-i:Nat):Int)-1=(J.length:Int)-1-((i+1:Nat):Int) by omega]at L;have I1:Inv X G U H {s with heap:=R}:=I.turned (t':=s.toks) (λb o N e=>(m.2 b N).trans e) j Q C S A;obtain⟨o,e,c,d⟩:=id L;exact⟨u,Y,Eh (s:={s with heap:=R}) e c d (by decide) ⟨_,H,I1,g,⟨Y,ZD _⟩,L,λb N=>(O b N).1⟩⟩
 done:=by
  intro X D T F q i G s U H E I O Z B;subst D T F;obtain⟨j,Q,f2,C,S,A⟩:=O M (by simp);have a:J.length=i:=B;rw[show(J.length:Int)-1-(i:Int)= -1 by omega]at Z;exact wpAny_pyNext_rev_end (I.ok.hd q) Z λR eb=>⟨Y,I.turned (t':=s.toks) (λb o N e=>eb b o N e) j Q C S A⟩
 self:=λ_ _ _ _ _ Z h=>wpAny_pyIter_revIter Z h
def zH(K:W.Frag)(ta:TA):TI:=λU H R=>ta U H λG J=>∃l Z,G=[.ref l]/\SqL K J l Z/\R (L3 K l Z) J
def Oi(F:Gl X "reversed")(E:X.mg "reversed"=none)(P:PA X [a] ta)(A:starEach [a] X.env=[(false,eval a X.env)]:=by rfl):PI X tg (.Call (.Name "reversed" p) [a] [] pos) (zH X.K ta):=by
 intro J s U H R I h;refine Call_<|J6 I F E boot_reversed<|vq (thn (P pos J s U H _ I h) λy Z ⟨j,Q,L,B,D⟩=>?_) A rfl;obtain⟨l,G,e,S,q⟩:=D;subst e;obtain⟨u,rfl,T⟩:=vals1 B;cases T;obtain⟨M,O,p,z⟩:=L.list S;have t:=O.length;refine call_reversed_list p.isList ?_;have e:((M.toArray.size:Nat):Int)-1=(G.length:Int)-1-((0:Nat):Int):=by simp;omega
 rw[e];have N:(Z.heap.push<|revObj l<|(G.length:Int)-1-((0:Nat):Int)).IsRevIter Z.heap.objs.size l ((G.length:Int)-1-((0:Nat):Int)):=⟨_,ZY _ rfl,rfl,rfl⟩;refine wpAny_pyIter_revIter (s:={Z with heap:=Z.heap.push (revObj l<|(G.length:Int)-1-((0:Nat):Int))}) N ⟨Z.heap.objs.size,[Z.heap.objs.size],_,_,Q,rfl,L.kept (t':=Z.toks) λb o e=>ZE _ e,E1 _,N,λb C=>?_,q⟩;have e:b=Z.heap.objs.size:=by simpa using C
 subst e;exact L.fpOk (ZG _)<|L.hok.fresh<|ZG _
def Pj{K:PySem.W.Frag}{l:Addr}{xs:px}{g:TG}{O:TS}{D:Ends}{U:St}{H:Hp}(Z:pB)(X:Z 0 U H)(I:∀i U H,i<=xs.length->Z i U H->SqL K H l xs)(A:∀(B:pC)(R:VK) i x U H,i<xs.length->xs[xs.length-1-i]?=some x->Z i U H->g x U H fun σ2 M=>O {nx:=Z<|i+1,rt:=R,bk:=B,ct:=Z (i+1)} σ2 M)(S:∀U H,Z xs.length U H->D.nx U H):
  ∃W:Nat->Nat->St->Hp->Prop,(∃m,W 0 m U H)/\∀i m U H,W i m U H->
   ((L3 K l xs).stop i H/\D.nx U H)\/((L3 K l xs).go i H/\∃N:pC,(∀L J,N L J->∃T,T<m/\W (i+1) T L J)/\∀x J,(L3 K l xs).yld i H x J->g x U J fun σ2 M=>O {D with nx:=N,ct:=N,bk:=D.nx} σ2 M):=by
 exists λi m U H=>i<=xs.length/\m=xs.length-i/\Z i U H,⟨_,Zc _,Y,X⟩;rintro i m U H ⟨C,P,G⟩
 by_cases z:i=xs.length
 .subst z
  exact .inl ⟨Y,S _ _ G⟩
 .refine .inr ⟨⟨I i U H C G,by omega⟩,Z<|i+1,λL J p=>⟨xs.length-(i+1),by omega,by omega,rfl,p⟩,?_⟩
  rintro x J ⟨rfl,F⟩;exact A D.nx D.rt i x U _ (by omega) F G
end L2
namespace L2
open PySem
def Ei:Bd->Prop
 |.pair _ _=>False
 |.one _=>False
 |.other _=>False
 |_=>True
def ND(G:∀k∈(L:pF),∃Z,k.2=.tags Z):Vk L a b≠some z:=λe=>by
 unfold Vk at e;obtain⟨k,J,_⟩:=Zj.mp e;have p:=List.find?_some J;obtain⟨Z,M⟩:=G k<|vp J;rw[M]at p;unfold JB at p;cases p
def ED(J:∀k∈(G:pF),∃Z,k.2=.tags Z):Vf G y≠some (.pair a b):=λe=>by
 obtain⟨i,L⟩:=IT e;obtain⟨Z,M⟩:=J _<|ZJ L;cases M
def KH(L:∀k∈(M:pF),∃N,k.2=.tags N)(e:own M R O b G=some z):Ei b:=by
 have Z:(none:Option Str)=some z->False:=λq=>by cases q
 cases b with
 |pair x y=>
  match G,e with
  |[a,b],e=>exact ND L e
  |[],e=>exact Z e
  |[_],e=>exact Z e
  |_::_::_::_,e=>exact Z e
 |one x=>
  match G,e with
  |[y],e=>
   have J:(match Vf M y with|some (.pair a _)=>some a|_=>none)=some z:=e
   split at J
   .rename_i h
    exact ED L h
   .exact Z J
  |[],e=>exact Z e
  |_::_::_,e=>exact Z e
 |other x=>
  match G,e with
  |[y],e=>
   have J:(match Vf M y with|some (.pair _ b)=>some b|_=>none)=some z:=e
   split at J
   .rename_i h
    exact ED L h
   .exact Z J
  |[],e=>exact Z e
  |_::_::_,e=>exact Z e
 |_=>trivial
def K2(e:kdn G L (n+1) J b=some z):¬Xe G J b/\∃Z,b.parts.map (kdn G L n<|wth J b)=Z.map some/\own G L J b Z=some z:=by
 unfold kdn at e
 split at e
 .cases e
 .rename_i h
  obtain⟨Z,N,M⟩:=Option.bind_eq_some_iff.mp e;exact⟨h,Z,RS N,M⟩
end L2
namespace K4
open PySem L2
section
variable{f g C CK:Addr}
inductive SKS(C CK:Addr)(n:Nat)(H:Hp)(Q:VK):List V->Prop
 |mk (t a:Addr) (v:V) (ks:List (Str×Shp)) (c d:Str->Nat) (ds:List Dd) (kv:List (Key×V)) (b:Bd) (z:Str) (bi:BI H C CK t ks d ds) (kk:KK 30 c d ks) (tg:∀k∈ks,∃ts,k.2=.tags ts) (hk:HK (ks.map (·.1)) (Jt (ds.map (·.1)))) (nk:NK (ks.map (·.1)) kv) (pl:∀x∈ds,x.1.2.1.length<=3) (ha:Rd H a (.dK kv)) (kl:kv.length+b.dep<=500) (hv:Has H v b.dat) (ok:b.ok) (kd:kdn ks (Jt (ds.map (·.1))) n kv b=some z)
  (q:∀r H',Same H H'->H' r=some (.tup [.str z,.non])->Q (.ref r) H'):SKS C CK n H Q [.ref t,.ref a,v]
def Tr(C CK:Addr)(n:Nat):Sp:=λZ H Q _=>SKS C CK n H Q Z
def S3(B:Blt Z)(me:Z "enumerate"=none)(TB:BCl K C)(TC:KCl K CK)(F:Fun K "kind_or_place" "kind_or_place" sKP f fd)(G:Yf P w K Z base CX0 (L+3) f fd wps (Tr C CK n))(bG:Binds K fd wps [])(mG:Z "kind_or_place"=some (.ref f))(m1:VN K C "kinds" g1)(G1:Yf P w K Z base CX0 (L+3) g1 d1 ["self"] (J0 C CK))(b1:Binds K d1 ["self"] [])(m2:VN K CK "names" g2)(G2:Yf P w K Z base CX0 (L+3) g2 d2 ["self"] (XA CK))(b2:Binds K d2 ["self"] [])(DP:Df P w K Z base (L+3) "parts" ["body"] Xk)(mU:Z "RULES"=some (.ref aR))(hM:base.MapOf (Y7 P w) aR mR)(hR:∀b:Bd,Ei b->(∀e ts bs,b=.choose e ts bs->1<=bs.length)->∃(g:Addr)(gd:FuncData)(p:Bd->Prop),mR (Sum.inr b.word)=some (.ref g)/\Yf P w K Z base CX0 (L+3) g gd rps (GQ C CK p)/\p b/\W.keepIn K (.ref g)=true/\Binds K gd rps []):
  Yf P w K Z base CX0 (L+3+1) f fd wps (Tr C CK<|n+1):=by
 refine F.oi Ti λI1 A D1 s H vs Q E X h=>?_;obtain⟨t,a,v,J,c,d,ds,O,b,z,bi,kk,tg,hk,nk,pl,ha,kl,hv,R,kd,q⟩:=h;have hu:=V7 X;have DG:Df P w K Z base (L+3) "kind_or_place" ["book","around","body"] (Tr C CK n):=⟨f,fd,mG,F.kp,bG,G⟩;refine⟨_,YZ (Yw 3 Ti.nd<|pv 1)
  (YZ (Y5 (Yp Vl (Ys Yy (pv 2) Yc) Y0<|Yz _)
   (YZ (Y5 (PW.pt<|UH (Jh<|U0 hu (Ys Yy (pv 2) Yc)<|pv 1)<|Jg<|Yp Jb (Ys Yy (pv 2) Yc) (Vo (Vo (pv 0) TB.cl m1 G1 X b1 .nil Y1) TC.cl m2 G2 X b2 .nil Y1) rfl) VT Yo)
   (YZ (Yw 3 Ti.nd<|Ve Dp rfl B.dict Uh (pa1<|pv 1))
   (Yb<|Vs hu (pv 3) (Ys Yy (pv 2) Yc) (Ys Yy (pv 2) Yc) rfl))) Yo)
  (YZ (Yw 4 Ti.nd<|Vg VR)
  (YZ (V5 Zv rfl (W0 rfl me (pa1<|Vc DP X<|pa1<|pv 2)) (Vb (n:=2) rfl (Yl (Yj 5 Ti.nd)<|Yl (Yj 6 Ti.nd) VJ))
   (YZ (Ji (Vc DG X<|pa3 (pv 0) (pv 3)<|pv 6)<|Vb (n:=2) rfl (Yl (Yj 7 Ti.nd)<|Yl (Yj 8 Ti.nd) VJ))
   (YZ (Y5 (Yp Gr (pv 7) JJ<|Yz _) VT Yo)
   (Yb<|VW<|Js Zz Z0 Z1 Vn (pv 4)<|pa1<|pv 7))))
  (YZ (Yw 9 Ti.nd<|Ol rfl mU hM hu (Ys Yy (pv 2) Yc) (λ_ _=>rfl))
  (YZ (Yw 7 Ti.nd<|KE (pv 9) X Y1<|pa4 (pv 0) (pv 1) (pv 2)<|pv 4)
  (YZ (Y5 (Yp Gr (pv 7) JJ<|Yz _) VT Yo)
  (Yb<|Yn<|Yq<|pa2 (pv 7) JJ))))))),?_⟩
 dsimp only[Vh,Cx.nox,Cx.wish];show let T0:=_;let T1:=Yk (VG _ _ _) T0;let T2:=Yk _ T1;let T3:=Yk _ T2;let T4:=_;let T5:=Yk (VG _ _ _) T4;let T6:=Yk _ T5;let T7:=Yk (UX _ _ T6) T3;let T8:=Yk _ T7;let T9:=_;let F6:=Yk _ T9;let F5:=Yk (VG _ _ _) F6;let F4:=Yk (VG _ F5 _) T8;Yk _ F4 _ _ _
 intros
 obtain⟨nb,zs,ez,eo⟩:=K2 kd;have fb:=KH tg eo;obtain⟨bt,ys,rfl,hb⟩:=LJ hv;have F9:=Bd.few R;have a0:atI (V.str b.word::ys) 0=some (.str b.word):=VC (j:=0) rfl;have J2:=nk.wth nb;refine EE Y ?_;refine XC (λU' H1=>∃y,Same H H1/\Rd H1 y (.dK<|wth O b)/\U'=[some (.ref t),some<|.ref a,some<|.ref bt,some<|.ref y,none,none,none,none,none,none]) ?_ ?_
 .rintro U' H1 ⟨y,M,hw,rfl⟩
  refine⟨sl 0,λfl R1=>?_⟩;refine up_in R1 _ λH2 s2 g2=>?_;refine⟨.ref bt,b,Y,(hv.mono M).mono s2,R,λu H3 s3 D3=>?_⟩;obtain⟨pa,xs,rfl,M2,G3⟩:=Yr D3;have lx:=G3.length;rw[Z9,ZA]at lx;have lz:=congrArg List.length ez;rw[ZA,ZA]at lz;exists pa,true,xs,Y,Z2 M2
  let I:pB:=λi U S=>Same H1 S/\S pa=some (.tup xs)/\HasL S xs (Bd.dats b.parts)/\S fl=some (.lst<|(zs.take i).map V.str)/\∃z5 z6 z7 z8,U=[some (.ref t),some<|.ref a,some<|.ref bt,some<|.ref y,some<|.ref fl,z5,z6,z7,z8,none]
  refine Ma (tp:=true) (xs:=xs) I ⟨s2.trans s3,M2,G3,s3 _ _ g2,_,_,_,_,Y⟩ (λi U S _ z=>Z2 z.2.1) ?_ ?_
  .rintro BB RR i x U S r hx ⟨si,hai,hxi,hfi,z5,z6,z7,z8,rfl⟩ hr'
   refine up_in hr' _ λHR sR gR=>?_;obtain⟨dd,R6,F2⟩:=hxi.get hx;rw[Z9,ZH]at R6;obtain⟨c',hc,rfl⟩:=Zj.mp R6;have R7:=ZJ hc;have dc:=Bd.dep_mem R7;have il:=(ZF.mp hc).1;have wl:=L6 O b;have D0:=(M.trans si).trans sR;have ei:=congrArg (λl:List (Option Str)=>l[i]?) ez;simp only[ZH,hc]at ei;obtain⟨zk,hz,ek⟩:=Zj.mp ei.symm;exists _,Z2 gR,Y;refine⟨t,y,x,J,c,d,ds,wth O b,c',zk,bi.mono D0,kk,tg,hk,J2,pl,hw.same<|si.trans sR,by omega,F2.mono sR,Bd.ok_parts R c' R7,ek.symm,λr2 H4 s4 h4=>?_⟩;refine⟨_,Z2 h4,Y,Y,_,Y,Y6 (by simp) ?_⟩;have T:=s4 _ _<|sR _ _ hfi;refine⟨.inl ⟨Y,_,Z3 T⟩,fl,_,_,Y,Y,T,Yv (by rw[ZA,ZN];omega),?_⟩;refine fld_in fl _ λH5 b5 g5=>?_;have tk:=V6 b5 T;refine⟨J5 R1 ((si.trans sR).trans s4) b5,tk _ _<|s4 _ _<|sR _ _ hai,W5 tk _ (Bd.sts _)<|(hxi.mono sR).mono s4,?_,_,_,_,_,rfl⟩;rw[take_snoc hz,ZK];exact g5
  .rintro U S ⟨si,hai,hxi,hfi,z5,z6,z7,z8,rfl⟩
   rw[Zg (by omega)]at hfi;have o:=M.trans si
   obtain⟨gr,F3,pr,r1,r2,r3,r4,r5⟩:=hR b fb (λe' F7 I3 eb=>by
    subst eb;unfold Bd.ok at R;rw[R.2.1];exact R.2.2.1.1)
   have mz:∀z∈zs,z∈J.map (·.1):=λz hz=>by
    have m:some z∈b.parts.map (kdn J (Jt<|ds.map (·.1)) n<|wth O b):=by rw[ez];exact ZW.mpr ⟨z,hz,Y⟩
    obtain⟨p,_,e⟩:=ZW.mp m;exact Ec kk hk n _ p z J2 e
   exists _,_,Z2<|o _ _ hb,a0,Sum.inr b.word,_,.ref gr,rfl,r1,rfl;refine⟨gr,F3,rps,GQ C CK pr,Y,r2,r4,r5,t,a,fl,.ref bt,J,c,d,ds,O,b,zs,Y,bi.mono o,kk,nk,pl,ha.same o,hv.mono o,R,r3,hfi,lz.symm,mz,λH5 s5=>?_⟩;rw[eo];refine⟨Y,_,Y,Y6 (by simp[KL]) ⟨sl 2,λr6 F1=>?_⟩⟩;exact q r6 _ ((o.trans s5).trans<|Yu F1 _) Yh
 .intro N key
  exists _,_,Z2 hb,a0,Y,_,Y
  cases b with
  |letb x k e g=>
   obtain⟨I2,u1,u2,e1,D⟩:=Ef hv;cases e1;obtain⟨A',kt,rfl,b'⟩:=id bi;refine VP (decide_eq_true Y) ?_;exists _,_,Z2 D,Y,_,.inl ⟨O,Sum.inr x,ha,Y,Y⟩,_,Y;have kn:¬(VB O<|Sum.inr x).isSome=true:=λz=>nb<|.inl z;have km:k∈J.map (·.1):=Classical.not_not.mp λm=>nb<|.inr m;refine Y6 (by simpa using kn) ?_;refine⟨_,_,Z2 D,Y,_,_,b'.ins,Y,A'.t,J,d,ds,Y,bi,λso ki=>?_⟩;obtain⟨AK,SK,rfl,D2,F8⟩:=id ki;refine⟨_,_,D2.ins,Y,AK.t,J,d,Y,ki,λl H1 M hl g1=>?_⟩;have el:(J.map λk=>V.str k.1)=(J.map (·.1)).map V.str:=by rw[vm];rfl
   rw[el]at g1;exists l,_,Y,.inl<|Z3 g1,rfl,Jx _,_,rfl;rw[UR];refine Y6 (by simp only[if_true,qi,decide_eq_false_iff_not,Classical.not_not];exact km) ?_;refine⟨a,O,Y,ha.same M,λl2 O1=>?_⟩;refine up_in O1 _ λH2 s2 g2=>?_;have R8:=s2 _ _<|M _ _ D;refine⟨_,_,Z2 R8,Y,_,_,Z2 R8,Y,_,UU.k (k:=Sum.inr x) g2<|Yv<|by omega,?_⟩;exact key _ _ ⟨l2,(M.trans s2).putN<|M.free O1,.inl Yh,rfl⟩
  |pair _ _=>exact fb.elim
  |one _=>exact fb.elim
  |other _=>exact fb.elim
  |_=>exact Y6 (λz=>by have z1:=Zt z;injection z1 with z2;exact Zr z2 (by dsimp only[Bd.word];decide +kernel))<|key _ _ ⟨a,Z8 _,ha,rfl⟩
theorem SV(L:Nat)(F:RA P w K G base C CK M "tag" λb=>∃t,b=.tag t)(E:RA P w K G base C CK M "name" λb=>∃x,b=.name x)(D:RA P w K G base C CK M "choose" λb=>∃e J Z,b=.choose e J Z/\1<=Z.length)(B:RA P w K G base C CK M "ask" λb=>∃N O,b=.ask N O)(T:RA P w K G base C CK M "let" λb=>∃x k e g,b=.letb x k e g):
  ∀b:Bd,Ei b->(∀e J Z,b=.choose e J Z->1<=Z.length)->∃(g:Addr)(R:FuncData)(p:Bd->Prop),M (Sum.inr b.word)=some (.ref g)/\Yf P w K G base CX0 (L+3) g R rps (GQ C CK p)/\p b/\W.keepIn K (.ref g)=true/\Binds K R rps []
 |.tag t,_,_=>F.at L rfl ⟨t,rfl⟩
 |.name x,_,_=>E.at L rfl ⟨x,rfl⟩
 |.choose e J Z,_,h=>D.at L rfl ⟨e,J,Z,rfl,h e J Z rfl⟩
 |.ask N O,_,_=>B.at L rfl ⟨N,O,rfl⟩
 |.letb x k e g,_,_=>T.at L rfl ⟨x,k,e,g,rfl⟩
 |.pair _ _,z,_=>z.elim
 |.one _,z,_=>z.elim
 |.other _,z,_=>z.elim
theorem Kz(B:Blt Z)(J:Z "enumerate"=none)(z:BCl K C)(y:KCl K CK)(F:Fun K "kind_or_place" "kind_or_place" sKP f I)(U:Binds K I wps [])(M:Z "kind_or_place"=some (.ref f))(O:VN K C "kinds" u)(t:Yf P w K Z base CX0 3 u r ["self"] (J0 C CK))(j:Binds K r ["self"] [])(N:VN K CK "names" d)(q:Yf P w K Z base CX0 3 d v ["self"] (XA CK))(X:Binds K v ["self"] [])(m:Df P w K Z base 3 "parts" ["body"] Xk)(G:Z "RULES"=some (.ref l))(D:base.MapOf (Y7 P w) l c)(T:∀(L:Nat)(b:Bd),Ei b->(∀e k S,b=.choose e k S->1<=S.length)->∃(g:Addr)(A:FuncData)(p:Bd->Prop),c (Sum.inr b.word)=some (.ref g)/\Yf P w K Z base CX0 (L+3) g A rps (GQ C CK p)/\p b/\W.keepIn K (.ref g)=true/\Binds K A rps []):
  ∀n,Yf P w K Z base CX0 (n+3) f I wps<|Tr C CK n
 |0=>.none λo H Q E h=>by
  obtain⟨_,_,_,_,_,_,_,_,_,_,_,_,_,_,_,_,_,_,_,_,R,_⟩:=h;unfold kdn at R;cases R
 |n+1=>(S3 (L:=n) B J z y F (Kz B J z y F U M O t j N q X m G D T n) U M O (t.mono<|by omega) j N (q.mono<|by omega) X (m.up<|by omega) G D<|T n).mono<|by omega
end
section
variable{f g C CK N fI:Addr}
structure DRt(ks:List (Str×Shp))(ds:List Dd)(x:Dd):Prop where
 ok:vH x
 kd:kdn ks (Jt (ds.map (·.1))) 13 (kvP x.1.2.1) x.2=some x.1.2.2
inductive SBK(C CK:Addr)(H:Hp)(Q:VK):List V->Prop
 |mk (A:BA) (kv:List (Key×V)) (ks:List (Str×Shp)) (c d:Str->Nat) (ds:List Dd) (bd:BD H C CK A kv ks d ds) (kg:KG ks) (tg:∀k∈ks,∃ts,k.2=.tags ts) (kk:KK 30 c d ks) (k6:ks.length<=6) (ho:∀x∈ds,P7 (ks.map (·.1)) c 50 x.1) (dok:∀x∈ds,DRt ks ds x) (q:∀H',Same H H'->Q .non H'):SBK C CK H Q [.ref A.t]
def SB(C CK:Addr):Sp:=λZ H Q _=>SBK C CK H Q Z
def AC(B:Blt X)(me:X "enumerate"=none)(TB:BCl K C)(F:Fun K "check_bodies" "Book.check_bodies" R5 f fd)(mH:VN K C "names" g)(GH:Yf P w K X base CX0 n g gd ["self"] (Ut C CK))(bH:Binds K gd ["self"] [])(DK:Df P w K X base n "kind_or_place" ["book","around","body"] (Tr C CK 13)):Yf P w K X base CX0 (n+1) f fd ["self"] (SB C CK):=by
 refine F.oi Jn λR8 A m s H vs Q E hr h=>?_;obtain⟨D,kv,ks,c,d,j,bd,kg,tg,kk,k6,ho,M2,q⟩:=h;have hu:=V7 hr;refine⟨_,Yb (V5 Zv Y (W0 Y me (pa1<|Vo (pv 0) TB.cl mH GH hr bH .nil Y1)) (Vb (n:=2) rfl (Yl (Yj 1 Jn.nd)<|Yl (Yj 2 Jn.nd) VJ))
   (YZ (Ji (Vt hu (Yt (pv 0) rfl) (pv 2) λ_ _=>rfl)<|Vb (n:=3) rfl (Yl (Yj 3 Jn.nd)<|Yl (Yj 4 Jn.nd)<|Yl (Yj 5 Jn.nd) VJ))
   (YZ (Ji (Vc DK hr<|pa3 (pv 0) (Ve (Wg rfl) rfl B.dict Uh (pa1<|pv 3))<|pv 5)<|Vb (n:=2) rfl (Yl (Yj 6 Jn.nd)<|Yl (Yj 7 Jn.nd) VJ))
   (YZ (Y5 (Yp Gr (pv 6) JJ<|Yz _) (Yb JV) Yo)
   (Yb<|Y5 (Yp UO (pv 6) (pv 4)<|Yz _) (Yb JV) Yo))))),?_⟩
 dsimp only[Vh,Cx.nox,Cx.wish];show let T0:=_;let T1:=VG _ T0 _;let T2:=_;let T3:=Yk (VG _ T2 _) T1;let T4:=Yk _ T3;let T5:=Yk _ T4;UX _ _ T5 _ _ _
 intros
 show let a:=_;let b:=VG _ a _;let c:=_;let d:=Yk (VG _ c _) b;let e:=Yk _ d;let f:=Yk _ e;UX _ _ f _ _ _
 intros
 refine⟨_,_,bd.ins,zN _,D.t,ks,d,j,Y,⟨D,kv,Y,bd⟩,λnl H1 s1 R1 R=>?_⟩;exists nl,false,_,Y,Z3 R
 let I:pB:=λi U T=>Same H1 T/\∃(z1 z2 z3 z4 z5 z6 z7:pD),U=[some (.ref D.t),z1,z2,z3,z4,z5,z6,z7]
 refine Ma (tp:=false) (xs:=j.map λx=>V.str x.1.1) I ⟨Z8 _,_,_,_,_,_,_,_,Y⟩ (λi U T _ z=>Z3<|z.1 _ _ R) ?_ ?_
 .rintro BB' RR i x U T r hx ⟨si,z1,z2,z3,z4,z5,z6,z7,rfl⟩ hr'
  rw[ZH]at hx
  cases hc:j[i]? with
  |none=>rw[hc]at hx;cases hx
  |some Z=>
   rw[hc]at hx;cases hx;have hm:=ZJ hc;have p:=ho Z hm;have S:=M2 Z hm;refine up_in hr' _ λHR sR gR=>?_;have bdR:=bd.mono<|(s1.trans si).trans sR;obtain⟨v,e1,e2⟩:=bdR.at hm;obtain⟨ta,u,wv,rfl,G1,O,J2⟩:=Xv e2;exists _,Z2 gR,Y;exists C,_,_,_,bdR.ins,TB.cl,TB.td,FW _,_,e1;exists _,Z2 G1,Y;unfold psD at O;obtain⟨l,xp,rfl,hl,M⟩:=Yr O;obtain⟨tp,rfl,G⟩:=Io (K:=K) M;replace G:L1 K HR tp (kvP Z.1.2.1):=G;have O1:(kvP Z.1.2.1).length=Z.1.2.1.length:=ZA _;have J:=p.nd
   have o:((kvP Z.1.2.1).map (·.1)).Nodup:=by
    unfold kvP;rw[vm];unfold List.Nodup at J |-;rw[qe]at J |-;exact J.imp λG2 q=>G2<|Sum.inr.inj q
   refine⟨l,tp,_,Y,hl,G,o,λaA G3=>?_⟩;refine up_in G3 _ λH3 t g3=>?_;have l3:=p.len;have R7:=S.ok.dep;have R6:=S.ok.size;refine⟨D.t,aA,wv,ks,c,d,j,kvP Z.1.2.1,Z.2,Z.1.2.2,⟨D,kv,Y,bdR.mono t⟩,kk,tg,λf ps k e=>?_,λq' hq=>?_,λy L=>(ho y L).len,.inl g3,by omega,J2.mono t,S.ok.ok,S.kd,λr4 H4 s4 h4=>?_⟩
   .obtain ⟨y,L,e'⟩:=ZW.mp<|Ee e
    have:=(ho y L).own;rw[e']at this;exact this
   .obtain ⟨pr,hpr,rfl⟩:=ZW.mp hq
    exact⟨pr.1,pr.2,Y,p.kin pr hpr⟩
   exists _,Z2 h4,Y;refine⟨Y,_,Y,Y6 (by simp) ?_⟩;refine⟨Y,_,Y,Y6 (by simp) ?_⟩;exact⟨((si.trans sR).trans t).trans s4,_,_,_,_,_,_,_,Y⟩
 .rintro U T ⟨si,_⟩
  exact q T<|s1.trans si
inductive SBN(C CK:Addr)(H:Hp)(Q:VK):List V->Prop
 |mk (x dx kl dl:Addr) (xs zs:List V) (ks:List (Str×Shp)) (c d:Str->Nat) (ds:List Dd) (hx:H x=some (.ins C dx [])) (hkl:H kl=some (.lst xs)) (hxs:HasL H xs (ks.map NQ)) (kk:KK 30 c d ks) (nd:(ks.map (·.1)).Nodup) (kg:KG ks) (tg:∀k∈ks,∃ts,k.2=.tags ts) (k0:0<ks.length) (k6:ks.length<=6) (hdl:H dl=some (.lst zs)) (hzs:HasL H zs (ds.map Ws)) (d0:0<ds.length) (d8:ds.length<=8) (wd:Wds 97 (ds.map λx=>x.1.1)) (ho:∀x∈ds,P7 (ks.map (·.1)) c 50 x.1) (dok:∀x∈ds,DRt ks ds x)
  (q:∀H',(∀b o,b≠x->H b=some o->H' b=some o)->BI H' C CK x ks d ds->Q .non H'):SBN C CK H Q [.ref x,.ref kl,.ref dl]
def SA(C CK:Addr):Sp:=λZ H Q _=>SBN C CK H Q Z
def AB(hm:m+1<=n)(L:BCl K C)(F:Fun K "__init__" "Book.__init__" Bj f fd)(D0:Mk K CK gi)(mC:mg "Kinds"=some (.ref CK))(GI:Yf P w K mg base CX0 m gi M2 ["self","told"] (BJ CK))(bI:Binds K M2 ["self","told"] [])(m1:VN K C "take_heads" g1)(G1:Yf P w K mg base CX0 n g1 d1 ["self","definitions"] (IR C CK))(b1:Binds K d1 ["self","definitions"] [])(m2:VN K C "check_bodies" g2)(G2:Yf P w K mg base CX0 n g2 d2 ["self"] (SB C CK))(b2:Binds K d2 ["self"] []):
  Yf P w K mg base CX0 (n+1) f fd ["self","kinds","definitions"] (SA C CK):=by
 refine F.oi OX λD3 A J2 s H vs Q E hr h=>?_;obtain⟨x,J,kl,dl,xs,zs,U,c,d,ds,hx,R7,R1,kk,nd,kg,tg,k0,k6,T5,O1,d0,d8,wd,ho,T6,q⟩:=h;have R6:Vr (m+1) _:=hr.mono hm;refine⟨_,YZ (VZ (pv 0) (Uc D0 GI R6 Y mC bI .nil Y1 (pa1<|pv 1)) rfl)
  (YZ (VZ (pv 0) Vp rfl) (YZ (VZ (pv 0) Vp rfl) (YZ (VZ (pv 0) Vp rfl)
  (YZ (VW<|Y3 (pv 0) L.cl m1 G1 hr b1 .nil Y1<|pa1<|pv 2)
  (Yb<|VW<|Vo (pv 0) L.cl m2 G2 hr b2 .nil Y1))))),?_⟩
 dsimp only[Vh,Cx.nox,Cx.wish];show let T0:=_;let T1:=Yk _ T0;let T2:=Yk _ T1;let T3:=Yk _ T2;let T4:=Yk _ T3;Yk _ T4 _ _ _
 intros
 refine λt R ht R8 D2=>?_;have tx:upd (upd H R<|.own t) t (.ins CK R []) t=some (.ins CK R []):=Yh;have l:Same H (upd (upd H R<|.own t) t<|.ins CK R []):=λb o e=>by rw[Yg (Ya e ht),Yg (Ya e R8)];exact e
 generalize upd (upd H R<|.own t) t (.ins CK R [])=H7 at tx l |-;have D1:x≠t:=Ya hx ht;refine⟨t,R,kl,xs,U,c,d,Y,tx,l _ _ R7,R1.mono l,kk,nd,kg,tg,k0,k6,λZ f8 G3=>⟨Y,?_⟩⟩;have s8:Same H Z:=λb o e=>f8 b o (Ya e ht)<|l b o e;have x8:=s8 _ _ hx;refine⟨x,C,J,_,Y,x8,L.cl,L.so,by decide,?_⟩;have u:upd Z x (.ins C J<|VX "sorts" (.ref t) []) x=some (.ins C J<|VX "sorts" (.ref t) []):=Yh;have i:∀b o,b≠x->Z b=some o->upd Z x (.ins C J<|VX "sorts" (.ref t) []) b=some o:=λb o n e=>by rw[Yg n];exact e
 generalize upd Z x (.ins C J<|VX "sorts" (.ref t) [])=H9 at u i |-;intro S B;refine⟨x,C,J,_,Y,by rw[Yg (Ya u B)];exact u,L.cl,L.td,(by show 1<1000;decide),?_⟩;obtain⟨r,a1,n1,r1⟩:=Je (f:="told") (o:=.dK []) u B;generalize upd (upd H9 S<|.dK []) x (.ins C J<|VX "told" (.ref S)<|VX "sorts" (.ref t) [])=H1 at r a1 r1 |-;intro X O;refine⟨x,C,J,_,Y,by rw[Yg (Ya r O)];exact r,L.cl,L.rd,(by show 2<1000;decide),?_⟩;obtain⟨v,a2,n2,r2⟩:=Je (f:="rows") (o:=.dK []) r O;generalize upd (upd H1 X<|.dK []) x (.ins C J<|VX "rows" (.ref X)<|VX "told" (.ref S)<|VX "sorts" (.ref t) [])=H2 at v a2 r2 |-;intro p3 j;refine⟨x,C,J,_,Y,by rw[Yg (Ya v j)];exact v,L.cl,L.tn,(by show 3<1000;decide),?_⟩;obtain⟨x3,a3,n3,a⟩:=Je (f:="turns") (o:=.dK []) v j;generalize upd (upd H2 p3<|.dK []) x (.ins C J<|VX "turns" (.ref p3)<|VX "rows" (.ref X)<|VX "told" (.ref S)<|VX "sorts" (.ref t) [])=H3 at x3 a3 a |-
 let T:BA:=⟨x,J,t,S,X,p3⟩
 have M:∀{b:Addr}{o:HO},Xo Z x b=some o->b≠x/\Z b=some o:=λ{b o} h=>by
  unfold Xo at h
  by_cases e:b=x
  .rw [Zp e]at h;cases h
  .rw [Zq e]at h;exact⟨e,h⟩
 have fr:∀b o,b≠x->Z b=some o->H3 b=some o:=λb o n e=>a b o n<|r2 b o n<|r1 b o n<|i b o n e;have sm:Same (Xo Z x) H3:=λb o h=>fr b o (M h).1 (M h).2
 have free:∀p:Addr,(∀o,p≠x->Z p=some o->False)->Xo Z x p=none:=λp h=>by
  cases e:Xo Z x p with
  |none=>rfl
  |some o=>exact(h o (M e).1 (M e).2).elim
 have T9:=r2 _ _ n1 a1;have T8:=a _ _ n1 T9;have T7:=a _ _ n2 a2;have bb:BB (Xo Z x) H3 C CK T U d:=⟨x3,sm,G3.out x8,free S λo n e=>(by have:=i _ _ n e;rw[B]at this;cases this),free X λo n e=>(by have:=r1 _ _ n<|i _ _ n e;rw[O]at this;cases this),Ya a1 O,Zs n1,Zs n2⟩;have bt:BT H3 T [] [] U []:=⟨T8,T7,rfl,Z6,(λy hy=>nomatch hy),ZG _⟩;have D:∀{b:Addr}{o:HO},H b=some o->o≠.ins C J []->Xo Z x b=some o:=λ{b o} h n=>By (Jc h hx n)<|s8 _ _ h;have tl:TL H (Xo Z x):=⟨λb xs h=>D h (by intro z;cases z),λb xs h=>D h (by intro z;cases z)⟩;refine⟨_,_,x3,yp T,Xo Z x,T,dl,zs,U,c,d,ds,Y,bb,bt,kk,k6,D T5 (by intro z;cases z),HasL.tl tl _ O1,d0,d8,wd,ho,λH4 kv rv G I=>?_⟩;have k:BD H4 C CK T kv U d ds:=⟨G.ins,G.so.mono G.sm,I.td,I.ke,I.va,wd.nd⟩;refine⟨_,_,G.ins,yu T,T,kv,U,c,d,ds,k,kg,tg,kk,k6,ho,T6,λH5 s5=>?_⟩;exact q H5 (λb o n e=>s5 _ _<|G.sm _ _<|By n<|s8 _ _ e) ⟨T,kv,rfl,k.mono s5⟩
end
end K4
namespace L2
open PySem PySem.Spec PyProof.Rows PySem.W
def CU:R2:=λx y H Q=>∃b c,x=.bl b/\y=.bl c/\Q (.bl<|b !=c) H
def FG:OpR X (compareOp .IsNot) CU:=by
 intro Z s U H x y v u Q I G J h;obtain⟨b,c,rfl,rfl,q⟩:=h;cases G;cases J;exact isnot_bool<|VL I q rfl
end L2
namespace L2
open PySem PySem.Spec PyProof.Rows
def yz(K:W.Frag)(n:Nat)(t:TGs):TG:=λv U H Q=>V9 v λa=>∃Z,SqL K H a Z/\Z.length=n/\t Z U H Q
def Si(F:X.calm=true)(h:PGs X M t)(D:(assignEach M X.env).length=n:=by rfl)(L:(assignEach M X.env).findIdx? (·.1)=none:=by rfl):PG X (.Tuple M k pos) (yz X.K n t):=by
 intro Z s U H v u Q I r J;replace J:=V9.old J;obtain⟨a,C,O,B,E,J⟩:=J;subst C;cases r;obtain⟨G,N,T,j⟩:=I.list B;rw[assign_Tuple];refine Zl<|vU ?_;unfold unpack;have S:n=G.toArray.size:=by rw[ZO,<-E,N.length]
 rw[D,L,S];refine Zl<|wpAny_holding<|W.kun_itemsOf (I.ok.hd F) T.isList λA R=>?_;have P:Inv X Z U H {s with heap:=A}:=I.kept (t':=s.toks) λb o e=>R b o (Ze<|ZP e) e;exact h Z _ U H O _ Q P (by simpa using N) J
end L2
namespace L2
open PySem
def QL(R:(M.map λx:Dd=>x.1.1).Nodup)(h:x∈M):KF M x.1.1 N->N=x.1.2.1.map (·.1):=by
 rintro⟨y,O,e,rfl⟩;obtain⟨i,J⟩:=vj.mp h;obtain⟨j,Z⟩:=vj.mp O;have L:=(ZF.mp J).1;have G:=(ZF.mp Z).1;have n:=vV.mp R
 have:i=j:=by
  rcases kH i j with q|q|q
  .exact Zr (by rw[jC,jC,(ZF.mp J).2,(ZF.mp Z).2];exact e.symm) (n i j (by rw[ZA];exact L) (by rw[ZA];exact G) q)
  .exact q
  .exact Zr (by rw[jC,jC,(ZF.mp J).2,(ZF.mp Z).2];exact e) (n j i (by rw[ZA];exact G) (by rw[ZA];exact L) q)
 subst this;rw[J]at Z;cases Z
 rfl
def Ds(b:Bd):b.at []=some b:=by unfold Bd.at;rfl
def JI(l:kZ)(j:Nat):Str:=(l[j]?).getD<|Str.ofString ""
def Re{l:kZ}(h:j<l.length):l[j]?=some (JI l j):=by unfold JI;rw[ZD h];rfl
theorem IA:∀l:kZ,Bd.sizes (l.map Bd.tag)=l.length
 |[]=>by simp[Bd.sizes]
 |a::l=>by rw[ZV];unfold Bd.sizes;rw[IA l];simp[Bd.size];omega
structure RP where
 ns:List Str
 tg:List Str
 kd:Str
 own:Str
 m:Nat
 lk:Nat->Bool
def inR(R:RP)(k:Nat):Bd:=if k<R.m then .ask (JI R.ns<|k+1) [.name R.own]else .name R.own
def lkR(R:RP)(k:Nat):Bool:=decide (R.m≠0) && R.lk k
def Dn(R:RP)(b:Bd):Bd:=.choose b R.tg<|R.tg.map Bd.tag
def bdR(R:RP)(k:Nat):Bd:=if lkR R k=true then Dn R (inR R k)else inR R k
def d0R(R:RP):Dd:=((JI R.ns 0,[],R.kd),.letb R.own R.kd (inR R 0)<|.name R.own)
def dkR(R:RP)(k:Nat):Dd:=((JI R.ns k,[(R.own,R.kd)],R.kd),bdR R k)
def rdR(R:RP):List Dd:=d0R R::(List.range R.m).map λk=>dkR R<|k+1
def pR(R:RP)(k:Nat):pe:=if k=0 then[0]else if lkR R k=true then[0]else[]
def nR(R:RP):Nat:=max R.m 1
def csR(R:RP)(k:Nat):List Mk1:=(List.range k).map λj=>(j,pR R j)
def btR(R:RP):Nat->Dat
 |0=>.tup []
 |k+1=>.tup [btR R k,Jy (pR R k)]
def nxR(R:RP)(k:Nat):Nat:=if k<R.m then k+1 else 1
abbrev ro0:Rho:=SY [] 0
abbrev ro1(R:RP):Rho:=XO [R.own] [.cell 1]
def stR(R:RP)(k:Nat):Sta:=if R.m=0 then⟨JI R.ns 0,[0],UB ro0 R.own<|.cell 1⟩else⟨JI R.ns k,[],ro1 R⟩
def dfR(R:RP)(k:Nat):Dd:=if R.m=0 then d0R R else dkR R k
structure RK(R:RP)(ds:List Dd):Prop where
 n8:R.ns.length=8
 m7:R.m<=7
 t1:1<=R.tg.length
 t4:R.tg.length<=4
 tn:R.tg.Nodup
 fn:(ds.map λx=>x.1.1).Nodup
 d0:d0R R∈ds
 dk:∀k,1<=k->k<=R.m->dkR R k∈ds
 ok:∀x∈ds,x.2.ok
def JQ:(csR R k).length=k:=by unfold csR;rw[ZA,ve]
def Nf:csR R (k+1)=csR R k++[(k,pR R k)]:=by unfold csR;rw[vT,ZK];rfl
def Pu(h:c∈csR R k):c.1<k:=by
 obtain⟨j,Z,rfl⟩:=ZW.mp h;exact vt.mp Z
def Lm(h:j<k):(csR R k)[j]?=some (j,pR R j):=by unfold csR;rw[ZH,vS h];rfl
def B7(h:J9 (csR R k) (k,pR R k) n L):n=k+1/\L=csR R (k+1):=by
 rcases h with⟨i,G,_⟩|⟨_,Z,J⟩
 .have:=Pu<|ZJ G
  exact Zr this<|vy _
 .rw [JQ]at Z
  rw[Nf];exact⟨Z,J⟩
def B6(J:j<k)(h:J9 (csR R k) (j,pR R j) n L):n=j+1/\L=csR R k:=by
 rcases h with⟨i,Z,M,G⟩|⟨Z,_⟩
 .have i1:=(ZF.mp Z).1
  rw[JQ]at i1;rw[Lm i1]at Z;have e:i=j:=congrArg Prod.fst<|ZT Z;exact⟨by omega,G⟩
 .exact Zr (ZJ<|Lm J) Z
theorem Al:∀{n k:Nat},k<=n->bD (csR R n) k=btR R k
 |0,k,h=>by
  obtain rfl:k=0:=by omega
  rfl
 |n+1,k,h=>by
  have Z:=Xg<|csR R n;rw[JQ]at Z;unfold bD;rw[Nf,U7,vg]
  by_cases z:k<=n
  .rw [vd (by omega),<-vg]
   exact Al z
  .obtain rfl:k=n+1:=by omega
   rw[vb (by omega),Z,vO];show Dat.tup [(Vq<|csR R n).getD n (.tup []),Jy (pR R n)]=.tup [btR R n,Jy (pR R n)];rw[show(Vq<|csR R n).getD n (.tup [])=btR R n from Al (ZG n)]
def OI(R:RP)(k:Nat):(stR R k).ρ R.own=some (.cell 1):=by
 unfold stR
 split
 .show UB _ _ _ _=_
  unfold UB;rw[Zp rfl]
 .simp [XO]
def Rf(h:R.m≠0):stR R k=⟨JI R.ns k,[],ro1 R⟩:=by unfold stR;rw[Zq h]
def Mb(R:RP)(J:1<=k)(Z:k<=nR R):(dfR R k).1.1=(stR R k).f/\(dfR R k).2.at (stR R k).pl=some (bdR R k)/\(stR R k).pl.length<=1:=by
 unfold dfR stR
 by_cases z:R.m=0
 .rw [Zp z,Zp z]
  refine⟨Y,?_,ZG _⟩
  have e:bdR R k=inR R 0:=by
   unfold bdR lkR inR;simp[z]
  rw[e];exact Bd.at_snoc [] (Ds _) (by decide) Y
 .rw [Zq z,Zq z]
  exact⟨Y,Ds _,Zc _⟩
def Ek(K:RK R G)(J:1<=k)(Z:k<=nR R):dfR R k∈G:=by
 unfold dfR;unfold nR at Z
 split
 .exact K.d0
 .exact K.dk k J (by omega)
def lR(R:RP)(k:Nat):List WEn:=if lkR R k=true then[(Dn R<|inR R k,(stR R k).pl,(stR R k).ρ)]else[]
def sR(R:RP)(k:Nat)(cs':List Mk1)(s:Ss):Ss:=if k<R.m then(cs',stP s.2 (k+1)<|stR R<|k+1)else s
def NU(R:RP)(k:Nat):(inR R k).size<=2:=by unfold inR;split <;> simp[Bd.size,Bd.sizes]
def Ay{ρ:Rho}(K:RK R D)(z:k<R.m)(T:b.at pl=some (.ask (JI R.ns<|k+1) [.name R.own]))(G:ρ R.own=some (.cell 1))(U:∀n E,J9 s.1 (num,pl) n E->n=k+1/\E=cs')(h:TAp D F b num ρ (n+2) pl s th I):
  th=.cell (k+1)/\I=(cs',stP s.2 (k+1)<|stR R<|k+1):=by
 unfold TAp at h;obtain⟨c,Z,M⟩:=h;rw[T]at Z;cases Z;obtain⟨y,Q,P,X,J,N,j,t,p,C⟩:=M;obtain⟨rfl,rfl⟩:=U _ _ P;obtain rfl:=QL K.fn (K.dk (k+1) (by omega)<|by omega) p;have A:Thr _ (0+1) _ J N:=t
 cases A with
 |snoc h e=>
  cases h;have L:b.at (pl++[((0:Nat):Int)])=some (.name R.own):=Bd.at_snoc pl T (by decide) rfl;have B:TAp D F b num ρ (n+1) (pl++[((0:Nat):Int)]) _ _ N:=e;unfold TAp at B;obtain⟨c,Z,M⟩:=B;rw[L]at Z;cases Z;obtain⟨O,S⟩:=M;rw[G]at O;cases O;rw[C,S,Rf (by omega)];exact⟨X,Y⟩
def Sw{ρ:Rho}(K:RK R G)(k:Nat)(Z:ρ R.own=some (.cell 1)):OkT G ρ (n+2) (inR R k):=by
 unfold inR
 split
 .unfold OkT
  refine⟨⟨_,K.dk (k+1) (by omega)<|by omega,rfl,rfl,(by show 1<=3;decide),by simp[dkR]⟩,λa J=>?_⟩;rw[ZQ]at J;subst J;unfold OkT;exact⟨_,Z⟩
 .unfold OkT
  exact⟨_,Z⟩
def LK{ρ:Rho}{l:List WEn}(K:RK R B)(M:b.at pl=some (inR R k))(J:ρ R.own=some (.cell 1))(T:k<R.m->∀n N,J9 s.1 (num,pl) n N->n=k+1/\N=cs')(S:s.1.length<=500)(A:pl.length<=10)(I:l.length<=10):
  ∃m,Gos B gs F b num 8 m (.body pl ρ) l s (.want<|nxR R k) l (sR R k cs' s):=by
 have L:=NU R k;unfold nxR sR
 by_cases z:k<R.m
 .rw [Zp z,Zp z]
  have Z:b.at pl=some (.ask (JI R.ns<|k+1) [.name R.own]):=by rw[M];unfold inR;rw[Zp z]
  have G:=Sw (n:=7) K k J;unfold inR at G L;rw[Zp z]at G L;refine⟨_,.ask Z G (by omega) (by omega) (by omega) (m:=1) λD E O=>?_⟩;obtain⟨rfl,rfl⟩:=Ay K z Z J (T z) O;exact .thC .stopW
 .rw [Zq z,Zq z]
  have Z:b.at pl=some (.name R.own):=by rw[M];unfold inR;rw[Zq z]
  exact⟨_,.name Z J (by omega) (by omega) (by omega)<|.thC .stopW⟩
def go1(K:RK R D)(B:1<=k)(T:k<=nR R)(L:k<R.m->∀n N,J9 s.1 (k,pR R k) n N->n=k+1/\N=cs')(M:s.1.length<=500):
  ∃m,Gos D gs (stR R k).f (dfR R k).2 k 8 m (.body (stR R k).pl (stR R k).ρ) [] s (.want<|nxR R k) (lR R k) (sR R k cs' s):=by
 obtain⟨I,Z,A⟩:=Mb R B T;have J:=OI R k;have E:=NU R k;unfold lR;unfold bdR at Z
 by_cases z:lkR R k=true
 .rw [Zp z]at Z |-
  have O:R.m≠0:=λy=>by unfold lkR at z;simp[y]at z
  have G:(stR R k).pl++[0]=pR R k:=by rw[Rf O];unfold pR;rw[Zq (by omega),Zp z];rfl
  obtain⟨m,g⟩:=LK (gs:=gs) (F:=(stR R k).f) (num:=k) (cs':=cs') (pl:=(stR R k).pl++[0]) (l:=[]++[(Dn R<|inR R k,(stR R k).pl,(stR R k).ρ)]) K (Bd.at_snoc _ Z (by decide) rfl) J (by rw[G];exact L) M (by rw[ZL,vc];omega) (by simp);refine⟨_,.push Z ?_ (by omega) (by show 0<=400;omega) g⟩;unfold Bd.size;rw[IA];have:=K.t4;omega
 .rw [Zq z]at Z |-
  refine LK K Z J (λy=>?_) M (by omega) (by show 0<=10;omega);have G:(stR R k).pl=pR R k:=by rw[Rf (by omega)];unfold pR;rw[Zq (by omega),Zq z]
  rw[G];exact L y
def go2{j:Nat}{Z:Str}(K:RK R O)(M:1<=k)(L:k<=nR R)(J:R.tg[j]?=some Z)(T:s.1.length<=500):∃m,Gos O gs (stR R k).f (dfR R k).2 k 8 m (.head Z) (lR R k) s (.head Z) [] s:=by
 obtain⟨E,G,D⟩:=Mb R M L;unfold lR;unfold bdR at G
 by_cases z:lkR R k=true
 .rw [Zp z]at G |-
  have B:=(ZF.mp J).1
  have N:(dfR R k).2.at ((stR R k).pl++[1+(j:Int)])=some (.tag Z):=by
   refine Bd.at_snoc _ G (by omega) ?_;show(_::_)[(1+(j:Int)).toNat]?=_;rw[show(1+(j:Int)).toNat=j+1 by omega];show(R.tg.map Bd.tag)[j]?=_;rw[ZH,J]
   rfl
  exact⟨_,.cho (l:=[]) K.tn (by have:=K.t4;omega) (by rw[ZA]) J (by omega)<|.tag N (by omega) (by rw[ZL,vc];omega) (by show 0<=400;decide) .stopH⟩
 .rw [Zq z]
  exact⟨_,.stopH⟩
def s0R(R:RP)(cs':List Mk1)(s:Ss):Ss:=(cs',stP s.2 1<|stR R 1)
def go0(K:RK R E)(j:∀n X,J9 s.1 (0,[0]) n X->n=1/\X=cs')(w:s.1.length<=500)(q:cs'.length<=500):∃m,Gos E gs (JI R.ns 0) (d0R R).2 0 8 m (.body [] ro0) [] s (.want 1) [] (s0R R cs' s):=by
 have D:(d0R R).2.at []=some (d0R R).2:=Ds _;have B:(d0R R).2.at ([]++[0])=some (inR R 0):=Bd.at_snoc [] D (by decide) rfl;have T:(d0R R).2.at ([]++[1])=some (.name R.own):=Bd.at_snoc [] D (by decide) rfl;have u:=NU R 0;have L:∀k,UB ro0 R.own (.cell k) R.own=some (.cell k):=λk=>by unfold UB;rw[Zp rfl]
 have N:∀k,OkT E (UB ro0 R.own<|.cell k) (8+1) (inR R 0):=λk=>by
  unfold inR
  split
  .unfold OkT
   refine⟨⟨_,K.dk 1 (by omega)<|by omega,rfl,rfl,(by show 1<=3;decide),by simp[dkR]⟩,λa S=>?_⟩;rw[ZQ]at S;subst S;unfold OkT;exact⟨_,L k⟩
  .unfold OkT
   exact⟨_,L k⟩
 have f:(inR R 0).cellB\/inR R 0=.name R.own:=by
  unfold inR
  split
  .exact .inl trivial
  .exact .inr rfl
 refine⟨_,.letb (m:=2) D f N (by simp only[Bd.size];omega) (by show 0+8<=400;omega) (by show 0<=400;omega) λk G A O Z=>?_⟩;obtain⟨rfl,rfl⟩:=j _ _ O
 have e:A=s0R R G s:=by
  unfold s0R
  by_cases z:0<R.m
  .unfold inR at Z
   rw[Zp z]at Z;obtain⟨M,F,v,t,p,g⟩:=Z;obtain rfl:=QL K.fn (K.dk 1 (by omega)<|by omega) p;have P:Thr _ (0+1) _ M F:=t
   cases P with
   |snoc h e=>
    cases h;have J:(d0R R).2.at ([]++[0]++[((0:Nat):Int)])=some (.name R.own):=Bd.at_snoc _ B (by decide) (by unfold inR;rw[Zp z];rfl);have C:TAp E (JI R.ns 0) (d0R R).2 0 (UB ro0 R.own<|.cell 1) (7+1) ([]++[0]++[((0:Nat):Int)]) _ _ F:=e;unfold TAp at C;obtain⟨c,U,d⟩:=C;rw[J]at U;cases U;obtain⟨I,Q⟩:=d;rw[L]at I;cases I;rw[g,Q,Rf (by omega)]
    rfl
  .unfold inR at Z
   rw[Zq z]at Z;have y:R.m=0:=by omega
   rw[show A=_ from Z];unfold stR;rw[Zp y]
   rfl
 rw[e];exact .name T (L 1) (by show G.length+1<=_;omega) (by show 1+8<=400;omega) (by show 0<=400;omega)<|.thC .stopW
def btL(R:RP):pE:=(List.range<|nR R).map λk=>btR R<|k+1
structure WI(R:RP)(k:Nat)(S:WSt):Prop where
 u:S.u.map (·.k)=List.range k
 r:S.r.map (·.1)=List.range k
 h:S.h=[]
 bg:S.bg=k
 wc:S.wc=k
 s:S.s.1=csR R k
 st:S.s.2 k=some (stR R k)
def WI.ok(i:WI R k S)(h:k<=100):((∀e∈S.u,e.k∈S.r.map (·.1))/\S.r.length<=900/\S.wc<=9000)/\S.u.length<=9000:=by
 have J:=congrArg List.length i.u;have Z:=congrArg List.length i.r;rw[ZA,ve]at J Z;have w:=i.wc;refine⟨⟨λe G=>?_,by omega,by omega⟩,by omega⟩;rw[i.r,<-i.u];exact j5 G
def Tw(K:RK R Z):nR R<=7:=by have:=K.m7;unfold nR;omega
theorem EI(K:RK R N)(L:50<=mo):∀(d k:Nat)(S:WSt),nR R-k=d->1<=k->k<=nR R->WI R k S->∃j,Wlk N gs mo 8 (btL R) j k S
 |d,k,S,hd,hk,hn,i=>by
  have q:=Tw K;have O:=i.ok (by omega);have F:k∉S.r.map (·.1):=by rw[i.r,vt];exact vy _
  have sl:S.s.1.length=k:=by rw[i.s,JQ]
  obtain⟨m,g⟩:=go1 (gs:=gs) (cs':=csR R<|k+1) (s:=S.s) K hk hn (λ_ n p T=>by rw[i.s]at T;exact B7 T) (by omega);obtain⟨y,_,_⟩:=Mb R hk hn;have B:=Ek K hk hn;have b:=i.bg;have Z:∀l:List WEn,(S.u++[(⟨k,(stR R k).f,(dfR R k).2,l⟩:UE)]).map (·.k)=List.range (k+1):=λl=>by rw[ZK,i.u,vT];rfl
  have G:(S.r++[(k,Ul S.u)]).map (·.1)=List.range (k+1):=by rw[ZK,i.r,vT];rfl
  let M:UE:=⟨k,(stR R k).f,(dfR R k).2,lR R k⟩
  have J:∀j,Wlk N gs mo 8 (btL R) j (nxR R k) {upW k S with u:=S.u++[⟨k,(stR R k).f,(dfR R k).2,lR R k⟩],bg:=S.bg+1,s:=sR R k (csR R<|k+1) S.s}->∃j,Wlk N gs mo 8 (btL R) j k S:=λj w=>by
   exists j+1;unfold Wlk;refine⟨i.h,O.1,O.2,.go (stR R k) (dfR R k) m _ _ _ F i.st B y (K.ok _ B) (by omega) (by omega) g ?_ w⟩;unfold sR
   split
   .show S.s.1.length<=(csR R<|k+1).length
    rw[JQ];omega
   .exact ZG _
  by_cases z:k<nR R
  .have zm:k<R.m:=by unfold nR at z;omega
   have w:WI R (k+1) {upW k S with u:=S.u++[⟨k,(stR R k).f,(dfR R k).2,lR R k⟩],bg:=S.bg+1,s:=sR R k (csR R<|k+1) S.s}:=by
    exists Z _,G,i.h,by show S.bg+1=_;omega,by show S.wc+1=_;rw[i.wc],?_
    .show (sR R k (csR R<|k+1) S.s).1=_
     unfold sR;rw[Zp zm]
    .show (sR R k (csR R<|k+1) S.s).2 (k+1)=_
     unfold sR;rw[Zp zm];show stP _ _ _ _=_;unfold stP;rw[Zp rfl]
   match d,hd with
   |d+1,hd=>
    obtain⟨j,E⟩:=EI K L d (k+1) _ (by omega) (by omega) (by omega) w;refine J j ?_;rw[show nxR R k=k+1 from Zp zm];exact E
   |0,hd=>exact Zr hd<|by omega
  .have zm:¬k<R.m:=by unfold nR at z;omega
   have Q:k=nR R:=by omega
   refine J 1 ?_;rw[show nxR R k=1 from Zq zm];have P:sR R k (csR R<|k+1) S.s=S.s:=by unfold sR;rw[Zq zm]
   rw[P];have D:=i.wc;have A:=congrArg List.length<|Z<|lR R k;rw[ZA,ve]at A;have I:=congrArg List.length G;rw[ZA,ve]at I;unfold Wlk;refine⟨i.h,⟨λe X=>?_,by show(S.r++ _).length<=900;omega,by show S.wc+1<=9000;omega⟩,by show(S.u++ _).length<=9000;omega,.ring 1 ?_ ?_ (λj u t C=>?_) ?_⟩
   .show e.k∈(S.r++[(k,Ul S.u)]).map (·.1)
    rw[G,<-Z (lR R k)];exact j5 X
   .show 1∈(S.r++[(k,Ul S.u)]).map (·.1)
    rw[G,vt];omega
   .show ((S.u++[M]).map (·.k))[1]?=_
    rw[Z,vS (by omega)]
   .have hu':((S.u++[M]).map (·.k))[j]?=some u:=C
    rw[Z,vS (by omega)]at hu';have:=ZT hu';omega
   .have e:((S.u++[M]).drop 1).map (λe=>bD S.s.1 e.k)=btL R:=by
     rw[show(λe:UE=>bD S.s.1 e.k)=bD S.s.1 ∘ (·.k)from rfl,<-vm,List.map_drop,Z,qz,List.drop_one,List.tail_cons,vm,i.s];unfold btL;rw[<-Q];refine j6 λx U=>?_;have:=vt.mp U;exact Al (by show x+1<=k;omega)
    exact e
def SX(K:RK R M)(Z:50<=mo):∃j,Wlk M gs mo 8 (btL R) j 0 (S0 (JI R.ns 0)<|MA<|d0R R):=by
 obtain⟨m,g⟩:=go0 (gs:=gs) (cs':=csR R 1) (s:=([],Xi (JI R.ns 0)<|MA<|d0R R)) K (λn N G=>B7 (R:=R) (k:=0) G) (Zc _) (by rw[JQ];decide)
 have w:WI R 1 {upW 0 (S0 (JI R.ns 0)<|MA<|d0R R)with u:=[]++[⟨0,JI R.ns 0,(d0R R).2,[]⟩],bg:=0+1,s:=s0R R (csR R 1) ([],Xi (JI R.ns 0)<|MA<|d0R R)}:=by
  exists Y,Y,Y,Y,Y,Y;show stP (Xi (JI R.ns 0)<|MA<|d0R R) 1 (stR R 1) 1=_;unfold stP;rw[Zp rfl]
 obtain⟨j,J⟩:=EI (gs:=gs) K Z _ 1 _ rfl (ZG _) (by unfold nR;omega) w;exists j+1;unfold Wlk;refine⟨Y,⟨λe L=>(by cases L),Zc _,Zc _⟩,Zc _,.go ⟨JI R.ns 0,[],ro0⟩ (d0R R) m _ _ _ (by show 0 ∉ [];simp) ?_ K.d0 Y (K.ok _ K.d0) (Zc _) (by show 0<mo;omega) g (by show 0<=_;exact Zc _) J⟩;show Xi (JI R.ns 0) (MA<|d0R R) 0=_;unfold Xi stP;rw[Zp rfl]
 rfl
theorem U6(R:RP):∀k,(btR R k).ti=true
 |0=>by simp[btR,Dat.ti,Dat.tis]
 |k+1=>by unfold btR;simp[Dat.ti,Dat.tis,U6 R k,W9]
end L2
namespace K4
open PySem L2
section
variable{C CK CG CO:Addr}
def BQ:Yi ["self","birth","places","place","number"] ["self","birth"] (Ye DZ):=Y4
inductive SNO(P:Program)(w:World)(CG:Addr)(H:Hp)(Q:VK):List V->Prop
 |mk (A:GA) (R:RP) (d k:Nat) (sts:Nat->Option Sta) (av:Addr->Prop) (v:V) (g:GG P w H CG A (csR R d) sts av) (hv:Has H v (btR R k)) (d1:d<=20) (k1:k<=20)
  (q:∀H',FrG A H H'->GG P w H' CG A (csR R (max d k)) sts av->Q (.int (k:Nat)) H'):SNO P w CG H Q [.ref A.t,v]
def Q4(P:Program)(w:World)(CG:Addr):Sp:=λZ H Q _=>SNO P w CG H Q Z
def Ck(B:Blt mg)(mr:mg "reversed"=none)(TG:GCl K CG)(F:Fun K "number_of" "Ground.number_of" DZ f fd)(m1:VN K CG "number_at" g1)(G1:Yf P w K mg base CX0 L g1 d1 ["self","maker","place"] (E5 P w CG))(b1:Binds K d1 ["self","maker","place"] []):Yf P w K mg base CX0 (L+1) f fd ["self","birth"] (Q4 P w CG):=by
 refine F.oi BQ λR8 A J2 s H vs Q E hr h=>?_;obtain⟨O,R,d,k,y,av,v,g,hv,d1,k1,q⟩:=h;refine⟨_,YZ (Yw 2 BQ.nd<|Vg<|VR)
  (YZ (Uy Zv (Yp Gs (VF Y8 rfl B.len Zu (pa1<|pv 1)) Yc<|Yz _) (YZ (Ji (pv 1)<|Vb (n:=2) rfl (Yl (Yj 1 BQ.nd)<|Yl (Yj 3 BQ.nd) VJ))
  (Yb<|VW<|Js Zz Z0 Z1 Vn (pv 2)<|pa1<|pv 3)))
  (YZ (Yw 4 BQ.nd<|Yc)
  (YZ (V5 Zv rfl (Oi rfl mr (pa1<|pv 2)) (Yj 3 BQ.nd)
   (Yb<|Yw 4 BQ.nd<|Y3 (pv 0) TG.cl m1 G1 hr b1 .nil Y1<|pa2 (pv 4)<|pv 3))
  (Yb<|Yn<|pv 4)))),?_⟩
 dsimp only[Vh,Cx.nox,Cx.wish];show let T0:=_;let T1:=_;let T2:=Yk (UX _ _ T1) T0;let T3:=Yk _ T2;let T4:=_;let T5:=Yk _ T4;let T6:=Yk (WB _ T5) T3;Yk _ T6 _ _ _
 intros
 refine⟨sl 0,λM Z=>?_⟩;refine up_in Z _ λH1 s1 g1=>?_
 let W:pB:=λj U N=>j<=k/\∃(X:V)(S:pD)(G:pf),U=[some (.ref O.t),some X,some<|.ref M,S,none]/\SameB M H1 N/\Has N X (btR R j)/\N M=some (.lst<|G.map V.ref)/\G.length=k-j/\∀i a,G[i]?=some a->N a=some (.tup<|(pR R<|k-1-i).map V.int)
 refine⟨W,⟨k,ZG _,v,none,[],Y,SameB.refl _ _,hv.mono s1,g1,(vO k).symm,λi a e=>by simp at e⟩,?_⟩;rintro j U u ⟨jk,X,S,G,rfl,b2,m,J,lp,wp⟩
 cases j with
 |zero=>
  obtain⟨t,ys,rfl,c,hl⟩:=Yr (show Has u X (.tup [])from m);obtain rfl:=Y9 hl;refine⟨t,_,Y,.inr<|Z2 c,_,rfl,Y6 (by decide) ?_⟩;have s2:Same H u:=J5 Z s1 b2;have g2:=g.mono s2
  have np:M≠O.bs/\M≠O.nu/\M≠O.st:=by
   obtain⟨xs,h1,_⟩:=g.bs;obtain⟨R7,h2,_⟩:=g.nu;obtain⟨R6,h3,_⟩:=g.st;exact⟨(Ya h1 Z).symm,(Ya h2 Z).symm,(Ya h3 Z).symm⟩
  have G2:G.length=k:=by omega
  have lm:(G.map V.ref).length=k:=by rw[ZA];exact G2
  exists M,_,Y,Z3 J
  let I:pB:=λi U N=>∃S,U=[some (.ref O.t),some<|.ref t,some<|.ref M,S,some (.int (i:Nat))]/\FrG O u N/\GG P w N CG O (csR R<|max d i) y av
  refine Pj (xs:=G.map V.ref) I ⟨S,Y,λb o _ _ _ e=>e,by rw[Nat.max_eq_left (Zc d)];exact g2⟩ (λi U Hi _ z=>Z3 (let⟨_,_,z2,_⟩:=z;z2 _ _ np.1 np.2.1 np.2.2 J)) ?_ ?_
  .rintro BB RR i x U H3 hi hx ⟨x3',rfl,f3,D⟩
   rw[lm]at hi hx;rw[ZH]at hx;obtain⟨l,T,rfl⟩:=Zj.mp hx;have hw:=wp _ _ T;rw[show k-1-(k-1-i)=i by omega]at hw;have G3:=g2.tk f3 _ _ hw;refine⟨_,_,D.ins,LO _,O,_,y,av,i,pR R i,l,D,G3,by rw[JQ];omega,by rw[JQ];omega,λn R1 H4 p f4 g4=>?_⟩
   have e:n=i+1/\R1=csR R (max d<|i+1):=by
    by_cases z:i<d
    .rw [show max d i=d by omega]at p
     rw[show max d (i+1)=d by omega];exact B6 z p
    .rw [show max d i=i by omega]at p
     rw[show max d (i+1)=i+1 by omega];exact B7 p
   obtain⟨rfl,rfl⟩:=e;exact⟨_,Y,f3.trans f4,g4⟩
  .rintro U H3 ⟨x3',rfl,f3,D⟩
   rw[lm]at D |-;exact q H3 (λb o n1 n2 n3 e=>f3 b o n1 n2 n3<|s2 _ _ e) D
 |succ j=>
  obtain⟨t,ys,rfl,c,hl⟩:=Yr (show Has u X (.tup [btR R j,Jy (pR R j)])from m);obtain⟨y1,r1,rfl,e1,O1⟩:=Yd hl;obtain⟨y2,r2,rfl,e2,M2⟩:=Yd O1;obtain rfl:=Y9 M2;obtain⟨l,rfl,T⟩:=Ju e2;refine⟨t,_,Y,.inr<|Z2 c,_,rfl,VP (by simp) ⟨λU N=>∃j',j'<j+1/\W j' U N,λU' N z=>z,?_⟩⟩;refine⟨_,Z2 c,Y,.inl ⟨Y,_,Z3 J⟩,M,_,_,Y,Y,J,Yv (by rw[ZA];omega),?_⟩;refine fld_in M _ λH3 b3 D=>?_;have r:=V6 b3 J;refine⟨j,vi _,by omega,y1,_,G++[l],Y,b2.trans b3,VD r _ (U6 R j) e1,by rw[ZK];exact D,by rw[ZL,vc];omega,λi a e=>?_⟩;rcases jn i G.length with z|z
  .rw [vd z]at e
   exact r _ _<|wp i a e
  .have il:=(ZF.mp e).1
   rw[ZL,vc]at il;rw[vb z,show i-G.length=0 by omega]at e;cases e;rw[show k-1-i=j by omega];exact r _ _ T
def yL:Yi ["self","head"] ["self","head"] (Ye Wd):=Y4
inductive SHK(H:Hp)(Q:VK):List V->Prop
 |mk (x v:V) (t:Str) (hv:Has H v (tagD t)) (q:Q v H):SHK H Q [x,v]
def Q7:Sp:=λZ H Q _=>SHK H Q Z
def Cs(F:Fun K "head_kept" "Ground.head_kept" Wd f O):Yf P w K X base CX0 (L+1) f O ["self","head"] Q7:=by
 refine F.oi yL λT A Z s H S Q E j h=>?_;obtain⟨x,v,t,J,q⟩:=h;refine⟨_,YZ (Y5 (Yp Vl (Ys (r:=Vy K) Yy (pv 1)<|Yc) Y0<|Yz _) (Yb<|Yn<|pv 1) Yo)
  VT,?_⟩
 show let B:=_;Yk (VG _ B _) _ _ _ _
 intros
 obtain⟨a,D,rfl,N,M⟩:=Yr (show Has H v (.tup [.str "tag",.str t])from J);obtain⟨I,U,rfl,R,G⟩:=Yd M;obtain rfl:=has_str R;exact⟨_,_,Z2 N,at0,Y,_,Y,VP (by decide +kernel) q⟩
end
end K4
namespace L2
open PySem
def wnt(R:RP)(k:Nat):Nat:=if k=0 then 1 else nxR R k
def Xj(R:RP)(k:Nat):Sta:=if k=0 then⟨JI R.ns 0,[],ro0⟩else stR R k
def SOK(R:RP)(sts:Nat->Option Sta)(k:Nat):Prop:=∀i,i<=nR R->i<=k->sts i=some (Xj R i)
def MJ(R:RP):1<=nR R:=by unfold nR;omega
def N4(R:RP)(Z:k<=nR R):wnt R k<=nR R:=by
 have:=MJ R;unfold wnt nxR;unfold nR at Z |-
 split
 .omega
 .split <;> omega
def Px{J:Str}{j:Nat}(K:RK R D)(M:k<=nR R)(S:R.tg[j]?=some J)(O:s.1=csR R (nR R)):
  ∃N,N∈D/\N.1.1=(Xj R k).f/\N.2.ok/\∃m F G,Gos D gs (Xj R k).f N.2 k 8 m (.body (Xj R k).pl (Xj R k).ρ) [] s (.want<|wnt R k) F G/\G.1=csR R (nR R)/\(SOK R s.2 k->SOK R G.2 (k+1))/\∃B,Gos D gs (Xj R k).f N.2 k 8 B (.head J) F G (.head J) [] G:=by
 have Q:=Tw K;have I:=MJ R;have sl:s.1.length=nR R:=by rw[O,JQ]
 by_cases z:k=0
 .subst z
  obtain⟨m,g⟩:=go0 (gs:=gs) (s:=s) (cs':=csR R<|nR R) K (λn P L=>by rw[O]at L;exact B6 (R:=R) (j:=0) I L) (by omega) (by rw[JQ];omega);refine⟨_,K.d0,Y,K.ok _ K.d0,m,_,_,g,Y,λo i T U=>?_,0,.stopH⟩;show stP s.2 1 (stR R 1) i=_;unfold stP
  by_cases y:i=1
  .rw [Zp y,y]
   rfl
  .rw [Zq y]
   exact o i T<|by omega
 .have ew:wnt R k=nxR R k:=Zq z
  have X:Xj R k=stR R k:=Zq z;rw[ew,X];have Z:1<=k:=by omega
  obtain⟨m,g⟩:=go1 (gs:=gs) (s:=s) (cs':=csR R<|nR R) K Z M (λq n P L=>by rw[O]at L;exact B6 (by unfold nR;omega) L)<|by omega
  have A:(sR R k (csR R<|nR R) s).1=csR R (nR R):=by
   unfold sR
   split
   .rfl
   .exact O
  obtain⟨B,C⟩:=go2 (gs:=gs) (s:=sR R k (csR R<|nR R) s) K Z M S (by rw[A,JQ];omega);have E:=Ek K Z M;refine⟨_,E,(Mb R Z M).1,K.ok _ E,m,_,_,g,A,λo i T U=>?_,B,C⟩;unfold sR
  by_cases y:k<R.m
  .rw [Zp y]
   show stP s.2 (k+1) (stR R<|k+1) i=_;unfold stP
   by_cases x:i=k+1
   .rw [Zp x,x]
    unfold Xj;rw[Zq (by omega)]
   .rw [Zq x]
    exact o i T<|by omega
  .rw [Zq y]
   have:nR R=k:=by unfold nR at M |-;omega
   exact o i T<|by omega
structure IG(H:Hp)(A:GA)(R:RP)(hd wd od:Addr)(tip:Str)(ps:Nat->Nat):Prop where
 hh:∃o kvs,H hd=some (.frz o (.dK kvs))/\∀k,k<=nR R->∃v,VB kvs (kK k)=some v/\Has H v (K4.tagD tip)
 wn:wd≠A.st
 ww:∃kvs,H wd=some (.dK kvs)/\∀k,k<=nR R->∃l,VB kvs (kK k)=some (.ref l)/\H l=some (.lst [.int (wnt R k:Nat)])/\l≠A.bs
 on:od≠A.st
 oo:∃kvs,H od=some (.dK kvs)/\∀k,k<=nR R->VB kvs (kK k)=some (.int (ps k:Nat))
def UD(t:Str):(K4.tagD t).ti=true:=by simp[K4.tagD,Dat.ti,Dat.tis]
def IG.fr{N wd M:Addr}(i:IG H A R N wd M tip I)(g:GG P w H CG A cs sts av)(f:FrG A H E):IG E A R N wd M tip I:=by
 obtain⟨U,T,_⟩:=g.bs;obtain⟨S,G,_⟩:=g.nu;obtain⟨C,O,_⟩:=g.st;have F:=g.tk f;have D:∀{a kv},H a=some (.dK kv)->a≠A.st->E a=some (.dK kv):=λh n=>f _ _ (Ym h T (by intro z;cases z)) (Ym h G Jr.symm) n h;exists ?_,i.wn,?_,i.on
 .obtain ⟨o,kv,e,hv⟩:=i.hh
  exact⟨o,kv,f _ _ (Ym e T (by intro z;cases z)) (Ym e G (by unfold ddO;intro z;cases z)) (Ym e O (by intro z;cases z)) e,λk J=>let⟨v,L,Z⟩:=hv k J;⟨v,L,VD F _ (UD _) Z⟩⟩
 .obtain ⟨kv,e,hv⟩:=i.ww
  exact⟨kv,D e i.wn,λk J=>let⟨l,L,Z,B⟩:=hv k J;⟨l,L,f _ _ B (Ym Z G JP.symm) (Ym Z O (by intro z;cases z)) Z,B⟩⟩
 .obtain ⟨kv,e,hv⟩:=i.oo
  exact⟨kv,D e i.on,hv⟩
def IG.same{M wd L:Addr}(i:IG H A R M wd L tip N)(s:Same H T):IG T A R M wd L tip N:=by
 exists ?_,i.wn,?_,i.on
 .obtain ⟨o,kv,e,hv⟩:=i.hh
  exact⟨o,kv,s _ _ e,λk Z=>let⟨v,G,J⟩:=hv k Z;⟨v,G,J.mono s⟩⟩
 .obtain ⟨kv,e,hv⟩:=i.ww
  exact⟨kv,s _ _ e,λk Z=>let⟨l,G,J,O⟩:=hv k Z;⟨l,G,s _ _ J,O⟩⟩
 .obtain ⟨kv,e,hv⟩:=i.oo
  exact⟨kv,s _ _ e,hv⟩
def Xz{k:Key}(e:H a=some (.frz o<|.dK Z)):Vi H a (kV k) (VB Z k):=.inl ⟨Z,k,.inr ⟨_,e⟩,rfl,rfl⟩
end L2
namespace K4
open PySem L2
section
variable{C CK CG CO:Addr}
def C4(A:OM):(Jf A).lookup ("take_head":Str)=none:=rfl
abbrev igp:kZ:=["ground","heads","wants","order","number"]
def FB:Yi ["ground","heads","wants","order","number","going","found","stop","wanted"] igp (Ye RU):=Y4
inductive SIG(P:Program)(w:World)(C CK CG CO:Addr)(H:Hp)(Q:VK):List V->Prop
 |mk (Hm:Hp) (A:GA) (ks:List (Str×Shp)) (d:Str->Nat) (ds:List Dd) (R:RP) (sts:Nat->Option Sta) (hd wd od:Addr) (tip:Str) (j k:Nat) (ps:Nat->Nat) (K:RK R ds) (l3:A.gs.length<=3) (ht:R.tg[j]?=some tip) (mx:MX P w Hm H C CK CG A ks d ds (csR R (nR R)) sts (λ_=>False)) (ig:IG H A R hd wd od tip ps) (hk:k<=nR R) (so:SOK R sts k)
  (q:∀H' sts',FrG A H H'->MX P w Hm H' C CK CG A ks d ds (csR R (nR R)) sts' (λ_=>False)->(ps (wnt R k)<ps k->SOK R sts' (k+1))->Q (.bl (decide (ps (wnt R k)<ps k))) H'):SIG P w C CK CG CO H Q [.ref A.t,.ref hd,.ref wd,.ref od,.int (k:Nat)]
def Q6(P:Program)(w:World)(C CK CG CO:Addr):Sp:=λZ H Q _=>SIG P w C CK CG CO H Q Z
def Cq(B:Blt mg)(TO:OCl K CO)(F:Fun K "is_gone" "is_gone" RU f fd)(mO:mg "Going"=some (.ref CO))(MO:Mk K CO g)(GI:Yf P w K mg base CX0 (n+40) g gd ["self","ground","number"] (D8 P w C CK CG CO))(bI:Binds K gd ["self","ground","number"] [])(mB:VN K CO "begin" g1)(GB:Yf P w K mg base CX0 (n+41) g1 d1 ["self"] (Rp P w C CK CG CO 8))(bB:Binds K d1 ["self"] [])(mT:VN K CO "take_head" g2)(GT:Yf P w K mg base CX0 (n+41) g2 d2 ["self","head"] (IL P w C CK CG CO 8))(bT:Binds K d2 ["self","head"] []):Yf P w K mg base CX0 (n+42) f fd igp (Q6 P w C CK CG CO):=by
 refine F.oi FB λcdv A I1 s H vs Q E hr h=>?_;obtain⟨Hm,J,ks,d,ds,R,T,hd,wd,od,G,j,k,L,K',l3,ht,c,ig,hk,so,q⟩:=h;have hu:=V7 hr;refine⟨_,YZ (Yw 5 FB.nd<|Uc MO GI hr rfl mO bI .nil Y1 (pa2 (pv 0)<|pv 4))
  (YZ (Yw 6 FB.nd<|Vg<|VR)
  (YZ (Yw 7 FB.nd<|Vo (pv 5) TO.cl mB GB hr bB .nil Y1)
  (YZ (Uy Zv (Yp Vl (Ys (r:=Vy K) Yy (pv 7)<|Yc) Y0<|Yz _) (YZ (Yw 8 FB.nd<|Ys (r:=Vy K) Yy (pv 7)<|Yc)
  (YZ (Y5 (PW.pt<|UH (Jh<|XE hu (pv 8)<|pv 1)<|Jg<|Yp KN (Vt hu (pv 3) (pv 8) λ_ _=>rfl) (Vt hu (pv 3) (pv 4) λ_ _=>rfl)<|Yz _) (Yb<|Yn<|J4) Yo)
  (YZ (Y5 (Yp Jb (pv 8) (pv 6) rfl) (Yb<|VW<|Js Zz Z0 Z1 Vn (pv 6)<|pa1<|pv 8) Yo)
  (Yb<|Yw 7 FB.nd<|Y3 (pv 5) TO.cl mT GT hr bT .nil Y1<|pa1<|Vt hu (pv 1) (pv 8) λ_ _=>rfl)))))
  (Yb<|Yn<|Xa (JE (Bz hr) (pv 7) (Yq<|pa2 (Y0)<|Vt hu (pv 1) (pv 4) λ_ _=>rfl) rfl)<|Uz<|JE (Bz hr) (pv 6) (Vt hu (pv 2) (pv 4) λ_ _=>rfl) rfl)))),?_⟩
 dsimp only[Vh,Cx.nox,Cx.wish];show let T0:=_;let T1:=_;let T2:=_;let T3:=Yk (VG _ T2 _) T1;let T4:=_;let T5:=Yk (VG _ T4 _) T3;let T6:=Yk _ T5;let T7:=Yk (WB _ T6) T0;let T8:=Yk _ T7;let T9:=Yk _ T8;Yk _ T9 _ _ _
 intros
 obtain⟨df,md,ef,ok,m,l1,M,D2,e1,F6,m2,D1⟩:=Px (gs:=J.gs) (s:=(csR R<|nR R,T)) K' hk ht rfl;have wl:=N4 R hk;intro x y hx D0 hne;have sX:Same H (upd (upd H y<|.own x) x<|.ins CO y []):=λb o e=>by rw[Yg (Ya e hx),Yg (Ya e D0)];exact e
 have tx:upd (upd H y<|.own x) x (.ins CO y []) x=some (.ins CO y []):=Yh;generalize upd (upd H y<|.own x) x (.ins CO y [])=H0 at tx sX |-;refine⟨Hm,H,x,y,J,ks,d,ds,λ_=>False,(csR R<|nR R,T),k,Xj R k,df,hx,sX,tx,c,λa h=>h.elim,so k hk<|ZG _,md,ef,ok,by show k<=(csR R<|nR R).length;rw[JQ];exact hk,λO H1 f1 f2 f3 O1 fw D hp1 I5 I2=>⟨Y,?_⟩⟩;rw[<-f1];have gsA:Gos ds J.gs O.F df.2 O.n 8 m (.body (Xj R k).pl (Xj R k).ρ) [] (csR R<|nR R,T) (.want<|wnt R k) l1 M:=by rw[f2,f3];exact D2
 have gsB:Gos ds J.gs O.F df.2 O.n 8 m2 (.head G) l1 M (.head G) [] M:=by rw[f2,f3];exact D1
 clear D2 D1 f1 f2 f3 tx sX D0 hne hx;refine⟨sl 0,λZ S=>?_⟩;refine up_in S _ λH2 s2 g2=>?_;have F7:=O1.trans s2;have fH:H Z=none:=O1.free S;refine⟨_,_,(D.same s2).gm.ins,Ku _,Hm,J,ks,d,ds,λ_=>False,O,df.2,(Xj R k).pl,(Xj R k).ρ,(csR R<|nR R,T),m,_,l1,M,D.same s2,s2 _ _ hp1,I5.mono s2,I2,gsA,l3,λv H3 f3 F9 hv=>?_⟩;obtain⟨bs0,hbs,_⟩:=c.gg.bs;obtain⟨nu0,hnu,_⟩:=c.gg.nu;obtain⟨st0,S2,_⟩:=c.gg.st;have nb:Z≠J.bs:=(Ya hbs fH).symm;have nn:Z≠J.nu:=(Ya hnu fH).symm;have ns:Z≠J.st:=(Ya S2 fH).symm;obtain⟨zs1,R7,_⟩:=D.wl;have nw:Z≠O.wl:=(Ya R7 S).symm;have no:Z≠O.t:=(Ya D.gm.ins S).symm;have g3:=f3 _ _ nb nn ns nw g2;have fr3:FrG J H H3:=λb o n1 n2 n3 e=>f3 b o n1 n2 n3 (λz=>by rw[z,fw]at e;cases e)<|F7 _ _ e
 let SG:Option V->Option V->St:=λx7 x8=>[some (.ref J.t),some<|.ref hd,some<|.ref wd,some<|.ref od,some<|.int (k:Nat),some<|.ref O.t,some<|.ref Z,x7,x8]
 let W:pB:=λi U N=>FrG J H N/\((i=1/\∃v,U=SG (some v) none/\RG P w Hm N C CK CG CO J ks d ds (λ_=>False) O df.2 l1 M/\Has N v (.tup [.str "want",.int (wnt R k:Nat)])/\N Z=some (.lst [])) \/
  (i=0/\L (wnt R k)<L k/\∃v,U=SG (some v) (some<|.int (wnt R k:Nat))/\MX P w Hm N C CK CG J ks d ds M.1 M.2 (λ_=>False)/\Has N v (.tup [.str "head",tagD G])/\N Z=some (.lst [.int (wnt R k:Nat)])))
 exists W,⟨1,fr3,.inl ⟨Y,v,Y,F9,hv,g3⟩⟩;rintro i U H4 ⟨X,hc⟩;have u:=ig.fr c.gg X;obtain⟨ho,hkv,J2,G3⟩:=u.hh;obtain⟨okv,F1,G2⟩:=u.oo;rcases hc with⟨rfl,v,rfl,R6,I,g4⟩|⟨rfl,lt,v,rfl,I4,I,g4⟩
 .obtain ⟨t,ys,rfl,ht4,hyl⟩:=Yr I
  obtain⟨y1,r1,rfl,G1,R8⟩:=Yd hyl;obtain⟨y2,r2,rfl,F3,hlB⟩:=Yd R8;obtain rfl:=Y9 hlB;obtain rfl:=has_str G1;obtain rfl:y2=.int (wnt R k:Nat):=by unfold Has at F3;exact F3
  refine⟨_,_,Z2 ht4,at0,Y,_,Y,VP (by decide +kernel) ⟨λU N=>∃j',j'<1/\W j' U N,λU' N z=>z,?_⟩⟩;exists _,_,Z2 ht4,at1;obtain⟨vw,D3,I6⟩:=G3 (wnt R k) wl;have dgh:Vi H4 hd (V.int (wnt R k:Nat)) (some vw):=by rw[<-D3];exact Xz (k:=kK<|wnt R k) J2
  refine⟨_,dgh,_,Y,Y6 (by simp) ?_⟩;have dg1:Vi H4 od (V.int (wnt R k:Nat)) (some<|.int (L (wnt R k):Nat)):=by rw[<-G2 _ wl];exact Vi.k (k:=kK<|wnt R k) F1
  have dg2:Vi H4 od (V.int (k:Nat)) (some<|.int (L k:Nat)):=by rw[<-G2 _ hk];exact Vi.k (k:=kK k) F1
  refine⟨_,dg1,_,dg2,_,Y,FQ (λzc=>?_) λzc=>?_⟩
  .have hge:¬L (wnt R k)<L k:=by
    have:=Zt zc;omega
   have e:decide (L (wnt R k)<L k)=false:=Zy hge;have:=q H4 M.2 X (by have:=R6.mx;rw[e1]at this;exact this) λz=>Zr z hge;rw[e]at this;exact this
  .have hlt:L (wnt R k)<L k:=by
    have:¬((L k:Nat):Int)<=((L (wnt R k):Nat):Int):=λz=>zc<|decide_eq_true z;omega
   refine⟨Z,[],Y,.inl<|Z3 g4,rfl,rfl,_,rfl,VP rfl ?_⟩;refine⟨.inl ⟨Y,_,Z3 g4⟩,Z,_,_,Y,Y,g4,Yv (by simp),?_⟩;refine fld_in Z _ λH5 b5 g5=>?_;have M2:=V6 b5 g4
   have fo:Fo Hm H4 H5 J (λ_=>False) Z:=⟨b5,⟨_,g5⟩,c.sm.free fH,(Ya c.gg.ins fH).symm,nb,nn,ns,M2,λkn ρ m' kr _ z=>by
    obtain⟨_,kvs,h1,_⟩:=kr;rw[z,g4]at h1;cases h1⟩
   have R1:=R6.fo fo no nw
   have I3:Z≠hd:=λz=>by
    obtain⟨o',kv',e',_⟩:=ig.hh;rw[<-z,fH]at e';cases e'
   have F2:=b5 _ _ I3.symm J2;have F4:Vi H5 hd (V.int (wnt R k:Nat)) (some vw):=by rw[<-D3];exact Xz (k:=kK<|wnt R k) F2
   refine⟨_,_,R1.gm.ins,C4 _,_,F4,Hm,J,ks,d,ds,λ_=>False,O,df.2,l1,M,vw,G,m2,_,[],M,R1,VD M2 _ (UD _) I6,gsB,l3,λv6 H6 f6 F8 I8=>?_⟩;refine⟨0,vi _,λb o n1 n2 n3 e=>f6 b o n1 n2 n3 (λz=>by rw[z,fw]at e;cases e)<|b5 _ _ (λz=>by rw[z,fH]at e;cases e)<|X b o n1 n2 n3 e,.inr ⟨rfl,hlt,v6,rfl,F8.mx,I8,f6 _ _ nb nn ns nw g5⟩⟩
 .obtain ⟨t,ys,rfl,ht4,hyl⟩:=Yr I
  obtain⟨y1,r1,rfl,G1,R8⟩:=Yd hyl;obtain rfl:=has_str G1;refine⟨_,_,Z2 ht4,at0,Y,_,Y,Y6 (by decide +kernel) ?_⟩;obtain⟨vk,evk,I7⟩:=G3 k hk;have dgk:Vi H4 hd (V.int (k:Nat)) (some vk):=by rw[<-evk];exact Xz (k:=kK k) J2
  refine⟨_,dgk,sl 2,λt5 I9=>?_⟩;refine up_in I9 _ λH5 p g5=>?_;exists .tup [.str "head",tagD G],.tup [.str "head",tagD G],I.mono p,Yx g5<|Z4 VA<|Z5<|I7.mono p,by simp[tagD,Dat.dep,Dat.deps],_,rfl;rw[Dat.pq_self,Zp rfl];obtain⟨wkv,ewd,F5⟩:=u.ww;obtain⟨l,evl,hl,nl⟩:=F5 k hk;have dgw:Vi H5 wd (V.int (k:Nat)) (some<|.ref l):=by rw[<-evl];exact Vi.k (k:=kK k)<|p _ _ ewd
  exists _,dgw,.lst [.int (wnt R k:Nat)],.lst [.int (wnt R k:Nat)],?_,?_,by simp[Dat.dep,Dat.deps]
  .unfold Has
   exact⟨Z,_,Y,p _ _ g4,Z5 (by unfold Has;rfl)⟩
  .unfold Has
   exact⟨l,_,Y,p _ _ hl,Z5 (by unfold Has;rfl)⟩
  .rw [Dat.pq_self]
   have:=q H5 M.2 (X.trans<|.of p) (by have:=I4.mono p;rw[e1]at this;exact this) λ_=>F6 so;rw[decide_eq_true lt]at this;exact this
end
end K4
namespace L2
open PySem
theorem Wl:∀(a b:pe),a.Perm b->a.Pairwise (· <= ·)->b.Pairwise (· <= ·)->a=b
 |[],b,p,_,_=>(List.perm_nil.mp p.symm).symm
 |x::a,[],p,_,_=>List.perm_nil.mp p
 |x::a,y::b,p,ha,hb=>by
  have J:=List.pairwise_cons.mp ha;have Z:=List.pairwise_cons.mp hb
  have L:y<=x:=by
   rcases Zd.mp (p.mem_iff.mp Za)with q|q
   .rw [q]
    exact Int.le_refl _
   .exact Z.1 _ q
  have G:x<=y:=by
   rcases Zd.mp (p.mem_iff.mpr Za)with q|q
   .rw [q]
    exact Int.le_refl _
   .exact J.1 _ q
  obtain rfl:=Int.le_antisymm G L;rw[Wl a b (List.Perm.cons_inv p) J.2 Z.2]
def Ag{R:RP}{Z:Nat->Nat}(h:∀j,j<=nR R->Z (wnt R j)<Z j):False:=by
 have L:=MJ R
 have G:∀j,1<=j->j<=nR R->Z j<=Z 1:=λj=>by
  induction j with
  |zero=>intro a;omega
  |succ j ih=>
   intro _ M
   by_cases z:j=0
   .subst z
    exact ZG _
   .have J:=h j<|by omega
    have e:wnt R j=j+1:=by
     unfold wnt nxR;rw[Zq z,Zp (by unfold nR at M;omega)]
    rw[e]at J;have:=ih (by omega) (by omega);omega
 have J:=h (nR R)<|ZG _
 have e:wnt R (nR R)=1:=by
  unfold wnt nxR;rw[Zq (by omega),Zq (by unfold nR;omega)]
 rw[e]at J;have:=G (nR R) L<|ZG _;omega
def okv(idx:List Nat)(i:Nat):pj:=(List.range i).map λp=>(kK<|idx.getD p 0,V.int (p:Nat))
def NE:okv idx (i+1)=okv idx i++[(kK<|idx.getD i 0,.int (i:Nat))]:=by unfold okv;rw[vT,ZK];rfl
def NF(h:i<=idx.length):(okv idx i).map (·.1)=(idx.take i).map kK:=by
 unfold okv;rw[vm];refine qh λp=>?_;rw[ZH,ZH,jp]
 by_cases z:p<i
 .rw [vS z,Zp z,ZD (by omega)]
  show some (kK<|idx.getD p 0)=some (kK idx[p]);rw[vg,ZD (by omega)]
  rfl
 .rw [qH (by rw[ve];omega),Zq z]
  rfl
def RW{Z:pj}(h:VB Z k=some v):VB (Z++ e) k=some v:=by
 unfold VB at h |-;rw[qg]
 cases q:Z.find? λJ=>decide (J.1=k)with
 |none=>rw[q]at h;cases h
 |some p=>rw[q]at h;exact h
def RV{Z:pj}(h:VB Z k=none):VB (Z++[(k,v)]) k=some v:=by
 unfold VB at h |-;rw[qg]
 cases q:Z.find? λJ=>decide (J.1=k)with
 |none=>simp
 |some p=>rw[q]at h;cases h
def MI{Z:List Nat}(G:Z.Nodup)(h:Z[i]?=some k):k∉Z.take i:=by
 intro m;obtain⟨j,J⟩:=vj.mp m;rw[jp]at J
 by_cases z:j<i
 .rw [Zp z]at J
  have:=(List.getElem?_inj (ZF.mp J).1 G).mp<|J.trans h.symm;omega
 .rw [Zq z]at J
  cases J
theorem EU(Z:idx.Nodup):∀i,i<=idx.length->∀p k,p<i->idx[p]?=some k->VB (okv idx i) (kK k)=some (.int (p:Nat))
 |0,_,p,k,h,_=>Zr h<|Zw _
 |i+1,hi,p,k,h,e=>by
  rw[NE]
  by_cases z:p<i
  .exact RW (EU Z i (by omega) p k z e)
  .obtain rfl:p=i:=by omega
   have J:idx.getD p 0=k:=by rw[vg,e];rfl
   rw[J];exact RV (K4.putK_new (v:=.non) (NF<|by omega)<|MI Z e).1
def Dk{K:W.Frag}{o:Obj}{J:pj}{E D:Addr}{Z:List Nat}{Q:VK}(e:H E=some (.frz o<|.dK J))(I:J.map (·.1)=Z.map kK)(S:Z.Nodup)(y:Z.length<=100)(F:H D=none)(q:∀G,Same H G->G D=some (.dK<|okv Z Z.length)->Q (.ref D) G):Mp (An E o J) D (MV K 2<|JL (Vm 0)<|JL (Vm 1) Wr) (BC 1) (BC 0) [none,none] Q (upd H D<|.dK []):=by
 have U:J.length=Z.length:=by
  have:=congrArg List.length I;rw[ZA,ZA]at this;exact this
 exists λi m G=>i<=Z.length/\m=Z.length-i/\Same H G/\G D=some (.dK<|okv Z i),⟨_,Zc _,rfl,Yu F _,Yh⟩;rintro i m P ⟨X,t,L,R⟩
 by_cases z:i=Z.length
 .subst z
  exact .inl ⟨⟨L _ _ e,U⟩,q P L R⟩
 .refine .inr ⟨⟨L _ _ e,by omega⟩,?_⟩
  rintro x g ⟨r,N,rfl,B,rfl,M⟩
  have T:N.1=kK (Z.getD i 0):=by
   have A:(J.map (·.1))[i]?=some N.1:=by rw[ZH,M];rfl
   rw[I,ZH,ZD (by omega)]at A;rw[vg,ZD (by omega)];exact(ZT A).symm
  exists _,Z2 Yh,Y,okv Z i,N.1,Y,by rw[Yg (Ya R B)];exact R,Yv (by unfold okv;rw[ZA,ve];omega),Z.length-(i+1),by omega,by omega,rfl,?_
  .refine λb j O=>?_
   rw[Yg (Ya O F),Yg (Ya (L _ _ O) B)];exact L _ _ O
  .rw [Yh,T,NE]
   have C:Z[i]?=some (Z.getD i 0):=by rw[vg,ZD (by omega)];rfl
   rw[(K4.putK_new (NF X)<|MI S C).2]
end L2
namespace K4
open PySem L2
section
variable{C CK CG CO:Addr}
abbrev agp:kZ:=["ground","heads","wants"]
def SR:Yi ["ground","heads","wants","order","number"] agp (Ye W8):=Y4
def QQ:List.Nodup [("at":Str),"number"]:=by decide +kernel
inductive SAG(P:Program)(w:World)(C CK CG CO:Addr)(H:Hp)(Q:VK):List V->Prop
 |mk (Hm:Hp) (A:GA) (ks:List (Str×Shp)) (d:Str->Nat) (ds:List Dd) (R:RP) (sts:Nat->Option Sta) (hd wd:Addr) (tip:Str) (j:Nat) (idx:List Nat) (o:Obj) (hkv wkv:List (Key×V)) (K:RK R ds) (l3:A.gs.length<=3) (ht:R.tg[j]?=some tip) (mx:MX P w Hm H C CK CG A ks d ds (csR R (nR R)) sts (λ_=>False))
  (hh:H hd=some (.frz o (.dK hkv))) (hk:hkv.map (·.1)=idx.map kK) (hv:∀k,k<=nR R->∃v,VB hkv (kK k)=some v/\Has H v (tagD tip)) (wn:wd≠A.st) (hw:H wd=some (.dK wkv)) (wv:∀k,k<=nR R->∃l,VB wkv (kK k)=some (.ref l)/\H l=some (.lst [.int (wnt R k:Nat)])/\l≠A.bs)
  (hp:idx.Perm (List.range (nR R+1))) (so:SOK R sts 0) (q:∀H',FrG A H H'->Q (.bl false) H'):SAG P w C CK CG CO H Q [.ref A.t,.ref hd,.ref wd]
def SD(P:Program)(w:World)(C CK CG CO:Addr):Sp:=λZ H Q _=>SAG P w C CK CG CO H Q Z
def Cw(B:Blt mg)(me:mg "enumerate"=none)(TG:GCl K CG)(F:Fun K "are_gone" "are_gone" W8 f fd)(DG:Df P w K mg base n "is_gone" igp (Q6 P w C CK CG CO)):Yf P w K mg base CX0 (n+1) f fd agp (SD P w C CK CG CO):=by
 refine F.oi SR λD3 A O1 s H vs Q E hr h=>?_;obtain⟨Hm,T,ks,d,ds,R,G1,r,wd,X,j,J,o,G,J2,K',l3,ht,mx,hh,M,hv,wn,hw,wv,hp,so,q⟩:=h;have hu:=V7 hr;refine⟨_,YZ (Oe (i0:=3) ["at","number"] [] SR.nd Y (Or.inl Y) (Iw Y me (pa1<|pv 1)) G7 (λcl C fp s H=>Vb (n:=2) rfl (Yl (Yj 0 QQ rfl (Or.inl rfl) (Or.inr rfl))<|Yl (Yj 1 QQ rfl (Or.inl rfl) (Or.inr rfl)) VJ)) (λcl C fp s H=>pv 1) (λcl C fp s H=>pv 0))
  (YZ (V5 Zv rfl (JM<|VF (Mi rfl) rfl B.sorted Mn (pa1<|pv 1)) (Yj 4 SR.nd)
   (Yb<|Y5 (PW.pt<|UH (Jh<|XE hu (pv 4)<|Yt (pv 0) rfl)<|Jg<|JX<|JS<|Vc DG hr<|pa5 (pv 0) (pv 1) (pv 2) (pv 3)<|pv 4) (Yb<|Yn<|J4) Yo))
  (Yb<|Yn<|J4)),?_⟩
 dsimp only[Vh,Cx.nox,Cx.wish];show let T0:=_;let T1:=_;let T2:=VG _ T1 _;let T3:=Yk (UX _ _ T2) T0;Yk _ T3 _ _ _
 intros
 have n7:=Tw K';have nd:J.Nodup:=hp.nodup_iff.mpr List.nodup_range;have li:J.length=nR R+1:=by rw[hp.length_eq,ve]
 refine⟨r,o,G,Y,hh,λod u=>?_⟩;refine Dk hh M nd (by omega) u λH1 N g1=>?_
 have ho:∃O:Nat->Nat,∀k,k<=nR R->J[O k]?=some k:=by
  have h0:∀k,∃p,k<=nR R->J[p]?=some k:=λk=>by
   by_cases z:k<=nR R
   .obtain ⟨p,hp'⟩:=vj.mp<|hp.mem_iff.mpr<|vt.mpr<|kJ z
    exact⟨p,λ_=>hp'⟩
   .exact ⟨0,λy=>Zr y z⟩
  exact⟨λk=>Classical.choose<|h0 k,λk=>Classical.choose_spec<|h0 k⟩
 obtain⟨O,T5⟩:=ho
 have R8:IG H1 T R r wd od X O:=by
  refine⟨⟨o,G,N _ _ hh,λk M=>let⟨v,e1,e2⟩:=hv k M;⟨v,e1,e2.mono N⟩⟩,wn,⟨J2,N _ _ hw,λk M=>let⟨l,e1,e2,e3⟩:=wv k M;⟨l,e1,N _ _ e2,e3⟩⟩,?_,⟨_,g1,λk M=>?_⟩⟩
  .obtain ⟨G2,D,_⟩:=mx.gg.st
   exact(Ya D u).symm
  .have:=T5 k M
   exact EU nd _ (ZG _) _ _ (ZF.mp this).1 this
 have R6:=mx.mono N;refine⟨r,G,J.map λ(k:Nat)=>(k:Int),Y,.inr ⟨_,N _ _ hh⟩,?_,?_,λms l T6 hs hl=>?_⟩
 .have:G.map (λkv=>kV kv.1)=(G.map (·.1)).map kV:=by rw[vm];rfl
  rw[this,M,vm,vm]
  rfl
 .have:=congrArg List.length M
  rw[ZA,ZA]at this;omega
 have em:ms=(List.range<|nR R+1).map λ(k:Nat)=>(k:Int):=by
  refine Wl _ _ (T6.trans<|hp.map _) hs ?_;rw[qe];exact List.pairwise_lt_range.imp λ{a b} h=>by omega
 subst em;refine up_in hl _ λH2 s2 g2=>⟨⟨_,Z3 g2⟩,?_⟩;have M2:=N.trans s2;obtain⟨F1,T8,_⟩:=mx.gg.bs;have T9:=N.free hl;have nb:l≠T.bs:=(Ya T8 T9).symm;have R7:=R8.same s2;have L:=R6.mono s2
 let Pv:pB:=λi U S=>∃Z x4,U=[some (.ref T.t),some<|.ref r,some<|.ref wd,some<|.ref od,x4]/\FrG T H2 S/\MX P w Hm S C CK CG T ks d ds (csR R<|nR R) Z (λ_=>False)/\SOK R Z i/\∀j,j<i->O (wnt R j)<O j
 have kl:∀S,FrG T H2 S->S l=some (.lst<|((List.range<|nR R+1).map λ(k:Nat)=>(k:Int)).map V.int):=λS f=>by
  obtain⟨D2,T7,_⟩:=L.gg.nu;obtain⟨G2,D,_⟩:=L.gg.st;exact f _ _ nb (Ym g2 T7 JP.symm) (Ym g2 D (by intro z;cases z)) g2
 refine TD (xs:=((List.range<|nR R+1).map λ(k:Nat)=>(k:Int)).map V.int) Pv ⟨G1,none,rfl,λb o _ _ _ e=>e,L,so,λj h=>Zr h<|Zw _⟩ (λi U Hi _ z=>Z3 (let⟨_,_,_,f,_⟩:=z;kl _ f)) ?_ ?_
 .rintro i x U H3 hx ⟨Z,x4,rfl,f3,mx3,so3,hj⟩
  rw[ZH,ZH]at hx;obtain⟨y,hy,rfl⟩:=Zj.mp hx;obtain⟨i',I,rfl⟩:=Zj.mp hy;have il:=(ZF.mp I).1;rw[ve]at il;rw[vS il]at I;cases I;have g:i<=nR R:=kL il;obtain⟨D1,c,_,T4⟩:=mx3.gg.st;obtain⟨t,p,kn,ev,_⟩:=T4 i _<|so3 i g<|ZG _;have D0:Vi H3 T.st (V.int (i:Nat)) (some<|.ref t):=by rw[<-ev];exact Vi.k (k:=kK i) c
  refine⟨CG,_,_,_,mx3.gg.ins,TG.cl,TG.st,MS _,_,D0,_,Y,Y6 (by simp) ?_⟩;refine⟨Hm,T,ks,d,ds,R,Z,r,wd,od,X,j,i,O,K',l3,ht,mx3,R7.fr L.gg f3,g,so3,λH4 m f4 R1 G3=>?_⟩
  by_cases z:O (wnt R i)<O i
  .rw [decide_eq_true z]
   refine⟨_,Y,Y6 (by decide) ⟨m,_,Y,f3.trans f4,R1,G3 z,λj' h'=>?_⟩⟩
   by_cases y:j'=i
   .rw [y]
    exact z
   .exact hj j' (by omega)
  .rw [Zy z]
   exact⟨_,Y,VP (by decide)<|q H4 λb o n1 n2 n3 e=>f4 b o n1 n2 n3<|f3 b o n1 n2 n3<|M2 _ _ e⟩
 .rintro U H3 ⟨Z,x4,rfl,f3,mx3,so3,hj⟩
  rw[ZA,ZA,ve]at hj;exact Zr (λj h=>hj j<|kJ h) Ag
end
end K4
namespace L2
open PySem
def rwD(R:RP)(tip:Str)(k:Nat):Dat:=.tup [btR R k,K4.tagD tip,.lst [btR R (wnt R k)]]
def QX(A:GA):(Xw A).lookup ("number_of":Str)=none:=rfl
def zL(A:GA):(Xw A).lookup ("head_kept":Str)=none:=rfl
def GL{Z:List Nat}(h:Z[i]?=some x)(m:k∈Z.take (i+1)):k∈Z.take i\/k=x:=by
 have J:=(ZF.mp h).1;rw[List.take_succ,h]at m;rcases ZX.mp m with z|z
 .exact .inl z
 .exact .inr (by simpa using z)
def GJ{Z:List Nat}(h:Z[i]?=some x):Z.take (i+1)=Z.take i++[x]:=by
 rw[List.take_succ,h]
 rfl
end L2
namespace K4
open PySem L2
section
variable{C CK CG CO CW:Addr}
abbrev iyp:kZ:=["book","F","worths","rows","whole"]
def M8:Yi ["book","F","worths","rows","whole","ground","heads","wants","birth","head","wanted","number"] iyp (Ye N3):=Y4
def Cz:List.Nodup [("other":Str),"ground"]:=by decide +kernel
structure RwI(P:Program)(w:World)(H1 H':Hp)(C CK CG:Addr)(G:GA)(ks:List (Str×Shp))(d:Str->Nat)(ds:List Dd)(R:RP)(hd wd:Addr)(tip:Str)(l:List Nat)(c:Nat)(hkv wkv:List (Key×V)):Prop where
 mx:MX P w H1 H' C CK CG G ks d ds (csR R c) (Xi (JI R.ns 0) ro0) (λa=>a=hd\/a=wd)
 cn:c<=nR R
 lc:∀k∈l,k<=c
 hd:H' hd=some (.dK hkv)
 hk:hkv.map (·.1)=l.map kK
 hv:∀k∈l,∃v,VB hkv (kK k)=some v/\Has H' v (tagD tip)
 wd:H' wd=some (.dK wkv)
 wk:wkv.map (·.1)=l.map kK
 wv:∀k∈l,∃a,VB wkv (kK k)=some (.ref a)/\H' a=some (.lst [.int (wnt R k:Nat)])/\a≠G.bs
def Ld{Z:Addr}(J:MX P w N H C CK CG G A d U cs sts av)(h:H Z=some (.dK F))(a:av Z)(D:N Z=none)(T:Z≠G.st)(b:SameB Z H O)(x:∃o,O Z=some o):Fo N H O G av Z:=by
 obtain⟨E,M,_⟩:=J.gg.bs;obtain⟨R,L,_⟩:=J.gg.nu;exact⟨b,x,D,Ym h J.gg.ins (by intro z;cases z),Ym h M (by intro z;cases z),Ym h L Jr.symm,T,(Mw b h).1,λS ρ m I B z=>B<|z ▸ a⟩
inductive SIW(P:Program)(w:World)(C CK CG:Addr)(H:Hp)(Q:VK):List V->Prop
 |mk (bk gv rl:Addr) (ks:List (Str×Shp)) (d:Str->Nat) (ds:List Dd) (R:RP) (tip:Str) (j:Nat) (idx:List Nat) (full:Bool) (xs:List V) (K:RK R ds) (ht:R.tg[j]?=some tip) (ra:RgA H C CK bk gv ks d ds (d0R R) []) (hr:H rl=some (.lst xs)) (hx:HasL H xs (idx.map (rwD R tip))) (hp:idx.Perm (List.range (nR R+1)))
  (q:∀H',Same H H'->Q (.bl false) H'):SIW P w C CK CG H Q [.ref bk,.str (JI R.ns 0),.ref gv,.ref rl,.bl full]
def Q5(P:Program)(w:World)(C CK CG:Addr):Sp:=λZ H Q _=>SIW P w C CK CG H Q Z
def Cp(B:Blt mg)(TG:GCl K CG)(F:Nz K "is_way" "is_way" N3 f fd)(DA:Df P w K mg base (n+1) "check_asking" bfw (BK C CK .non))(mG:mg "Ground"=some (.ref CG))(MG:Mk K CG g)(GG':Yf P w K mg base CX0 n g gd ["self","book","F","worths"] (EC P w C CK CG))(bG:Binds K gd ["self","book","F","worths"] [])(mN:VN K CG "number_of" g1)(GN:Yf P w K mg base CX0 (n+1) g1 d1 ["self","birth"] (Q4 P w CG))(bN:Binds K d1 ["self","birth"] [])(mH:VN K CG "head_kept" g2)(GH:Yf P w K mg base CX0 (n+1) g2 d2 ["self","head"] Q7)(bH:Binds K d2 ["self","head"] [])(DG:Df P w K mg base (n+1) "are_gone" agp (SD P w C CK CG CO)):Yf P w K mg base CX0 (n+2) f fd iyp (Q5 P w C CK CG):=by
 refine F.oi M8 λcdv A outer s H vs Q E hr h=>?_;obtain⟨bk,gv,rl,ks,d,ds,R,D,j,S,full,xs,K',ht,ra,hrl,hxs,hp,q⟩:=h;have hu:=V7 hr;refine⟨_,YZ (VW<|Vc DA hr<|pa3 (pv 0) (pv 1)<|pv 2)
  (YZ (Yw 5 M8.nd (Uc MG GG' hr rfl mG bG .nil Y1 (pa3 (pv 0) (pv 1)<|pv 2)) (hx:=Or.inr rfl))
  (YZ (Yw 6 M8.nd<|Vp)
  (YZ (Yw 7 M8.nd<|Vp)
  (YZ (Se (V5 Zv rfl (JM<|pv 3) (Vb (n:=3) rfl (Yl (Yj 8 M8.nd)<|Yl (Yj 9 M8.nd)<|Yl (Yj 10 M8.nd) VJ))
   (YZ (Yw 11 M8.nd<|Y3 (pv 5) TG.cl mN GN hr bN .nil Y1<|pa1<|pv 8)
  (YZ (Y5 (Jh<|U0 hu (pv 11)<|pv 6) (Yb<|Yn<|J4) Yo)
  (YZ (Vs hu (pv 6) (pv 11) (Y3 (pv 5) TG.cl mH GH hr bH .nil Y1<|pa1<|pv 9) rfl)
  (Yb<|Vs hu (pv 7) (pv 11) (JN ["other"] [5] (JM<|pv 10) (Vv (i:=0)<|by decide) (λcl C fp s H=>Yj 0 Cz rfl (Or.inl rfl) (Or.inr rfl)) λcl C fp s H=>Y3 (pv 1) TG.cl mN GN hr bN .nil Y1<|pa1<|pv 0) rfl))))))
  (YZ (Y5 (PW.pt<|UH (Jh<|XE hu Yc<|pv 6)<|Jg<|JX<|JS<|Vc DG hr<|pa3 (pv 5) (pv 6)<|pv 7) (Yb<|Yn<|J4) Yo)
  VT))))),?_⟩
 dsimp only[Vh,Cx.nox,Cx.wish];show let T0:=_;let T1:=Yk (VG _ T0 _) _;let T2:=Yk _ T1;let T3:=Yk _ T2;let T4:=Yk _ T3;let T5:=Yk _ T4;Yk _ T5 _ _ _
 intros
 have n7:=Tw K';have n1:=MJ R;have nd:S.Nodup:=hp.nodup_iff.mpr List.nodup_range;have li:S.length=nR R+1:=by rw[hp.length_eq,ve]
 refine⟨bk,gv,_,ks,d,ds,d0R R,([]:kZ).map W.tag,ra.bi,ra.hd,ra.hg,X9 _,by rw[ZA];exact ra.ln,ra.l3,ra.oks,λH1 s1=>?_⟩;intro x dx hx0 hdx hne;have sX:Same H1 (upd (upd H1 dx<|.own x) x<|.ins CG dx []):=λb o e=>by rw[Yg (Ya e hx0),Yg (Ya e hdx)];exact e
 have tx:upd (upd H1 dx<|.own x) x (.ins CG dx []) x=some (.ins CG dx []):=Yh;generalize upd (upd H1 dx<|.own x) x (.ins CG dx [])=H2 at tx sX |-;refine⟨H1,x,dx,bk,gv,ks,d,ds,d0R R,[],hx0,sX,tx,ra.bi.mono s1,ra.hd,s1 _ _ ra.hg,ra.ln,ra.l3,ra.nd,λG H3 e1 e2 e3 mx=>⟨Y,?_⟩⟩;rw[<-e1];intro u I1;refine up_in I1 _ λH4 s4 g4=>?_;intro wd F6;refine up_in F6 _ λH5 s5 g5=>?_;have I7:=s4.trans s5;have T7:H3 wd=none:=s4.free F6;have F3:MX P w H1 H5 C CK CG G ks d ds (csR R 0) (Xi (JI R.ns 0) ro0) (λa=>a=u\/a=wd):=⟨mx.sm.trans I7,mx.bi,mx.f1,mx.f2,mx.f3,mx.gg.avoids (λa z=>by rcases z with z|z <;> (rw[z];assumption)) I7⟩;have f1h:H1 u=none:=mx.sm.free I1;have f1w:H1 wd=none:=mx.sm.free T7;have F1:u≠wd:=Ya g4 F6
 have I:u≠G.st:=by
  obtain⟨st0,F8,_⟩:=mx.gg.st;exact(Ya F8 I1).symm
 have R1:wd≠G.st:=by
  obtain⟨st0,F8,_⟩:=mx.gg.st;exact(Ya F8 T7).symm
 have T9:=s1 _ _ hrl;have hxs1:=hxs.mono s1;clear mx sX tx hne;exists ⟨_,Z3<|F3.sm _ _ T9⟩
 let SW:Option V->Option V->Option V->Option V->St:=λx8 x9 G1 J2=>[some (.ref bk),some<|.str<|JI R.ns 0,some<|.ref gv,some<|.ref rl,some<|.bl full,some<|.ref G.t,some<|.ref u,some<|.ref wd,x8,x9,G1,J2]
 let Pv:pB:=λi U H'=>∃c N G2 x8 x9 G1 J2,U=SW x8 x9 G1 J2/\RwI P w H1 H' C CK CG G ks d ds R u wd D (S.take i) c N G2
 have lx:=hxs.length;rw[ZA]at lx;refine MZ (xs:=xs) Pv ⟨0,[],[],none,none,none,none,Y,⟨F3,Zc _,λk m=>by simp at m,s5 _ _ g4,Y,λk m=>by simp at m,g5,Y,λk m=>by simp at m⟩⟩ (λi U Hi _ z=>Z3 (let⟨_,_,_,_,_,_,_,_,r⟩:=z;r.mx.sm _ _ T9)) ?_ ?_
 .rintro BB RR i y U H6 hy ⟨c,N,G2,x8,x9,G1,J2,rfl,r⟩
  obtain⟨k,X,hyk⟩:=getD hxs1 hy;have kn:k<=nR R:=kL<|vt.mp<|hp.mem_iff.mp<|ZJ X;have nk:k∉S.take i:=MI nd X;have wl:=N4 R kn;obtain⟨t,ys,rfl,F7,hyl⟩:=Yr hyk;obtain⟨y1,r1,rfl,I3,hlA⟩:=Yd hyl;obtain⟨y2,r2,rfl,R7,hlB⟩:=Yd hlA;obtain⟨y3,r3,rfl,e3',hlC⟩:=Yd hlB;obtain rfl:=Y9 hlC;unfold Has at e3';obtain⟨la,zs,rfl,L,hzl⟩:=e3';obtain⟨z1,zr,rfl,I2,hzn⟩:=Yd hzl;obtain rfl:=Y9 hzn;clear hyl hlA hlB hlC hzl hzn;have M:la≠G.bs:=Ya L F3.f1;replace F7:=r.mx.sm _ _ F7;replace L:=r.mx.sm _ _ L;replace I3:=I3.mono r.mx.sm;replace R7:=R7.mono r.mx.sm;replace I2:=I2.mono r.mx.sm;exists _,Z2 F7,Y;have cn:=r.cn;refine⟨_,_,r.mx.gg.ins,QX _,G,R,c,k,_,_,y1,r.mx.gg,I3,by omega,by omega,λH7 f7 g7=>?_⟩;obtain⟨bs6,hbs6,_⟩:=r.mx.gg.bs;obtain⟨nu6,D0,_⟩:=r.mx.gg.nu;have dk:∀{a kv},H6 a=some (.dK kv)->a≠G.st->H7 a=some (.dK kv):=λh n=>f7 _ _ (Ym h hbs6 (by intro z;cases z)) (Ym h D0 Jr.symm) n h;have O:=dk r.hd I;have wd7:=dk r.wd R1;have D3:=r.mx.gg.tk f7;obtain⟨bs7,D1,_⟩:=g7.bs;obtain⟨nu7,T,_⟩:=g7.nu;obtain⟨st7,T8,_⟩:=g7.st;have Z:=r.mx.fr f7 g7;have c':max c k<=nR R:=by omega
  have F9:=(putK_new (v:=y2) r.hk nk);have dg:Vi H7 u (V.int (k:Nat)) none:=by rw[<-F9.1];exact Vi.k (k:=kK k) O
  refine⟨_,dg,_,Y,Y6 (by simp) ?_⟩;have hy2:Has H7 y2 (tagD D):=VD D3 _ (UD _) R7;have ll:=congrArg List.length r.hk;rw[ZA,ZA,ZN]at ll;have lw:=congrArg List.length r.wk;rw[ZA,ZA,ZN]at lw;refine⟨_,_,Z.gg.ins,zL _,.ref G.t,y2,D,hy2,_,UU.k (k:=kK k) O<|Yv<|by omega,?_⟩;rw[F9.2];refine fld_in u _ λH8 b8 g8=>?_;have fo8:=Ld Z O (.inl rfl) f1h I b8 ⟨_,g8⟩;have R6:=Z.fo fo8;have D2:=Mw b8 O;have wd8:=b8 _ _ F1.symm wd7
  have J:∀{a l},H6 a=some (.lst l)->a≠G.bs->H8 a=some (.lst l):=λ{a l} h n=>by
   obtain⟨st6,hst6,_⟩:=r.mx.gg.st;exact D2.2 _ _<|f7 _ _ n (Ym h D0 JP.symm) (Ym h hst6 (by intro z;cases z)) h
  have hz1:Has H8 z1 (btR R<|wnt R k):=VD D2.1 _ (U6 R _)<|VD D3 _ (U6 R _) I2;exists ⟨_,Z3<|J L M⟩;refine Vj 1 (JR<|by decide) (λp vs H'=>(p=0/\vs=[]/\H'=H8)\/(p=1/\vs=[.int (wnt R k:Nat)]/\FrG G H8 H'/\GG P w H' CG G (csR R<|max (max c k)<|wnt R k) (Xi (JI R.ns 0) ro0) (λa=>a=u\/a=wd))) (.inl ⟨rfl,rfl,rfl⟩) (λp vs H' z=>by rcases z with⟨rfl,rfl,_⟩|⟨rfl,rfl,_⟩ <;> rfl) ?_ ?_ ?_ ?_
  .rintro p vs H' hp1 z
   have hS:SqL K H8 la [z1]:=Z3<|J L M;rcases z with⟨rfl,rfl,rfl⟩|⟨rfl,rfl,_⟩
   .exact (itl hS).go 0 (vi 0)
   .exact Zr hp1 (by decide)
  .rintro vs H' z
   rcases z with⟨z,_⟩|⟨_,rfl,f9,g9⟩
   .cases z
   .exact (itl<|Z3<|f9 _ _ M (Ym (J L M) (b8 _ _ (Ym T O Jr) T) JP.symm) (Ym (J L M) (b8 _ _ I.symm T8) (by intro z;cases z))<|J L M).stop
  .rintro p vs H' x0 H'' Rr hp1 z yl hR
   rcases z with⟨rfl,rfl,rfl⟩|⟨rfl,_⟩
   .obtain ⟨rfl,ex⟩:=(itl<|Z3<|J L M).yld 0 x0 H'' yl
    cases ex;refine⟨_,_,R6.gg.ins,QX _,G,R,max c k,wnt R k,_,_,z1,R6.gg,hz1,by omega,by omega,λH9 f9 g9=>hR _ _<|.inr ⟨rfl,rfl,f9,g9⟩⟩
   .exact Zr hp1 (by decide)
  .rintro vs H9 l z hl
   rcases z with⟨z,_⟩|⟨_,rfl,f9,g9⟩
   .cases z
   refine up_in hl _ λH10 O1 g10=>?_;have I9:=R6.fr f9 g9;have T6:=I9.mono O1;have st8:=b8 _ _ I.symm T8;have I8:=b8 _ _ (Ym T O Jr) T;have bs8:=b8 _ _ (Ym D1 O (by intro z;cases z)) D1;have dk9:∀{a kv},H8 a=some (.dK kv)->a≠G.st->H10 a=some (.dK kv):=λh n=>O1 _ _<|f9 _ _ (Ym h bs8 (by intro z;cases z)) (Ym h I8 Jr.symm) n h;have hd10:=dk9 g8 I;have G3:=dk9 wd8 R1;have wn:=(putK_new (v:=.ref l) r.wk nk);refine⟨_,UU.k (k:=kK k) G3<|Yv<|by omega,?_⟩;rw[wn.2];refine fld_in wd _ λI5 I4 g11=>?_;have fo11:=Ld T6 G3 (.inr rfl) f1w R1 I4 ⟨_,g11⟩;have S2:=T6.fo fo11;have M2:=Mw I4 G3
   have nl:l≠G.bs:=by
    obtain⟨bs9,hbs9,_⟩:=I9.gg.bs;exact(Ya hbs9 hl).symm
   have R8:TK H6 I5:=λa ys h=>M2.1 _ _<|O1 _ _<|R6.gg.tk f9 _ _<|D2.1 _ _<|D3 _ _ h
   have F5:∀{a l},H6 a=some (.lst l)->a≠G.bs->I5 a=some (.lst l):=λ{a l'} h n=>by
    have h8:=J h n;exact M2.2 _ _<|O1 _ _<|f9 _ _ n (Ym h8 I8 JP.symm) (Ym h8 st8 (by intro z;cases z)) h8
   have hy11:Has I5 y2 (tagD D):=VD R8 _ (UD _) R7;exists max (max c k)<|wnt R k,N++[(kK k,y2)],G2++[(kK k,.ref l)],_,_,_,_,rfl;refine⟨S2,by omega,λk' m=>?_,I4 _ _ F1 hd10,by rw[GJ X,ZK,ZK,r.hk];rfl,λk' m=>?_,g11,by rw[GJ X,ZK,ZK,r.wk];rfl,λk' m=>?_⟩
   .rcases GL X m with z|z
    .have:=r.lc k' z
     omega
    .omega
   .rcases GL X m with z|z
    .obtain ⟨v,v1,v2⟩:=r.hv k' z
     exact⟨v,RW v1,VD R8 _ (UD _) v2⟩
    .rw [z]
     exact⟨y2,RV F9.1,hy11⟩
   .rcases GL X m with z|z
    .obtain ⟨a,v1,v2,v3⟩:=r.wv k' z
     exact⟨a,RW v1,F5 v2 v3,v3⟩
    .rw [z]
     exact⟨l,RV wn.1,M2.2 _ _ g10,nl⟩
 .rintro U H6 ⟨c,N,G2,x8,x9,G1,J2,rfl,r⟩
  rw[lx,qt]at r;have F4:∀k,k<=nR R->k∈S:=λk X=>hp.mem_iff.mpr<|vt.mpr<|kJ X;have ec:c=nR R:=Nat.le_antisymm r.cn<|r.lc _<|F4 _<|ZG _;have F2:=r.mx;rw[ec]at F2;refine⟨u,N,r.hd,λo=>?_⟩;refine fld_in u _ λH7 b7 g7=>?_;have fo7:=Ld F2 r.hd (.inl rfl) f1h I b7 ⟨_,g7⟩;have Z:=F2.fo fo7;have I6:=Mw b7 r.hd;have hv7:∀k,k<=nR R->∃v,VB N (kK k)=some v/\Has H7 v (tagD D):=λk X=>let⟨v,v1,v2⟩:=r.hv k<|F4 k X;⟨v,v1,VD I6.1 _ (UD _) v2⟩
  obtain⟨v0,ev0,_⟩:=hv7 0<|Zc _;have dg0:Vi H7 u (V.int 0) (some v0):=by rw[<-ev0];exact Xz (k:=kK 0) g7
  refine⟨_,dg0,_,Y,Y6 (by simp) ?_⟩;have mxF:MX P w H1 H7 C CK CG G ks d ds (csR R<|nR R) (Xi (JI R.ns 0) ro0) (λ_=>False):=⟨Z.sm,Z.bi,Z.f1,Z.f2,Z.f3,Z.gg.less λa z=>z.elim⟩;refine⟨H1,G,ks,d,ds,R,_,u,wd,D,j,S,o,N,G2,K',by rw[e3];exact Zc _,ht,mxF,g7,r.hk,hv7,R1,b7 _ _ F1.symm r.wd,λk X=>let⟨a,v1,v2,v3⟩:=r.wv k<|F4 k X;⟨a,v1,I6.2 _ _ v2,v3⟩,hp,λi hi h0=>?_,λH8 f8=>?_⟩
  .obtain rfl:i=0:=Nat.le_zero.mp h0
   show Xi (JI R.ns 0) ro0 0=_;unfold Xi stP Xj;rw[Zp rfl,Zp rfl]
  .exact ⟨_,rfl,VP (by decide)<|q H8 λb o e=>f8 b o (Ya (s1 _ _ e) Z.f1) (Ya (s1 _ _ e) Z.f2) (Ya (s1 _ _ e) Z.f3)<|Z.sm _ _<|s1 _ _ e⟩
abbrev wyp:kZ:=["book","F","worths","most","whole"]
def A9:Yi ["book","F","worths","most","whole","walk"] wyp (Ye N2):=Y4
inductive SWy(P:Program)(w:World)(C CK:Addr)(H:Hp)(Q:VK):List V->Prop
 |mk (bk gv:Addr) (ks:List (Str×Shp)) (d:Str->Nat) (ds:List Dd) (df:Dd) (gv':List Str) (mo:Nat) (full:Bool) (j:Nat) (rs:List Dat) (ra:RgA H C CK bk gv ks d ds df gv') (m1:1<=mo) (m2:mo<=500) (gs:Wlk ds gv' mo 8 rs j 0 (S0 df.1.1 (MA df)))
  (q:∀H',Same H H'->Q .non H'):SWy P w C CK H Q [.ref bk,.str df.1.1,.ref gv,.int (mo:Nat),.bl full]
def Qx(P:Program)(w:World)(C CK:Addr):Sp:=λZ H Q _=>SWy P w C CK H Q Z
def Cb(TW:WCl K CW)(F:Nz K "way_of" "way_of" N2 f u)(DW:Df P w K R base (n+1) "walk_of" wop (D7 P w C CK CG CO CW))(z:VN K CW "outcome" c)(G1:Yf P w K R base CX0 (n+1) c a ["self","whole"] (Rj P w C CK CG CO CW 8))(b1:Binds K a ["self","whole"] []):Yf P w K R base CX0 (n+2) f u wyp (Qx P w C CK):=by
 refine F.oi A9 λx A J s H vs Q E D h=>?_;obtain⟨bk,g,T,d,I,i,M,O,full,j,X,y,L,G,k,q⟩:=h;refine⟨_,YZ (Yw 5 A9.nd (Vc DW D<|pa4 (pv 0) (pv 1) (pv 2)<|pv 3) (hx:=Or.inr rfl))
  (YZ (Y5 (Yp UO (Ys (r:=Vy K) Yy (Y3 (pv 5) TW.cl z G1 D b1 .nil Y1<|pa1<|pv 4)<|Yc) Y0<|Yz _) (Yb<|Yn<|JJ) Yo)
  VT),?_⟩
 show let T0:=_;let T1:=Yk (VG _ T0 _) _;Yk _ T1 _ _ _
 intros
 refine⟨bk,g,T,d,I,i,M,O,y,L,G,λA' B Hm H1 U l N=>?_⟩;refine⟨_,_,N.insB,QA _,Hm,A',T,d,I,B,O,_,[],j,X,full,N,by rw[l];exact k,λv S' J2 H2 sh Z t=>?_⟩;obtain⟨t',p,S,rfl,m,_⟩:=t;exact⟨_,_,Z2 m,at0,Y,_,Y,VP (by decide +kernel)<|q H2 λb o e=>Z.mx.sm _ _<|U _ _ e⟩
end
end K4
namespace L2
open PySem
abbrev ks1(R:RP):pF:=[(R.kd,.tags R.tg)]
structure YO(R:RP):Prop where
 n8:R.ns.length=8
 m7:R.m<=7
 t1:1<=R.tg.length
 t4:R.tg.length<=4
 wk:Wds 97 [R.kd,R.own]
 wt:∃tgs r,Wds 65 tgs/\r<4/\R.tg=tgs.take (1+r)
 wn:Wds 97 R.ns
def sh1:Vf (ks1 R) R.kd=some (.tags R.tg):=by simp[Vf]
def SZ(o:YO R):(rdR R).map (λx=>x.1.1)=R.ns.take (R.m+1):=by
 have Z:=o.n8;have J:=o.m7;refine qh λi=>?_;rw[ZH,jp];unfold rdR
 cases i with
 |zero=>
  rw[Zp (by omega)];exact(Re<|by omega).symm
 |succ i=>
  rw[List.getElem?_cons_succ,ZH]
  by_cases z:i<R.m
  .rw [vS z,Zp (by omega)]
   exact(Re<|by omega).symm
  .rw [qH (by rw[ve];omega),Zq (by omega)]
   rfl
def Oa(R:RP):(rdR R).length=R.m+1:=by unfold rdR;rw[Zf,ZA,ve]
def YO.wds(o:YO R):Wds 97 ((rdR R).map λx=>x.1.1):=by
 rw[SZ o];have w:=o.wn;exact⟨w.nd.sublist<|jg _ _,λy h=>w.len y<|Zk h,λy h=>w.abc y<|Zk h⟩
def YO.nd(o:YO R):((rdR R).map λx=>x.1.1).Nodup:=o.wds.nd
def CS(R:RP):d0R R∈rdR R:=Za
def CQ(J:1<=k)(Z:k<=R.m):dkR R k∈rdR R:=by
 refine ZM _<|ZW.mpr ⟨k-1,vt.mpr<|by omega,?_⟩;rw[show k-1+1=k by omega]
def Gk(h:x∈rdR R):x=d0R R \/ ∃k,1<=k/\k<=R.m/\x=dkR R k:=by
 rcases Zd.mp h with z|z
 .exact .inl z
 .obtain ⟨k,hk,rfl⟩:=ZW.mp z
  have:=vt.mp hk;exact .inr ⟨k+1,by omega,by omega,Y⟩
def yn(o:YO R)(h:x∈rdR R):Jt ((rdR R).map (·.1)) x.1.1=some x.1.2:=LB (ds:=rdR R) o.nd h
def YO.tn(o:YO R):R.tg.Nodup:=by
 obtain⟨Z,r,w,h,e⟩:=o.wt;rw[e];exact w.nd.sublist<|jg _ _
def K5{g:pj}{k:Nat}(o:YO R)(e:VB g (Sum.inr R.own)=some (.str R.kd)):Kd (ks1 R) (Jt<|(rdR R).map (·.1)) g R.kd (inR R k):=by
 unfold inR
 split
 .refine Kd.ask (ps:=[(R.own,R.kd)]) (yn o<|CQ (k:=k+1) (by omega)<|by omega) rfl λi a p Z J=>?_
  match i,Z,J with
  |0,Z,J=>cases Z;cases J;exact Kd.name e
  |i+1,Z,J=>simp at Z
 .exact Kd.name e
def zC{g:pj}{k:Nat}(o:YO R)(e:VB g (Sum.inr R.own)=some (.str R.kd)):Kd (ks1 R) (Jt<|(rdR R).map (·.1)) g R.kd (bdR R k):=by
 unfold bdR
 split
 .exact Kd.choose sh1 (K5 o e) (by rw[ZA]) λb J=>by
   obtain⟨t,Z,rfl⟩:=ZW.mp J;exact Kd.tag sh1 Z
 .exact K5 o e
theorem D5:∀l:kZ,Bd.oks (l.map Bd.tag)/\Bd.deps (l.map Bd.tag)<=1
 |[]=>by simp[Bd.oks,Bd.deps]
 |a::l=>by
  obtain⟨Z,J⟩:=D5 l;rw[ZV];unfold Bd.oks Bd.deps;exact⟨⟨by simp[Bd.ok],Z⟩,by simp only[Bd.dep];omega⟩
def K8{k:Nat}:(inR R k).ok/\(inR R k).dep<=2:=by
 unfold inR
 split
 .exact ⟨by simp[Bd.ok,Bd.oks],by simp[Bd.dep,Bd.deps]⟩
 .exact ⟨by simp[Bd.ok],by simp[Bd.dep]⟩
def Aj{k:Nat}(o:YO R):(bdR R k).ok/\(bdR R k).dep<=3/\(bdR R k).size<=10:=by
 have J:=o.t1;have L:=o.t4;obtain⟨G,O⟩:=D5 R.tg;obtain⟨Z,N⟩:=K8 (R:=R) (k:=k);have M:=NU R k;unfold bdR
 split
 .unfold Dn
  exists ?_,?_
  .unfold Bd.ok
   exact⟨Z,by rw[ZA],⟨J,by omega⟩,G⟩
  .unfold Bd.dep
   omega
  .unfold Bd.size
   rw[IA];omega
 .exact ⟨Z,by omega,by omega⟩
def YO.ok(o:YO R):∀x∈rdR R,x.2.ok/\x.2.dep<=4/\x.2.size<=20:=λx Z=>by
 rcases Gk Z with rfl|⟨k,_,_,rfl⟩
 .obtain ⟨i1,i2⟩:=K8 (R:=R) (k:=0)
  have J:=NU R 0;exact⟨by simp[d0R,Bd.ok,i1],by simp only[d0R,Bd.dep];omega,by simp only[d0R,Bd.size];omega⟩
 .obtain ⟨h1,h2,h3⟩:=Aj (k:=k) o
  exact⟨h1,by show(bdR R k).dep<=4;omega,by show(bdR R k).size<=20;omega⟩
def YO.k(o:YO R):RK R (rdR R):=⟨o.n8,o.m7,o.t1,o.t4,o.tn,o.nd,CS R,λk J Z=>CQ J Z,λx h=>(o.ok x h).1⟩
def c1(R:RP):pG:=λ_=>1+R.tg.length
def YO.kk(o:YO R):KK 30 (c1 R) (λ_=>0) (ks1 R):=by
 rintro i y s h
 cases i with
 |zero=>
  cases h;exact⟨o.t1,o.t4,Y,Y,o.tn⟩
 |succ i=>simp at h
def YO.kg(o:YO R):KG (ks1 R):=by
 obtain⟨Z,r,w,h,e⟩:=o.wt;have J:=o.wk;exists ⟨by simp,λy h=>J.len y ?_,λy h=>J.abc y ?_⟩,⟨Z,w,?_⟩
 .have:y=R.kd:=by simpa using h
  rw[this];exact Za
 .have:y=R.kd:=by simpa using h
  rw[this];exact Za
 .rintro i y ts hh
  cases i with
  |zero=>cases hh;exact⟨r,h,by rw[e];rfl⟩
  |succ i=>simp at hh
 .rintro i1 i2 y1 y2 a b h1 h2
  cases i1 with
  |zero=>cases h1
  |succ i=>simp at h1
def YO.hd(o:YO R):∀x∈rdR R,P7 ((ks1 R).map (·.1)) (c1 R) 50 x.1:=by
 have J:=o.t4;intro x Z;rcases Gk Z with rfl|⟨k,_,_,rfl⟩
 .refine ⟨by show 0<=3;decide,λp h=>(by cases h),by show R.kd∈_;simp,jM,λp h=>(by cases h),?_⟩
  show _<=50;simp only[V0,d0R,c1,ZV,jh,List.foldr_cons,List.foldr_nil,je,List.foldl_nil];omega
 .have mm:∀p∈ [(R.own,R.kd)],p.2=R.kd/\p.1∈ [R.kd,R.own]:=λp h=>by
   rw[ZQ]at h;subst h;exact⟨Y,by simp⟩
  exists by show 1<=3;decide,λp h=>?_,by show R.kd∈_;simp,by show[R.own].Nodup;simp,λp h=>?_
  .rw [(mm p h).1];simp
  .have m:=(mm p h).2
   exact⟨(o.wk.len _ m).1,(o.wk.len _ m).2,o.wk.abc _ m⟩
  .show _<=50
   simp only[V0,dkR,c1,ZV,jh,List.foldr_cons,List.foldr_nil,je,List.foldl_nil];omega
def YO.rt(o:YO R):∀x∈rdR R,K4.DRt (ks1 R) (rdR R) x:=by
 have G:∀z Z,Vf (ks1 R) z=some (.tags Z)->1<=Z.length:=λz Z e=>(o.kk.at e).1;intro x J;obtain⟨L,N,M⟩:=o.ok x J;refine⟨⟨L,by omega,by omega⟩,?_⟩;refine Kd.kdn o.kg G 13 _ _ _ ?_ (by omega);rcases Gk J with rfl|⟨k,_,_,rfl⟩
 .have pn:VB (putK ([]:pj) (Sum.inr R.own)<|.str R.kd) (Sum.inr R.own)=some (.str R.kd):=by rw[V8,Zp rfl]
  exact Kd.letb Y (by simp) (K5 o pn) (Kd.name pn)
 .exact zC o (Vx rfl)
theorem WE:∀Z:kZ,HasL H (Z.map V.str)<|Z.map Dat.str
 |[]=>Z6
 |w::Z=>Z4 (by unfold Has;rfl)<|WE Z
def Ex{Z:kZ}{k:Nat}{x:Str}(h:Z[k]?=some x):atI (Z.map V.str) (k:Int)=some (.str x):=VC (by rw[ZH,h];rfl)
def Gv(h:H a=some (.tup [.str "name",.str x])):Has H (.ref a) (Bd.name x).dat:=by
 unfold Bd.dat;exact Yx h<|Z4 VA<|Z5 VA
def Nr(h:H c=some (.tup [.str "ask",.str f,.ref b]))(J:H b=some (.tup [.ref a]))(Z:Has H (.ref a) (Bd.name x).dat):Has H (.ref c) (Bd.ask f [.name x]).dat:=by
 conv=>arg 3;unfold Bd.dat
 refine Yx h<|Z4 VA<|Z4 VA<|Z5<|Yx J ?_;unfold Bd.dats;refine Z4 Z ?_;unfold Bd.dats;exact Z6
def Pw(h:H c=some (.tup [.str "choose",v,.ref b]))(M:Has H v d.dat)(L:H b=some (.tup Z))(G:HasL H Z (Bd.brs N J)):Has H (.ref c) (Bd.choose d J N).dat:=by
 conv=>arg 3;unfold Bd.dat
 exact Yx h<|Z4 VA<|Z4 M<|Z5<|Yx L G
def PQ(h:H c=some (.tup [.str "let",.str x,.str y,v,u]))(J:Has H v d.dat)(Z:Has H u e.dat):Has H (.ref c) (Bd.letb x y d e).dat:=by
 conv=>arg 3;unfold Bd.dat
 exact Yx h<|Z4 VA<|Z4 VA<|Z4 VA<|Z4 J<|Z5 Z
def Le(x:Dd):(Ws x).ti=true:=by
 have:∀l:List (Str×Str),Dat.tis (l.map λp=>Dat.tup [.str p.1,.str p.2])=true:=λl=>by
  induction l with
  |nil=>simp[Dat.tis]
  |cons a l ih=>rw[ZV];unfold Dat.tis;rw[ih];simp[Dat.ti,Dat.tis]
 simp[Ws,Dat.ti,Dat.tis,this,Bd.ti]
theorem Ew{α:Type}(f:α->Bd)(g:α->Str):∀l:List α,Bd.brs (l.map f) (l.map g)=l.map λx=>.tup [.str (g x),(f x).dat]
 |[]=>by unfold List.map Bd.brs;rfl
 |a::l=>by rw[ZV,ZV];unfold Bd.brs;rw[Ew f g l];rfl
def Lr(Z:kZ):Bd.brs (Z.map Bd.tag) Z=Z.map λt=>.tup [.str t,.tup [.str "tag",.str t]]:=by
 have:=Ew Bd.tag id Z;rw[List.map_id]at this;rw[this];refine j6 λt _=>?_;unfold Bd.dat
 rfl
def D6(h:H c=some (.tup [.str "tag",.str x])):Has H (.ref c) (K4.tagD x):=Yx h<|Z4 VA<|Z5 VA
theorem D4:∀(a:pE){b:pE},Dat.tis a=true->Dat.tis b=true->Dat.tis (a++ b)=true
 |[],b,_,h=>h
 |d::a,b,h1,h2=>by
  unfold Dat.tis at h1;have Z:=jY.mp h1;show Dat.tis (d::(a++ b))=true;unfold Dat.tis;rw[Z.1,D4 a Z.2 h2]
  rfl
structure LsT(H:Hp)(a:Addr)(ds:List Dat):Prop where
 ex:∃xs,H a=some (.lst xs)/\HasL H xs ds
 ti:Dat.tis ds=true
def LsT.mono(h:LsT H a L)(s:Same H M):LsT M a L:=⟨let⟨Z,G,J⟩:=h.ex;⟨Z,s _ _ G,J.mono s⟩,h.ti⟩
def LsT.tk(h:LsT H a M)(n:a≠p)(b:SameB p H Z)(t:TK H Z):LsT Z a M:=⟨let⟨J,L,G⟩:=h.ex;⟨J,b _ _ n L,Vu t _ h.ti G⟩,h.ti⟩
def LsT.app(h:LsT H a R)(e:H a=some (.lst M))(N:Has H v d)(Z:d.ti=true)(b:SameB a H L)(x:L a=some (.lst<|M++[v])):LsT L a (R++[d]):=by
 have t:=V6 b e;obtain⟨⟨T,G,O⟩,J⟩:=h;rw[e]at G;cases G;exact⟨⟨_,x,Z7 (Vu t _ J O)<|Z5<|VD t _ Z N⟩,D4 _ J<|by simp[Dat.tis,Z]⟩
def Ur(s:Vz H p)(b:SameB a H Z)(n:a≠p):Vz Z p:=let⟨w,x,y,z,h⟩:=s;⟨w,x,y,z,b _ _ n.symm h⟩
structure R2S(H1 H:Hp)(p dl bl:Addr)(D1 D2:List Dat):Prop where
 fr:∀b o,b≠p->b≠dl->b≠bl->H1 b=some o->H b=some o
 st:Vz H p
 l1:LsT H dl D1
 l2:LsT H bl D2
 n:dl≠p/\bl≠p/\dl≠bl
def R2S.mono(r:R2S L H p dl bl D1 D2)(s:Same H M):R2S L M p dl bl D1 D2:=⟨λb o G J Z e=>s _ _<|r.fr b o G J Z e,r.st.sm s,r.l1.mono s,r.l2.mono s,r.n⟩
def R2S.but(r:R2S N H p dl bl D1 D2)(b:SameB p H J)(G:Vz J p):R2S N J p dl bl D1 D2:=
 have t:=r.st.tkB b
 ⟨λc o Z M L e=>b _ _ Z<|r.fr c o Z M L e,G,r.l1.tk r.n.1 b t,r.l2.tk r.n.2.1 b t,r.n⟩
def R2S.app1(r:R2S R H p dl bl D1 D2)(e:H dl=some (.lst G))(M:Has H v d)(L:d.ti=true)(b:SameB dl H J)(x:J dl=some (.lst<|G++[v])):R2S R J p dl bl (D1++[d]) D2:=
 ⟨λc o O Z N e=>b _ _ Z<|r.fr c o O Z N e,Ur r.st b r.n.1,r.l1.app e M L b x,r.l2.tk r.n.2.2.symm b<|V6 b e,r.n⟩
def R2S.app2(r:R2S R H p dl bl D1 D2)(e:H bl=some (.lst G))(M:Has H v d)(L:d.ti=true)(b:SameB bl H J)(x:J bl=some (.lst<|G++[v])):R2S R J p dl bl D1 (D2++[d]):=
 ⟨λc o O N Z e=>b _ _ Z<|r.fr c o O N Z e,Ur r.st b r.n.2.1,r.l1.tk r.n.2.2 b<|V6 b e,r.l2.app e M L b x,r.n⟩
def Ky{H:Hp}{Z:px}{G:pE}(h:HasL H Z (G++[d])):∃M v,Z=M++[v]/\Has H v d:=by
 have l:=h.length;rw[ZL,vc]at l;have J:Z≠[]:=λz=>by rw[z]at l;simp at l
 exists Z.dropLast,Z.getLast J,(jc J).symm
 have e:Z[G.length]?=some (Z.getLast J):=by
  rw[List.getLast_eq_getElem,show G.length=Z.length-1 by omega];exact ZD _
 obtain⟨O,L,N⟩:=h.get e;rw[vb (ZG _),vO]at L;cases L;exact N
def IK(h:Vz H p)(e:H r=some o)(n:∀J,o≠.lst J):r≠p:=λz=>by
 obtain⟨a,b,c,d,Z⟩:=h;rw[<-z,e]at Z;cases Z;exact n _ Y
mutual
theorem Dat.st_ti:∀{d:Dat},d.st=true->d.ti=true
 |.str _,_=>by unfold Dat.ti;rfl
 |.int _,_=>by unfold Dat.ti;rfl
 |.bl _,_=>by unfold Dat.ti;rfl
 |.non,_=>by unfold Dat.ti;rfl
 |.lst _,t=>by unfold Dat.st at t;cases t
 |.tup ds,t=>by
  unfold Dat.st at t;unfold Dat.ti;exact Dat.sts_tis t
theorem Dat.sts_tis:∀{Z:pE},Dat.sts Z=true->Dat.tis Z=true
 |[],_=>by unfold Dat.tis;rfl
 |d::Z,t=>by
  unfold Dat.sts at t;have t:=jY.mp t;unfold Dat.tis;rw[Dat.st_ti t.1,Dat.sts_tis t.2]
  rfl
end
theorem zE{H:Hp}{i:Int}:∀w:W,¬Has H (.int i) w.dat
 |.non,h=>by unfold W.dat Has at h;cases h
 |.tag _,h=>by unfold W.dat Has at h;cases h
 |.pair _ _,h=>by
  unfold W.dat Has at h;obtain⟨_,_,h,_⟩:=h;cases h
def BI.st(b:BI H C Q t D d E)(s:SameB p H F)(R:Vz H p):BI F C Q t D d E:=by
 have go:∀{r:Addr}{o:HO},H r=some o->(∀N,o≠.lst N)->F r=some o:=λh n=>s _ _ (IK R h n) h;have O:=R.tkB s;obtain⟨A,X,rfl,G⟩:=b;obtain⟨j,S,e,J,Z⟩:=G.so;refine⟨A,X,Y,go G.ins λ_=>nofun,⟨j,S,e,⟨go J.ins λ_=>nofun,go J.sh λ_=>nofun,go J.wo λ_=>nofun,go J.he λ_=>nofun,go J.pd λ_=>nofun,go J.tk λ_=>nofun,go J.pk λ_=>nofun,J.nd⟩,?_⟩,go G.td λ_=>nofun,G.ke,Vu O _ (Dat.sts_tis<|GE E) G.va,G.nd⟩;refine⟨Z.ke,λy B h=>let⟨v,T,M⟩:=Z.sh y B h;⟨v,T,VD O _ (Dat.st_ti<|Shp.st B) M⟩,λy h=>?_,Z.he,Z.pd,Z.tk,Z.pk,Z.ln⟩;obtain⟨l,N,T,M,L⟩:=Z.wo y h;refine⟨l,N,T,s _ _ (λz=>?_) M,Vu O _ (UW λd P=>by obtain⟨u,_,rfl⟩:=ZW.mp P;exact W.ti u) L⟩;obtain⟨_,_,_,_,e⟩:=R;rw[z,e]at M;cases M
 cases hw:Y2 D 3 y with
 |nil=>
  rw[hw]at L;have:=L.length;simp at this
 |cons w q=>
  rw[hw]at L;obtain⟨_,_,U,I,_⟩:=Yd L;cases U;exact zE w I
def RB(R:RP)(f:Nat->Bool):RP:={R with lk:=f}
def Pr{R:RP}{f g:Nat->Bool}{k:Nat}(h:f k=g k):dkR (RB R f) k=dkR (RB R g) k:=by
 have e:lkR (RB R f) k=lkR (RB R g) k:=by unfold lkR;show(_ && f k)=(_ && g k);rw[h];rfl
 unfold dkR bdR;rw[e]
 rfl
def Oq{R:RP}{f g:Nat->Bool}{k:Nat}(h:f k=g k):pR (RB R f) k=pR (RB R g) k:=by
 have e:lkR (RB R f) k=lkR (RB R g) k:=by unfold lkR;show(_ && f k)=(_ && g k);rw[h];rfl
 unfold pR;rw[e]
theorem Mm{R:RP}{f g:Nat->Bool}:∀{k:Nat},(∀j,j<k->f j=g j)->btR (RB R f) k=btR (RB R g) k
 |0,_=>rfl
 |k+1,h=>by
  unfold btR;rw[Mm λj Z=>h j<|jN Z,Oq (h k<|vi k)]
def upF(f:Nat->Bool)(k:Nat)(c:Bool):Nat->Bool:=λj=>if j=k then c else f j
def N5(h:j≠k):upF f k c j=f j:=Zq h
def Qn:upF f k c k=c:=Zp rfl
def dsR(R:RP)(f:Nat->Bool)(i:Nat):pE:=(d0R R::(List.range i).map λk=>dkR (RB R f)<|k+1).map Ws
def bsR(R:RP)(f:Nat->Bool)(i:Nat):pE:=(List.range i).map λk=>btR (RB R f)<|k+1
def La:dsR R (upF f (i+1) c) (i+1)=dsR R f i++[Ws (dkR (RB R<|upF f (i+1) c)<|i+1)]:=by
 have e:((List.range i).map λk=>dkR (RB R<|upF f (i+1) c)<|k+1)=(List.range i).map λk=>dkR (RB R f) (k+1):=j6 λk Z=>by
  have:=vt.mp Z;exact Pr<|N5<|by omega
 unfold dsR;rw[vT,ZK,e,<-kP,ZK]
 rfl
def Lq(h:n<=i+1):bsR R (upF f (i+1) c) n=bsR R f n:=j6 λk Z=>by
 have:=vt.mp Z;exact Mm λj J=>N5<|by omega
def Nq:bsR R f (i+1)=bsR R f i++[btR (RB R f) (i+1)]:=by unfold bsR;rw[vT,ZK];rfl
def Pp:(dsR R f i).length=i+1:=by unfold dsR;rw[ZA,Zf,ZA,ve]
def P2:(bsR R f i).length=i:=by unfold bsR;rw[ZA,ve]
def Ak{R:RP}{f:Nat->Bool}{k:Nat}(Z:R.m≠0)(e:f k=c):bdR (RB R f) k=if c=true then Dn R (inR R k)else inR R k:=by
 have J:lkR (RB R f) k=c:=by unfold lkR;show(decide (R.m≠0) && f k)=c;rw[e,decide_eq_true Z];rfl
 unfold bdR;rw[J]
 rfl
def Sm{R:RP}{f:Nat->Bool}{k:Nat}(Z:R.m≠0)(J:k≠0)(e:f k=c):pR (RB R f) k=if c=true then[0]else[]:=by
 have G:lkR (RB R f) k=c:=by unfold lkR;show(decide (R.m≠0) && f k)=c;rw[e,decide_eq_true Z];rfl
 unfold pR;rw[G,Zq J]
def CP{H:Hp}{v:V}{R:RP}{k j:Nat}(J:Has H v (rwD R tip k))(Z:Has H v (btR R j)):False:=by
 have:=Has.inj _ _ J Z
 cases j with
 |zero=>unfold rwD btR at this;simp at this
 |succ j=>unfold rwD btR at this;simp at this
def R9{H T:Hp}{R:RP}(b:SameB a H T)(D:Vz H a \/ ∃(J:px)(L:List Nat),H a=some (.lst J)/\HasL H J (L.map<|rwD R tip))(h:Has H v (rwD R tip k)):Has T v (rwD R tip k):=by
 have G:TK H T:=by
  rcases D with A|⟨J,_,e,_⟩
  .exact A.tkB b
  .exact V6 b e
 obtain⟨t,J,rfl,C,X⟩:=Yr h;obtain⟨u,o,rfl,g,j⟩:=Yd X;obtain⟨f,l,rfl,m,Q⟩:=Yd j;obtain⟨d,r,rfl,E,P⟩:=Yd Q;obtain rfl:=Y9 P;unfold Has at E;obtain⟨B,F,rfl,Z,N⟩:=E
 have M:B≠a:=by
  rcases D with⟨w,x,y,z,e⟩|⟨J,L,e,O⟩
  .intro q
   rw[q,e]at Z;cases Z;have:=N.length;simp at this
  .intro q
   rw[q,e]at Z;cases Z;obtain⟨c,p,rfl,U,_⟩:=Yd N
   cases L with
   |nil=>have:=O.length;simp at this
   |cons i L=>
    rw[ZV]at O;obtain⟨_,_,S,I,_⟩:=Yd O;cases S;exact CP I U
 refine Yx (G _ _ C)<|Z4 (VD G _ (U6 R k) g)<|Z4 (VD G _ (UD tip) m)<|Z5 ?_;unfold Has;exact⟨B,F,Y,b _ _ M Z,Vu G _ (by simp[Dat.tis,U6]) N⟩
theorem Jk{H M:Hp}{R:RP}(b:SameB a H M)(L:Vz H a \/ ∃(G:px)(Z:List Nat),H a=some (.lst G)/\HasL H G (Z.map<|rwD R tip)):∀{Z:List Nat}{J:px},HasL H J (Z.map<|rwD R tip)->HasL M J (Z.map<|rwD R tip)
 |[],J,h=>by
  obtain rfl:=Y9 h;exact Z6
 |k::Z,J,h=>by
  obtain⟨x,r,rfl,O,N⟩:=Yd h;exact Z4 (R9 b L O)<|Jk b L N
end L2
namespace K4
open PySem L2
section
variable{C CK:Addr}
def AD:List.Nodup [("tag":Str)]:=by decide +kernel
abbrev smp:kZ:=["stream","inner","tags"]
def yG:Yi smp smp (Ye Gz):=Y4
inductive SSm(H:Hp)(Q:VK):List V->Prop
 |mk (p tl:Addr) (v:V) (b:Bd) (R:RP) (st:Vz H p) (hv:Has H v b.dat) (ne:tl≠p) (htl:H tl=some (.lst (R.tg.map V.str))) (t4:R.tg.length<=4)
  (q:∀t u a c H',SameB p H H'->Vz H' p->H' t=some (.tup [u,.ref a])->H' a=some (.tup ((if c=true then[0]else[]:List Int).map V.int))->Has H' u (if c=true then Dn R b else b).dat->Q (.ref t) H'):SSm H Q [.ref p,v,.ref tl]
def Q0:Sp:=λZ H Q _=>SSm H Q Z
def Cf(B:Blt mg)(F:Fun K "_law_same_tag" "_law_same_tag" Gz f fd)(DT:Df P w K mg base n "_law_take" ["stream","many"] WG):Yf P w K mg base CX0 (n+1) f fd smp Q0:=by
 refine F.oi yG λJ2 A j s H x Q E hr h=>?_;obtain⟨p,tl,v,b,R,X,hv,ne,g,t4,q⟩:=h;refine⟨_,YZ (Y5 (Yp Vl (Vc DT hr<|pa2 (pv 0)<|Yc) Yc<|Yz _) (Yb<|Yn<|Yq<|pa2 (pv 1)<|Yq<|VR) Yo)
  (Yb<|Yn<|Yq<|pa2 (Yq<|pa3 (Y0) (pv 1)<|Ve Jl rfl B.tuple Jp (pa1<|JN ["tag"] [] (JM<|pv 2) (Vv (i:=0)<|by decide) (λcl C fp s H=>Yj 0 AD rfl (Or.inl rfl) (Or.inr rfl)) λcl C fp s H=>Yq<|pa2 (pv 0)<|Yq<|pa2 (Y0)<|pv 0))<|Yq<|pa1<|Yc),?_⟩
 dsimp only[Vh,Cx.nox,Cx.wish];show let T0:=_;let T1:=_;Yk (VG _ T1 _) T0 _ _ _
 intros
 refine⟨p,2,Y,X,by decide,by decide,λr H2 r0 r2 I M=>⟨Y,_,Y,FQ (λzr=>?_) λzr=>?_⟩⟩
 .have hv2:=VD (X.tkB I.sb) _ (Bd.ti b) hv
  refine⟨sl 0,λa k=>?_⟩;refine up_in k _ λHa N o=>⟨sl 2,λc T=>?_⟩;refine up_in T _ λHc J u=>q c v a false _ (I.sb.trans (N.trans J).sb) (M.sm<|N.trans J) u (J _ _ o) ?_;rw[Zq (by decide)];exact hv2.mono<|N.trans J
 .have hv2:=VD (X.tkB I.sb) _ (Bd.ti b) hv
  have Z:=I.sb _ _ ne g;exists ⟨_,Z3 Z⟩;refine Nh (us:=R.tg) (D:=Dat.str) (F:=λt=>.tup [.str t,.tup [.str "tag",.str t]]) (λH' s=>itl<|Z3<|s _ _ Z) (WE _) (by omega) (λt y H7 Rr m S hy hR=>?_) λx l H7 fl S hl z=>?_
  .obtain rfl:=has_str hy
   refine⟨sl 2,λa k=>?_⟩;refine up_in k _ λHa N o=>⟨sl 2,λc T=>?_⟩;refine up_in T _ λHc J u=>hR _ _ (N.trans J) ?_;exact Yx u<|Z4 VA<|Z5<|D6<|J _ _ o
  .refine ⟨l,x,rfl,.inl ⟨Z3 hl,λt ht=>?_⟩⟩
   refine up_in ht _ λH4 U g4=>⟨sl 3,λc T=>?_⟩;refine up_in T _ λH5 O g5=>⟨sl 1,λd hd=>?_⟩;refine up_in hd _ λH6 L g6=>⟨sl 2,λe he=>?_⟩;refine up_in he _ λH8 G g8=>q e _ d true _ (I.sb.trans (S.trans<|U.trans<|O.trans<|L.trans G).sb) (M.sm<|S.trans<|U.trans<|O.trans<|L.trans G) g8 (G _ _ g6) ?_;rw[Zp rfl];unfold Dn;refine Pw (G _ _<|L _ _ g5) (hv2.mono<|S.trans<|U.trans<|O.trans<|L.trans G) (G _ _<|L _ _<|O _ _ g4) ?_;rw[Lr];exact z.mono<|U.trans<|O.trans<|L.trans G
end
end K4
namespace L2
open PySem
def MY{H Z:Hp}(b:SameB p H Z)(G:Vz H p)(J:Vz Z p)(h:Z x=none):H x=none:=by
 cases e:H x with
 |none=>rfl
 |some o=>
  by_cases z:x=p
  .obtain ⟨_,_,_,_,h1⟩:=J
   rw[z,h1]at h;cases h
  .rw [b _ _ z e]at h
   cases h
def Xq(Z:H x=none)(s:SameB p H J)(b:SameB x J G):SameB p H G:=λa o n h=>b a o (Ya h Z)<|s a o n h
def Qh(R:RP)(h:k<nR R):(k+1) % nR R+1=wnt R (k+1):=by
 unfold wnt nxR;rw[Zq (Nat.succ_ne_zero k)];have e:nR R=max R.m 1:=rfl
 by_cases z:k+1<nR R
 .rw [kQ z,Zp (by omega)]
 .rw [show k+1=nR R by omega,Nat.mod_self,Zq (by omega)]
def EH{R:RP}{k:Nat}(h:H t=some (.tup [b,Z,.ref l]))(M:Has H b (btR R k))(J:Has H Z (K4.tagD tip))(G:H l=some (.lst [c]))(L:Has H c (btR R<|wnt R k)):Has H (.ref t) (rwD R tip k):=by
 refine Yx h<|Z4 M<|Z4 J<|Z5 ?_;unfold Has;exact⟨l,_,Y,G,Z5 L⟩
def AF(a b:Nat):((a:Nat):Int) % (b:Int)=((a % b:Nat):Int):=rfl
def MP{L:pE}{Z:px}{i:Nat}{d:Dat}(h:HasL H Z L)(e:L[i]?=some d):∃v,Z[i]?=some v/\Has H v d:=by
 have J:=(ZF.mp e).1;rw[<-h.length]at J;exists Z[i],ZD J;obtain⟨N,G,M⟩:=h.get<|ZD J;rw[e]at G;cases G;exact M
def P1:(btL R).length=nR R:=by unfold btL;rw[ZA,ve]
def Dr{R:RP}{k:Nat}(h:k<nR R):(btL R)[k]?=some (btR R<|k+1):=by unfold btL;rw[ZH,vS h];rfl
end L2
namespace K4
open PySem L2
section
variable{C CK:Addr}
def Um:Yi ["stream","names","tags","kind","own","many","first","definitions","births","k","inner","body","place","tip","rows"] ["stream"] (Ye DF):=Y4
inductive SRd(C CK:Addr)(H:Hp)(Q:VK):List V->Prop
 |mk (p:Addr) (st:Vz H p)
  (q:∀(r bk bl rl:Addr)(R:RP)(d:Str->Nat)(j:Nat)(tip:Str)(xs:List V)(H':Hp),SameB p H H'->Vz H' p->H' r=some (.tup [.ref bk,.str (JI R.ns 0),.ref bl,.ref rl])->BI H' C CK bk (ks1 R) d (rdR R)->YO R->R.tg[j]?=some tip->LsT H' bl (btL R)->bl≠p->H' rl=some (.lst xs)->HasL H' xs ((List.range (nR R+1)).map (rwD R tip))->Q (.ref r) H'):SRd C CK H Q [.ref p]
def Q1(C CK:Addr):Sp:=λZ H Q _=>SRd C CK H Q Z
def Cj(B:Blt mg)(F:Fun K "_law_round" "_law_round" DF f fd)(DT:Df P w K mg base (n+2) "_law_take" ["stream","many"] WG)(DW:Df P w K mg base (n+2) "_law_words" ["stream","many","letters","ways"] Wv)(DS:Df P w K mg base (n+2) "_law_small" ["stream","many"] Ri)(DL:Df P w K mg base (n+2) "_law_same_tag" smp Q0)(mB:mg "Book"=some (.ref C))(MB:Mk K C g)(GB:Yf P w K mg base CX0 (n+1) g gd ["self","kinds","definitions"] (SA C CK))(bB:Binds K gd ["self","kinds","definitions"] []):Yf P w K mg base CX0 (n+3) f fd ["stream"] (Q1 C CK):=by
 refine F.oi Um λcdv A outer s H vs Q E hr h=>?_;obtain⟨p,st,q⟩:=h;refine⟨_,YZ (Yw 1 Um.nd<|Vc DS hr<|pa2 (pv 0)<|Yc)
  (YZ (Yw 2 Um.nd<|JA Wx (Vc DW hr<|pa4 (pv 0) (Yc) (Y0)<|Yc) JZ<|JY<|VE JT (Yc)<|Vc DT hr<|pa2 (pv 0)<|Yc)
  (YZ (Ji (Vc DS hr<|pa2 (pv 0)<|Yc)<|Si (n:=2) rfl (Yl (Yj 3 Um.nd)<|Yl (Yj 4 Um.nd) VJ))
  (YZ (Yw 5 Um.nd<|Ys VI (Vg<|VS (Yc)<|VS (Yc)<|pa6 (Yc) (Yc) (Yc) (Yc) (Yc)<|Yc) (Vc DT hr<|pa2 (pv 0)<|Yc) λ_ _=>rfl)
  (YZ (Yw 6 Um.nd<|Yq<|pa2 (Y0)<|pv 4)
  (YZ (Y5 (Yp Gs (pv 5) Yc<|Yz _) (Yb<|Yw 6 Um.nd<|Yq<|pa3 (Y0) (Ys VI (pv 1)<|Yc)<|Yq<|pa1<|Yq<|pa2 (Y0)<|pv 4) Yo)
  (YZ (Yw 7 Um.nd<|Vg<|pa1<|Yq<|pa4 (Ys VI (pv 1)<|Yc) (Yq<|VR) (pv 3)<|Yq<|pa5 (Y0) (pv 4) (pv 3) (pv 6)<|Yq<|pa2 (Y0)<|pv 4)
  (YZ (Yw 8 Um.nd<|Vg<|pa1<|Yq<|pa2 (Yq<|VR)<|Yq<|pa1<|Yc)
  (YZ (V5 Zv rfl (FF rfl B.range (pa2 Yc<|VE JT (pv 5)<|Yc)) (Yj 9 Um.nd)
   (YZ (Yw 10 Um.nd<|Yq<|pa2 (Y0)<|pv 4)
  (YZ (Y5 (Yp QM (pv 9) (pv 5)<|Yz _) (Yb<|Yw 10 Um.nd<|Yq<|pa3 (Y0) (Ys VI (pv 1) (VE JT (pv 9)<|Yc) λ_ _=>rfl)<|Yq<|pa1<|Yq<|pa2 (Y0)<|pv 4) Yo)
  (YZ (Ji (Vc DL hr<|pa3 (pv 0) (pv 10)<|pv 2)<|Vb (n:=2) rfl (Yl (Yj 11 Um.nd)<|Yl (Yj 12 Um.nd) VJ))
  (YZ (VW<|Js Zz Z0 Z1 Vn (pv 7)<|pa1<|Yq<|pa4 (Ys VI (pv 1) (pv 9) λ_ _=>rfl) (Yq<|pa1<|Yq<|pa2 (pv 4)<|pv 3) (pv 3)<|pv 11)
  (Yb<|Y5 (Yp QM (pv 9) (pv 5)<|Yz _) (Yb<|VW<|Js Zz Z0 Z1 Vn (pv 8)<|pa1<|Yq<|pa2 (Ys VI (pv 8)<|Tu X8 Yc)<|pv 12) Yo))))))
  (YZ (Yw 13 Um.nd<|Yq<|pa2 (Y0)<|Ys VI (pv 2) (Vc DT hr<|pa2 (pv 0)<|VF Y8 rfl B.len Zu (pa1<|pv 2)) λ_ _=>rfl)
  (YZ (Yw 14 Um.nd<|Vg<|pa1<|Yq<|pa3 (Yq<|VR) (pv 13)<|Vg<|pa1<|Ys VI (pv 8)<|Yc)
  (YZ (V5 Zv rfl (UN rfl B.range (pa1<|VF Y8 rfl B.len Zu (pa1<|pv 8))) (Yj 9 Um.nd)
   (Yb<|VW<|Js Zz Z0 Z1 Vn (pv 14)<|pa1<|Yq<|pa3 (Ys VI (pv 8) (pv 9) λ_ _=>rfl) (pv 13)<|Vg<|pa1<|Ys VI (pv 8) (VE Jq (VE JT (pv 9)<|Yc)<|VF Y8 rfl B.len Zu (pa1<|pv 8)) λ_ _=>rfl))
  (Yb<|Yn<|Yq<|pa4 (Uc MB GB hr rfl mB bB .nil Y1 (pa2 (Vg<|pa1<|Yq<|pa2 (pv 3)<|Yq<|pa2 (Y0)<|Ve Jl rfl B.tuple Jp (pa1<|pv 2))<|pv 7)) (Ys VI (pv 1)<|Yc) (pv 8)<|pv 14)))))))))))),?_⟩
 dsimp only[Vh,Cx.nox,Cx.wish];show let T0:=_;let T1:=_;let T2:=Yk (UX _ _ T1) T0;let T3:=Yk _ T2;let T4:=Yk _ T3;let T5:=_;let T6:=VG _ T5 _;let T7:=Yk _ T6;let T8:=Yk _ T7;let T9:=_;let T10:=Yk (VG _ T9 _) T8;let T11:=Yk _ T10;let T12:=Yk (UX _ _ T11) T4;let T13:=Yk _ T12;let T14:=Yk _ T13;let T15:=_;let T16:=Yk (VG _ T15 _) T14;let T17:=Yk _ T16;let T18:=Yk _ T17;let T19:=Yk _ T18;let T20:=Yk _ T19;Yk _ T20 _ _ _
 intros
 refine⟨p,8,Y,st,by decide,λnl ns H1 s1 st1 fnl R7 hnl l8 wn=>?_⟩;refine⟨p,4,65,2,?_,st1,.inr Y,by decide,.inl ⟨by decide,by decide⟩,λtl0 M2 H2 b2 st2 ft nt ht l4 wt=>?_⟩
 .rw [<-RF];rfl
 refine⟨p,4,Y,st2,by decide,by decide,λr H3 r0 r4 b3 st3=>?_⟩;obtain⟨rr,rfl⟩:=qu r0;refine⟨_,Y,tl0,_,Y,Z3<|b3.sb _ _ nt ht,λtl htl=>?_⟩;dsimp only;rw[show(1:Int)+(rr:Int)=((1+rr:Nat):Int) by omega,Lj _ _ (by rw[ZA,l4];omega),<-qV];refine up_in htl _ λH4 s4 g4=>?_;have st4:=st3.sm s4;have I2:tl≠p:=st3.ne htl;have r4':rr<4:=by omega
 have lt:(M2.take<|1+rr).length=1+rr:=by rw[ZN];omega
 refine⟨p,2,Y,st4,by decide,λkl ks2 H5 b5 st5 fkl nkl hkl l2 wk=>?_⟩
 obtain⟨kd,own,rfl⟩:∃kd own,ks2=[kd,own]:=by
  match ks2,l2 with
  |[a,b],_=>exact⟨a,b,Y⟩
 exists _,Z3 hkl,Y;refine⟨sl 8,λml hml=>?_⟩;refine up_in hml _ λH6 s6 g6=>?_;have nml:ml≠p:=st5.ne hml;refine⟨p,8,Y,st5.sm s6,by decide,by decide,λri H7 c0 c8 b7 st7=>?_⟩
 obtain⟨m,m7,hat⟩:∃m:Nat,m<=7/\atI [V.int 0,V.int 1,V.int 1,V.int 2,V.int 3,V.int 4,V.int 5,V.int 7] ri=some (V.int (m:Nat)):=by
  rcases show ri=0\/ri=1\/ri=2\/ri=3\/ri=4\/ri=5\/ri=6\/ri=7 by omega with z|z|z|z|z|z|z|z <;> subst z
  .exact ⟨0,by decide,rfl⟩
  .exact ⟨1,by decide,rfl⟩
  .exact ⟨1,by decide,rfl⟩
  .exact ⟨2,by decide,rfl⟩
  .exact ⟨3,by decide,rfl⟩
  .exact ⟨4,by decide,rfl⟩
  .exact ⟨5,by decide,rfl⟩
  .exact ⟨7,by decide,rfl⟩
 exists _,_,Z3<|b7.sb _ _ nml g6,hat;clear hat c0 c8
 let R:RP:=⟨ns,M2.take<|1+rr,kd,own,m,λ_=>false⟩
 have s57:SameB p H5 H7:=s6.sb.trans b7.sb;have F8:H7 nl=some (.lst<|ns.map V.str):=s57 _ _ R7<|b5 _ _ R7<|s4 _ _<|b3.sb _ _ R7<|b2 _ _ R7 hnl;have htl7:H7 tl=some (.lst<|R.tg.map V.str):=s57 _ _ I2<|b5 _ _ I2 g4;have sb7:SameB p H H7:=s1.trans<|b2.trans<|b3.sb.trans<|s4.sb.trans<|b5.trans s57;clear g4 g6 hkl ht hnl s57 b7 s6 b5 s4 b3 b2 s1;have O1:∀k:Nat,k<8->atI (ns.map V.str) (k:Int)=some (.str<|JI R.ns k):=λk hk=>Ex (Re (by show k<ns.length;omega));refine⟨sl 2,λa1 ha1=>?_⟩;refine up_in ha1 _ λH8 s8 g8=>?_;have st8:=st7.sm s8;dsimp only[Vm];refine XC (λU H'=>∃x,U=[some (.ref p),some<|.ref nl,some<|.ref tl,some<|.str kd,some<|.str own,some<|.int (m:Nat),some x,none,none,none,none,none,none,none,none]/\Same H7 H'/\Has H' x (inR R 0).dat) ?_ ?_
 .rintro U H9 ⟨fi,rfl,s79,hfi⟩
  have st9:=st7.sm s79;have F7:=s79 _ _ F8;have htl9:=s79 _ _ htl7;refine⟨_,_,Z3 F7,O1 0<|by decide,sl 0,λe2 he2=>?_⟩;refine up_in he2 _ λH10 s10 g10=>⟨sl 2,λa6 ha6=>?_⟩;refine up_in ha6 _ λH11 I1 g11=>⟨sl 5,λa7 ha7=>?_⟩;refine up_in ha7 _ λH12 s12 g12=>⟨sl 4,λa8 ha8=>?_⟩;refine up_in ha8 _ λH13 s13 g13=>⟨sl 1,λdl hdl=>?_⟩;refine up_in hdl _ λH14 s14 g14=>?_;have s911:=s10.trans I1;have G2:=s13.trans s14
  have hd0:Has H14 (.ref a8) (Ws<|d0R R):=by
   refine Yx (s14 _ _ g13)<|Z4 VA<|Z4 (Yx (G2 _ _<|s12 _ _<|I1 _ _ g10) Z6)<|Z4 VA<|Z5 ?_;exact PQ (G2 _ _ g12) (hfi.mono<|s911.trans<|s12.trans G2)<|Gv<|G2 _ _<|s12 _ _ g11
  refine⟨sl 0,λe3 he3=>?_⟩;refine up_in he3 _ λH15 s15 g15=>⟨sl 1,λa9 ha9=>?_⟩;refine up_in ha9 _ λH16 s16 g16=>⟨sl 2,λa10 ha10=>?_⟩;refine up_in ha10 _ λH17 s17 g17=>⟨sl 1,λbl I4=>?_⟩;refine up_in I4 _ λI8 F9 g18=>?_;have R6:=s15.trans<|s16.trans s17;have d:=s911.trans<|s12.trans s13;have y:=d.trans<|s14.trans R6;have F4:=s79.trans<|y.trans F9;have hb0:Has I8 (.ref a10) (btR R 1):=Yx (F9 _ _ g17)<|Z4 (Yx (F9 _ _<|s17 _ _<|s16 _ _ g15) Z6)<|Z5<|JC<|F9 _ _<|s17 _ _ g16;have sb18:SameB p H I8:=sb7.trans F4.sb;have fdl:H dl=none:=MY (sb7.trans (s79.trans d).sb) st (st9.sm d) hdl;have fbl:H bl=none:=MY (sb7.trans (s79.trans y).sb) st (st9.sm y) I4;have g14':=R6 _ _ g14;have rs:R2S I8 I8 p dl bl (dsR R (λ_=>false) 0) (bsR R (λ_=>false) 1):=⟨λb o _ _ _ e=>e,st7.sm F4,⟨⟨_,F9 _ _ g14',Z5<|hd0.mono<|R6.trans F9⟩,by show Dat.tis [Ws (d0R R)]=true;simp[Dat.tis,Le]⟩,⟨⟨_,g18,Z5 hb0⟩,by show Dat.tis [btR R 1]=true;simp[Dat.tis,U6]⟩,(st9.sm d).ne hdl,(st9.sm y).ne I4,Ya g14' I4⟩;have o1:nl≠dl/\nl≠bl:=⟨Ya (d _ _ F7) hdl,Ya (y _ _ F7) I4⟩;have o2:tl≠dl/\tl≠bl:=⟨Ya (d _ _ htl9) hdl,Ya (y _ _ htl9) I4⟩;have F2:=F4 _ _ F8;have D0:=F4 _ _ htl7;clear g8 g10 g11 g12 g13 g14 g15 g16 g17 g18 hd0 hb0 g14' hfi F7 htl9 F8 htl7;refine⟨1,_,Y,⟨by omega,by omega,by omega,by omega⟩,?_⟩;rw[show(((m:Nat):Int)+1-1).toNat=m by omega]
  let I:pB:=λi U H'=>∃f z9 z10 S2 I9,U=[some (.ref p),some<|.ref nl,some<|.ref tl,some<|.str kd,some<|.str own,some<|.int (m:Nat),some fi,some<|.ref dl,some<|.ref bl,z9,z10,S2,I9,none,none]/\R2S I8 H' p dl bl (dsR R f i) (bsR R f<|min (i+1)<|nR R)/\SameB p H H'
  have n0:min (0+1) (nR R)=1:=by unfold nR;omega
  refine TJ (n:=m) I ⟨λ_=>false,_,_,_,_,Y,by rw[n0];exact rs,sb18⟩ ?_ ?_
  .rintro BB RR i U H19 hi ⟨f,z9,z10,S2,I9,rfl,rs,sbi⟩
   have fr:∀{H' D1 D2},R2S I8 H' p dl bl D1 D2->H' nl=some (.lst<|ns.map V.str)/\H' tl=some (.lst<|R.tg.map V.str):=λr=>⟨r.fr _ _ R7 o1.1 o1.2 F2,r.fr _ _ I2 o2.1 o2.2 D0⟩;have m0:R.m≠0:=by show m≠0;omega
   have en:nR R=m:=by show max m 1=m;omega
   have e1:min (i+1) (nR R)=i+1:=by omega
   rw[e1]at rs;rw[show(1:Int)+(i:Int)=((i+1:Nat):Int) by omega];refine⟨sl 2,λx1 hx1=>?_⟩;refine up_in hx1 _ λH20 s20 g20=>?_;have v:=rs.mono s20;dsimp only[Vm];refine XC (λU H'=>∃x,U=[some (.ref p),some<|.ref nl,some<|.ref tl,some<|.str kd,some<|.str own,some<|.int (m:Nat),some fi,some<|.ref dl,some<|.ref bl,some<|.int ((i+1:Nat):Int),some x,S2,I9,none,none]/\Same H19 H'/\Has H' x (inR R<|i+1).dat) ?_ ?_
   .rintro U H21 ⟨x,rfl,s1921,hx⟩
    have rs21:=rs.mono s1921;obtain⟨f1,f2⟩:=fr rs21;refine⟨p,tl,x,inR R<|i+1,R,rs21.st,hx,I2,f2,by show(M2.take<|1+rr).length<=4;omega,λt u pa c H22 b22 st22 ht2 hpa hu=>?_⟩;have rs22:=rs21.but b22 st22;have sb22:SameB p H H22:=(sbi.trans s1921.sb).trans b22;obtain⟨f3,f4⟩:=fr rs22;exists _,Z2 ht2,Y;obtain⟨xs,e,hl⟩:=rs22.l1.ex;have lx:=hl.length;rw[Pp]at lx;exists .inl ⟨Y,_,Z3 e⟩;refine⟨_,_,Z3 f3,O1 _<|by omega,sl 2,λy1 hy1=>?_⟩;refine up_in hy1 _ λH23 G1 I5=>⟨sl 1,λy2 hy2=>?_⟩;refine up_in hy2 _ λH24 R1 g24=>⟨sl 4,λy3 hy3=>?_⟩;refine up_in hy3 _ λI7 J2 g25=>?_;have T:=G1.trans<|R1.trans J2;have D:=rs22.mono T;have e25:=T _ _ e;have ef:upF f (i+1) c (i+1)=c:=Qn
    have hd:Has I7 (.ref y3) (Ws<|dkR (RB R<|upF f (i+1) c)<|i+1):=by
     refine Yx g25<|Z4 VA<|Z4 (Yx (J2 _ _ g24)<|Z5<|Yx (J2 _ _<|R1 _ _ I5)<|Z4 VA<|Z5 VA)<|Z4 VA<|Z5 ?_;show Has I7 u (bdR (RB R<|upF f (i+1) c)<|i+1).dat;rw[Ak m0 ef];exact hu.mono T
    refine⟨dl,_,_,Y,Y,e25,Yv<|by omega,?_⟩;refine fld_in dl _ λX L g26=>?_;have F5:=D.app1 e25 hd (Le _) L g26;rw[<-La]at F5;have F3:SameB p H X:=Xq fdl (sb22.trans T.sb) L;have M:=V6 L e25;have hpa26:=M _ _<|T _ _ hpa;dsimp only[QG];refine⟨_,Y,FQ (λzc=>?_) λzc=>?_⟩
    .have zc':i+1<m:=by have:=Zt zc;omega
     have rs26':=F5;rw[Nq]at rs26';obtain⟨bs,e34,h34⟩:=rs26'.l2.ex;obtain⟨ys,vl,rfl,hvl⟩:=Ky h34;have lb:=h34.length;rw[ZL,ZL,P2,vc,vc]at lb;refine⟨.inl ⟨Y,_,Z3 e34⟩,1,Y,_,vl,Z3 e34,Td _ _,sl 2,λy4 hy4=>?_⟩;refine up_in hy4 _ λH27 l g27=>?_;have rs27:=F5.mono l;have e27:=l _ _ e34;refine⟨bl,_,_,Y,Y,e27,Yv (by rw[ZL,vc];omega),?_⟩;refine fld_in bl _ λI6 b28 g28=>?_
     have hb:Has H27 (.ref y4) (btR (RB R<|upF f (i+1) c)<|i+2):=by
      have hv:Has X vl (btR (RB R<|upF f (i+1) c)<|i+1):=by
       rw[Mm (g:=f) λj hj=>N5 (Ze hj)];exact hvl
      show Has H27 _ (.tup [btR (RB R<|upF f (i+1) c) (i+1),Jy (pR (RB R<|upF f (i+1) c)<|i+1)]);refine Yx g27<|Z4 (hv.mono l)<|Z5<|JC ?_;rw[Sm m0 (Nat.succ_ne_zero i) ef];exact l _ _ hpa26
     have rs28:=rs27.app2 e27 hb (U6 _ _) b28 g28;refine⟨upF f (i+1) c,_,_,_,_,Y,?_,Xq fbl (F3.trans l.sb) b28⟩;rw[show min (i+1+1) (nR R)=i+2 by omega,show bsR R (upF f (i+1) c) (i+2)=bsR R (upF f (i+1) c) (i+1)++[btR (RB R<|upF f (i+1) c) (i+2)]from Nq,Lq (ZG _)];exact rs28
    .have zc':¬i+1<m:=λz=>zc<|decide_eq_true<|by omega
     refine⟨upF f (i+1) c,_,_,_,_,Y,?_,F3⟩;rw[show min (i+1+1) (nR R)=i+1 by omega,Lq (ZG _)];exact F5
   .intro N hN
    obtain⟨f1,f2⟩:=fr v;refine⟨_,Y,FQ (λzc=>?_) λzc=>?_⟩
    .have zc':i+1<m:=by have:=Zt zc;omega
     refine⟨_,_,Z3 f1,by rw[show(((i+1:Nat):Int)+1)=((i+1+1:Nat):Int) by omega];exact O1 _<|by omega,sl 2,λy1 hy1=>?_⟩;refine up_in hy1 _ λH21 s21 g21=>⟨sl 1,λy2 hy2=>?_⟩;refine up_in hy2 _ λH22 s22 g22=>⟨sl 3,λy3 hy3=>?_⟩;refine up_in hy3 _ λH23 G1 I5=>hN _ _ ⟨_,Y,s20.trans<|s21.trans<|s22.trans G1,?_⟩;have eb:inR R (i+1)=.ask (JI R.ns<|i+1+1) [.name R.own]:=by unfold inR;rw[Zp (show i+1<R.m from zc')]
     rw[eb];exact Nr I5 (G1 _ _ g22)<|Gv<|G1 _ _<|s22 _ _ g21
    .have zc':¬i+1<m:=λz=>zc<|decide_eq_true<|by omega
     have eb:inR R (i+1)=.name R.own:=by unfold inR;rw[Zq (show ¬i+1<R.m from zc')]
     refine hN _ _ ⟨_,Y,s20,?_⟩;rw[eb];exact Gv g20
  .rintro U H19 ⟨f,z9,z10,S2,I9,rfl,rs,sb19⟩
   let S:RP:=RB R f
   have eN:min (m+1) (nR R)=nR R:=by unfold nR;show min (m+1) (max m 1)=max m 1;omega
   rw[eN]at rs;have nk:nR R<=7:=by unfold nR;show max m 1<=7;omega
   have np1:1<=nR R:=by unfold nR;omega
   have hnl19:=rs.fr _ _ R7 o1.1 o1.2 F2;have R8:=rs.fr _ _ I2 o2.1 o2.2 D0;refine⟨tl,_,Y,.inl<|Z3 R8,p,_,rfl,rs.st,by rw[ZA];show(0:Int)<((M2.take<|1+rr).length:Nat);omega,by rw[ZA];show(((M2.take<|1+rr).length:Nat):Int)<1073741824;omega,λci H20 c0 cl b20 st20=>?_⟩;obtain⟨ci,rfl⟩:=qu c0;rw[ZA]at cl;have cl':ci<R.tg.length:=by omega
   have v:=rs.but b20.sb st20;have G3:=b20.sb _ _ I2 R8;have F1:=b20.sb _ _ R7 hnl19;have sb20:=sb19.trans b20.sb;refine⟨_,_,Z3 G3,Ex<|ZD cl',sl 2,λtp htp=>?_⟩;have htip:S.tg[ci]?=some R.tg[ci]:=ZD cl';generalize R.tg[ci]=tip at htip;refine up_in htp _ λH21 s21 g21=>⟨sl 0,λy1 h1=>?_⟩;refine up_in h1 _ λH22 s22 g22=>?_;have s2022:=s21.trans s22;have l2:LsT H20 bl (btL S):=v.l2;obtain⟨bs,eb,hb⟩:=l2.ex;have lb:bs.length=nR R:=by rw[hb.length,P1];rfl
   obtain⟨b0,q1,q2⟩:=MP hb<|Dr (R:=S) (k:=0) np1;refine⟨_,_,Z3<|s2022 _ _ eb,VC (j:=0) q1,sl 1,λy2 h2=>?_⟩;refine up_in h2 _ λH23 G1 I5=>⟨sl 3,λy3 h3=>?_⟩;refine up_in h3 _ λH24 R1 g24=>⟨sl 1,λrl D3=>?_⟩;refine up_in D3 _ λI7 J2 g25=>?_;have Z:=s2022.trans<|G1.trans R1;have G:=Z.trans J2;have F6:Has I7 (.ref tp) (tagD tip):=D6<|J2 _ _<|R1 _ _<|G1 _ _<|s22 _ _ g21;have hr0:Has I7 (.ref y3) (rwD S tip 0):=EH (J2 _ _ g24) (Yx (J2 _ _<|R1 _ _<|G1 _ _ g22) Z6) F6 (J2 _ _<|R1 _ _ I5)<|q2.mono G;have frl:H rl=none:=MY (sb20.trans Z.sb) st (st20.sm Z) D3;have sb25:=sb20.trans G.sb;have nb:bl≠rl:=Ya (Z _ _ eb) D3;have np:rl≠p:=(st20.sm Z).ne D3;have nl5:nl≠rl:=Ya (Z _ _ F1) D3;have tl5:tl≠rl:=Ya (Z _ _ G3) D3;obtain⟨ex,ee,hex⟩:=v.l1.ex;have nd5:dl≠rl:=Ya (Z _ _ ee) D3;have D:=v.mono G;have hnl25:=G _ _ F1;have htl25:=G _ _ G3;have eb25:=G _ _ eb;have hb25:=hb.mono G;clear g21 g22 I5 g24 q1 q2 ee eb hb hex ex v rs G3 F1 R8 hnl19 D0 F2;exists bl,_,Y,.inl<|Z3 eb25,nR R,by rw[lb],by omega,by omega
   let I3:pB:=λi U H'=>∃z9 xs,U=[some (.ref p),some<|.ref nl,some<|.ref tl,some<|.str kd,some<|.str own,some<|.int (m:Nat),some fi,some<|.ref dl,some<|.ref bl,z9,z10,S2,I9,some<|.ref tp,some (.ref rl)]/\SameB rl I7 H'/\H' rl=some (.lst xs)/\HasL H' xs ((List.range<|i+1).map<|rwD S tip)
   refine TJ (n:=nR R) I3 ⟨_,_,Y,SameB.refl _ _,g25,Z5 hr0⟩ ?_ ?_
   .rintro BB RR i U X hi ⟨z9,xs,rfl,L,e26,h26⟩
    have M:=V6 L g25;have eb26:=L _ _ nb eb25;have hb26:=Vu M _ D.l2.ti hb25;have lx:=h26.length;rw[ZA,ve]at lx;obtain⟨v1,q1,q2⟩:=MP hb26<|Dr (R:=S) (k:=i) hi;have hm:(i+1) % nR R<nR R:=qy _ np1;obtain⟨v2,q3,q4⟩:=MP hb26<|Dr (R:=S) (k:=(i+1) % nR R) hm
    have q4':Has X v2 (btR S<|wnt S<|i+1):=by
     rw[<-Qh S hi];exact q4
    refine⟨.inl ⟨Y,_,Z3 e26⟩,_,_,Z3 eb26,by rw[show(0:Int)+(i:Int)=(i:Int) by omega];exact VC q1,bl,_,Y,.inl<|Z3 eb26,by rw[lb];omega,_,_,Z3 eb26,by rw[lb,show(0:Int)+(i:Int)+1=((i+1:Nat):Int) by omega,AF];exact VC q3,sl 1,λy1 h1=>?_⟩;refine up_in h1 _ λH27 l g27=>⟨sl 3,λy2 h2=>?_⟩;refine up_in h2 _ λI6 s28 g28=>?_;have J:=l.trans s28;have e28:=J _ _ e26;refine⟨rl,_,_,Y,Y,e28,Yv<|by omega,?_⟩;refine fld_in rl _ λH29 b29 g29=>?_;have hrow:Has I6 (.ref y2) (rwD S tip<|i+1):=EH g28 (q2.mono J) ((VD M _ (UD _) F6).mono J) (s28 _ _ g27)<|q4'.mono J;exists _,_,Y,(L.trans J.sb).trans b29,g29;rw[vT,ZK];have ha:Vz I6 rl \/ ∃(ys:px)(ix:List Nat),I6 rl=some (.lst ys)/\HasL I6 ys (ix.map<|rwD S tip):=.inr ⟨_,_,e28,h26.mono J⟩;exact Z7 (Jk b29 ha<|h26.mono J)<|Z5<|R9 b29 ha hrow
   .rintro U X ⟨z9,xs,rfl,L,e26,h26⟩
    have M:=V6 L g25;have rl1:LsT X dl ((rdR S).map Ws):=D.l1.tk nd5 L M;have rl2:LsT X bl (btL S):=D.l2.tk nb L M;have st26:Vz X p:=Ur D.st L np;have F3:SameB p H X:=Xq frl sb25 L;have hnl':=L _ _ nl5 hnl25;have htl':=L _ _ tl5 htl25;have yo:YO S:=⟨l8,m7,by show 1<=(M2.take<|1+rr).length;omega,by show(M2.take<|1+rr).length<=4;omega,wk,⟨M2,rr,wt,r4',rfl⟩,wn⟩;refine⟨tl,_,Y,.inl ⟨Z3 htl',λt1 ht1=>?_⟩⟩;refine up_in ht1 _ λH27 l g27=>⟨sl 2,λt2 ht2=>?_⟩;refine up_in ht2 _ λI6 s28 g28=>⟨sl 2,λt3 ht3=>?_⟩;refine up_in ht3 _ λH29 s29 g29=>⟨sl 1,λkl2 hkl2=>?_⟩;refine up_in hkl2 _ λH30 s30 g30=>?_;have s2630:=l.trans<|s28.trans<|s29.trans s30;intro x dx hx hdx hne;have sX:Same H30 (upd (upd H30 dx<|.own x) x<|.ins C dx []):=λb o e=>by rw[Yg (Ya e hx),Yg (Ya e hdx)];exact e
    have tx:upd (upd H30 dx<|.own x) x (.ins C dx []) x=some (.ins C dx []):=Yh;generalize upd (upd H30 dx<|.own x) x (.ins C dx [])=H31 at tx sX |-;have s2631:=s2630.trans sX;obtain⟨zs,e31,h31⟩:=(rl1.mono s2631).ex
    have hk:HasL H31 [.ref t3] ((ks1 S).map NQ):=by
     refine Z5<|Yx (sX _ _<|s30 _ _ g29)<|Z4 VA<|Z5 ?_;unfold Shp.dat;exact Yx (sX _ _<|s30 _ _<|s29 _ _ g28)<|Z4 VA<|Z5<|Yx (sX _ _<|s30 _ _<|s29 _ _<|s28 _ _ g27)<|WE _
    have lr:(rdR S).length=m+1:=Oa S;refine⟨x,dx,kl2,dl,_,zs,ks1 S,c1 S,λ_=>0,rdR S,tx,sX _ _ g30,hk,yo.kk,by simp,yo.kg,(λk h=>⟨S.tg,by rw[ZQ.mp h]⟩),by simp,by simp,e31,h31,by omega,by omega,yo.wds,yo.hd,yo.rt,λH32 keep bi=>⟨Y,?_⟩⟩;have b32:SameB x H31 H32:=keep;have rsx:∀{b o},H30 b=some o->b≠x:=λh=>Ya h hx;have kp:∀{b o},X b=some o->H32 b=some o:=λh=>b32 _ _ (rsx<|s2630 _ _ h)<|s2631 _ _ h;have s2632:Same X H32:=λb o h=>kp h;refine⟨_,_,Z3<|kp hnl',O1 0<|by decide,sl 4,λr hr=>?_⟩;refine up_in hr _ λH33 s33 g33=>?_;have O:=s2632.trans s33;exact q r x bl rl S _ ci tip xs H33 (F3.trans O.sb) (st26.sm O) g33 (bi.mono s33) yo htip (rl2.mono O) D.n.2.1 (O _ _ e26)<|h26.mono O
 .intro N hN
  refine⟨_,Y,FQ (λzc=>?_) λzc=>?_⟩
  .have zc':0<m:=by have:=Zt zc;omega
   refine⟨_,_,Z3<|s8 _ _ F8,O1 1<|by decide,sl 2,λy1 hy1=>?_⟩;refine up_in hy1 _ λH9 s9 g9=>⟨sl 1,λy2 hy2=>?_⟩;refine up_in hy2 _ λH10 s10 g10=>⟨sl 3,λy3 hy3=>?_⟩;refine up_in hy3 _ λH11 I1 g11=>hN _ _ ⟨_,Y,s8.trans<|s9.trans<|s10.trans I1,?_⟩;have e:inR R 0=.ask (JI R.ns 1) [.name R.own]:=by unfold inR;rw[Zp zc']
   rw[e];exact Nr g11 (I1 _ _ g10)<|Gv<|I1 _ _<|s10 _ _ g9
  .have zc':¬0<m:=λz=>zc<|decide_eq_true<|by omega
   have e:inR R 0=.name R.own:=by unfold inR;rw[Zq zc']
   refine hN _ _ ⟨_,Y,s8,?_⟩;rw[e];exact Gv g8
end
end K4
namespace L2
open PySem
theorem Mc:∀{Z:pE},(∀d∈Z,d.dep<=n)->Dat.deps Z<=n
 |[],_=>by unfold Dat.deps;exact Zc _
 |d::Z,h=>by
  unfold Dat.deps;have L:=h d Za;have G:=Mc λe J=>h e<|ZM _ J;omega
def U8(h:∀d∈Z,d.dep<=n):(Dat.tup Z).dep<=n+1:=by unfold Dat.dep;have:=Mc h;omega
def MK(h:∀d∈Z,d.dep<=n):(Dat.lst Z).dep<=n+1:=by unfold Dat.dep;have:=Mc h;omega
def L8:(Jy J).dep<=1:=U8 (n:=0) λd Z=>by
 obtain⟨k,_,rfl⟩:=ZW.mp Z;simp[Dat.dep]
theorem Ml(R:RP):∀k,(btR R k).dep<=k+1
 |0=>U8 (n:=0) λd Z=>(by cases Z)
 |k+1=>U8 (n:=k+1) λd Z=>by
  rcases Zd.mp Z with rfl|Z
  .exact Ml R k
  .rw [ZQ.mp Z]
   exact Zb L8<|by omega
def SU{R:RP}(K:RK R G)(h:k<=nR R):(rwD R tip k).dep<=12:=by
 have J:=Tw K;have w:=N4 R h;refine U8 (n:=11) λd Z=>?_;rcases Zd.mp Z with rfl|Z
 .exact Zb (Ml R k) (by omega)
 rcases Zd.mp Z with rfl|Z
 .simp [K4.tagD,Dat.dep,Dat.deps]
 .rw [ZQ.mp Z]
  refine Zb (MK (n:=9) λd Z=>?_) (by decide);rw[ZQ.mp Z];exact Zb (Ml R _)<|by omega
def UQ{H:Hp}(h:H a=some (.lst Z))(g:HasL H Z J):Has H (.ref a) (.lst J):=by
 unfold Has;exact⟨a,Z,Y,h,g⟩
theorem EN{H:Hp}{f:Nat->Dat}:∀{G:List Nat}{J:px}{k:Nat},HasL H J (G.map f)->k<G.length->∃y i Z,J[k]?=some y/\Has H y (f i)/\HasL H (J.eraseIdx k) (Z.map f)/\(i::Z).Perm G
 |[],J,k,_,h=>Zr h<|by simp
 |i::G,J,0,h,_=>by
  obtain⟨x,r,rfl,M,L⟩:=Yd h;exact⟨x,i,G,Y,M,L,List.Perm.refl _⟩
 |i::G,J,k+1,h,l=>by
  obtain⟨x,r,rfl,M,L⟩:=Yd h;obtain⟨y,j,Z,R,O,N,p⟩:=EN L<|Nat.lt_of_succ_lt_succ l;exact⟨y,j,i::Z,R,O,Z4 M N,(List.Perm.swap i j Z).trans<|List.Perm.cons i p⟩
theorem HasL.rev{H:Hp}:∀{J:pE}{Z:px},HasL H Z J->HasL H Z.reverse J.reverse
 |[],Z,h=>by
  obtain rfl:=Y9 h;exact Z6
 |d::J,Z,h=>by
  obtain⟨x,r,rfl,L,G⟩:=Yd h;rw[kF,kF];exact Z7 (HasL.rev G)<|Z5 L
def Lk{ns:pe}(J G:pc):∃Z:pe,Uo (ns.map V.int) J G=Z.map V.int:=by
 unfold Uo;exact⟨_,by rw[<-List.map_drop,<-qV]⟩
def Sf(h:Z.length≠0):(Dat.lst Z).pq (.lst [])=false:=by
 unfold Dat.pq;exact Ir h
end L2
namespace K4
open PySem L2
section
variable{C CK CG CO CW:Addr}
def Uu:Yi ["script","cell","stream","book","f","births","rows","full","found","left","some"] ["script"] (Ye DH):=Y4
inductive zW(K:W.Frag)(H:Hp)(Q:VK):List V->Prop
 |mk (a:Addr) (ns:List Int) (hS:SqL K H a (ns.map V.int)) (hl:ns.length<=63) (q:∀H',Q (.bl true) H'):zW K H Q [.ref a]
def EA(K:W.Frag):Sp:=λZ H Q _=>zW K H Q Z
def S1(B:Blt mg)(F:Fun K "law" "law" DH f fd)(DS:Df P w K mg base (n+49) "_law_stream" ["cell"] M4)(DT:Df P w K mg base (n+49) "_law_take" ["stream","many"] WG)(DR:Df P w K mg base (n+49) "_law_round" ["stream"] (Q1 C CK))(mI:mg "is_way"=some (.ref gI))(kI:PySem.W.keepIn K (.ref gI)=true)(GI:Yf P w K mg base CX0 (n+49) gI gId iyp (Q5 P w C CK CG))(bI:Binds K gId iyp [])(mY:mg "way_of"=some (.ref gY))(kY:PySem.W.keepIn K (.ref gY)=true)(GY:Yf P w K mg base CX0 (n+49) gY gYd wyp (Qx P w C CK))(bY:Binds K gYd wyp [])(mA:mg "asked"=some (.ref gA))(kA:PySem.W.keepIn K (.ref gA)=true)(GA:Yf P w K mg base CX0 (n+49) gA gAd P4 (BN P w C CK 8))(bA:Binds K gAd P4 []):Yf P w K mg base CX0 (n+50) f fd ["script"] (EA K):=by
 refine F.oi Uu λcdv A outer s H vs Q E hr h=>?_;obtain⟨a,ns,hS,hl,q⟩:=h;refine⟨_,YZ (V5 Zv Y (JM<|JA Wx (VE KO (Ve Jv rfl B.list JU (pa1<|pv 0))<|VE Su (Vg<|pa1<|Yc)<|Ve Fi rfl B.int Fm (pa1<|JE Vl (VF Y8 rfl B.len Zu (pa1<|pv 0)) Yc rfl)) JZ<|JY Yc) (Yj 1 Uu.nd)
   (YZ (Yw 2 Uu.nd<|Vc DS hr<|pa1<|pv 1)
  (YZ (Ji (Vc DR hr<|pa1<|pv 2)<|EO rfl (Yj 3 Uu.nd) (Yj 4 Uu.nd) (Yj 5 Uu.nd) (Yj 6 Uu.nd))
  (YZ (Yw 7 Uu.nd<|JE Vl (Vc DT hr<|pa2 (pv 2)<|Yc) Yc rfl)
  (YZ (Yw 8 Uu.nd<|Vg<|VR)
  (YZ (Yw 9 Uu.nd<|Ve Jv rfl B.list JU (pa1<|pv 6))
  (YZ (Uy Zv (Yp (MH hr) (pv 9) (Vg<|VR)<|Yz _)<|Yb<|VW<|Js Zz Z0 Z1 Vn (pv 8)<|pa1<|Js Zz PySem.F.slot_list_pop PySem.F.type_list_pop Ks (pv 9)<|pa1<|Vc DT hr<|pa2 (pv 2)<|VF Y8 rfl B.len Zu (pa1<|pv 9))
  (YZ (V5 Zv rfl (JM<|Vg<|pa3 (pv 6) (Sk (pv 6)<|Tu X8 Yc)<|pv 8) (Yj 10 Uu.nd)
   (Yb<|Y5 (Yp FG (JF GI hr rfl mI kI bI .nil Y1 (pa5 (pv 3) (pv 4) (Yq<|VR) (pv 10)<|pv 7)) J4<|Yz _) (Yb<|JV) Yo))
  (Yb<|Y5 (PW.pt<|UH (Yp Ov (JF GY hr rfl mY kY bY .nil Y1 (pa5 (pv 3) (pv 4) (Yq<|VR) (Yc)<|pv 7)) JJ<|Yz _)<|Jg<|Yp (MH hr) (JF GA hr rfl mA kA bA .nil Y1 (pa5 (pv 3) (pv 4) (Yq<|VR) (Yc)<|pv 7)) (Yq<|pa2 (Yq<|pa2 (Y0)<|pv 5)<|Vg<|VR)<|Yz _) (Yb<|JV) Yo)))))))))
  (Yb<|Yn<|J4),?_⟩
 show let T0:=_;let T1:=_;let T2:=VG _ T1 _;let T3:=_;let T4:=VG _ T3 _;let T5:=Yk (UX _ _ T4) T2;let T6:=_;let T7:=Yk (WB _ T6) T5;let T8:=Yk _ T7;let T9:=Yk _ T8;let T10:=Yk _ T9;let T11:=Yk _ T10;let T12:=Yk _ T11;Yk (UX _ _ T12) T0 _ _ _
 intros
 try dsimp only[Vh,Cx.nox,Cx.wish]
 refine⟨a,_,Y,.inl hS,λl1 h1=>?_⟩;refine up_in h1 _ λH1 s1 g1=>⟨sl 1,λl2 h2=>?_⟩;refine up_in h2 _ λH2 s2 g2=>⟨a,_,Y,.inl<|s2.seq<|s1.seq hS,rfl,.inr ⟨_,rfl,?_⟩⟩;refine⟨l2,_,[.int 0],Y,Y,g2,?_,?_,?_,λl3 h3=>?_⟩
 .split <;> decide
 .split <;> decide
 .split <;> decide
 obtain⟨zs,ez,lz⟩:∃zs:pe,(List.replicate (if decide (V.int ((ns.map V.int).length:Nat)=V.int 0)=true then(1:Int)else 0).toNat [V.int 0]).flatten=zs.map V.int/\zs.length<=1:=by
  split
  .exact ⟨[0],rfl,ZG _⟩
  .exact ⟨[],rfl,by decide⟩
 rw[ez];refine up_in h3 _ λH3 s3 g3=>?_;refine⟨l1,l3,_,_,Y,Y,s3 _ _<|s2 _ _ g1,g3,Zh (Yv (by rw[ZA,ZA];omega)),λl4 h4=>?_⟩;rw[<-ZK];refine up_in h4 _ λH4 s4 g4=>⟨63,Y,l4,_,Y,Z3 g4,λl5 h5=>?_⟩;obtain⟨ms,em⟩:=Lk (ns:=ns++ zs) none<|some 63;rw[em];refine up_in h5 _ λH5 s5 g5=>⟨⟨_,Z3 g5⟩,?_⟩;clear s1 s2 s3 s4 s5 g1 g2 g3 g4 em ez lz h1 h2 h3 h4 h5 hS hl
 let I:pB:=λi U Hi=>Same H5 Hi/\∃z1 z2 z3 z4 z5 z6 z7 z8 z9 I3:pD,U=[some (.ref a),z1,z2,z3,z4,z5,z6,z7,z8,z9,I3]
 refine TD (xs:=ms.map V.int) I ⟨Z8 _,_,_,_,_,_,_,_,_,_,_,Y⟩ (λi U Hi _ z=>Z3<|z.1 _ _ g5) ?_ λU Hi _=>q Hi;rintro i x U Hi hx ⟨si,z1,z2,z3,z4,z5,z6,z7,z8,z9,I3,rfl⟩;rw[ZH]at hx;obtain⟨ce,_,rfl⟩:=Zj.mp hx;refine⟨ce,Y,λp H6 f6 b6 st6=>?_⟩;refine⟨p,st6,λr bk bl rl R d j L xs H7 s7 J2 hr' bi yo ht lb nb D2 D1=>?_⟩;exists _,Z2 hr',Y;refine⟨p,2,Y,J2,by decide,by decide,λr1 H8 _ _ b8 T=>?_⟩;have K0:=yo.k;have tk8:=J2.tkB b8.sb;have bi8:=bi.st b8.sb J2;have lb8:=lb.tk nb b8.sb tk8
 obtain⟨nrp,R6,R1⟩:rl≠p/\H8 rl=some (.lst xs)/\HasL H8 xs ((List.range<|nR R+1).map<|rwD R L):=by
  have np:rl≠p:=λz=>by
   obtain⟨_,_,_,_,e⟩:=J2;rw[z,e]at D2;cases D2;rw[qz]at D1;obtain⟨_,_,q1,q2,_⟩:=Yd D1;cases q1;obtain⟨_,_,q3,_⟩:=Yr q2;cases q3
  exact⟨np,b8.sb _ _ np D2,Jk b8.sb (.inl J2) D1⟩
 have sH8:Same Hi H8:=((b6.sb.trans s7).trans b8.sb).same f6
 let full:Bool:=decide<|V.int r1=V.int 1
 clear b6 s7 b8 bi lb D2 D1 hr' J2 tk8;refine⟨Y,sl 0,λfo I9=>?_⟩;refine up_in I9 _ λH9 s9 g9=>?_;refine⟨rl,_,Y,.inl<|Z3<|s9 _ _ R6,λle D3=>?_⟩;refine up_in D3 _ λH10 s10 g10=>?_;have b:=s9.trans s10;have st9:=T.sm s9;have nfo:fo≠p:=T.ne I9;have nle:le≠p:=st9.ne D3;have nfl:fo≠le:=Ya g9 D3;have fle:H8 le=none:=s9.free D3;have lR:=ve (n:=nR R+1)
 let SW:Option V->St:=λx10=>[some (.ref a),some<|.int ce,some<|.ref p,some<|.ref bk,some<|.str<|JI R.ns 0,some<|.ref bl,some<|.ref rl,some<|.bl full,some<|.ref fo,some<|.ref le,x10]
 let W:pB:=λm U X=>∃(S O1:List Nat)(M2 I4:px),U=SW I3/\S.length=m/\(O1++ S).Perm (List.range<|nR R+1)/\SameB p H8 X/\Vz X p/\X le=some (.lst M2)/\HasL X M2 (S.map<|rwD R L)/\X fo=some (.lst I4)/\HasL X I4 (O1.map<|rwD R L)
 exists W,⟨nR R+1,_,[],_,_,Y,lR,List.Perm.refl _,b.sb,T.sm b,g10,R1.mono b,s10 _ _ g9,Z6⟩;rintro m U H11 ⟨S,O1,M2,I4,rfl,lm,pm,b11,F4,eL,hL,eF,hF⟩;have n7:=Tw K0;have ln:=pm.length_eq;rw[ZL,lR]at ln;refine⟨sl 0,λem hem=>?_⟩;refine up_in hem _ λH12 G1 g12=>?_;have M:=G1 _ _ eL;have o:=hL.mono G1;exists .lst<|S.map<|rwD R L,.lst [],UQ M o,UQ g12 Z6,?_,_,rfl
 .refine Zb (MK (n:=12) λd hd=>?_) (by omega)
  obtain⟨k,hk,rfl⟩:=ZW.mp hd;exact SU K0<|kL<|vt.mp<|pm.mem_iff.mp<|ZU _ hk
 have c:=F4.sm G1;have N:=b11.trans G1.sb;have R8:=G1 _ _ eF;have R7:=hF.mono G1;clear eL hL eF hF g12
 cases m with
 |succ m=>
  rw[Sf (by rw[ZA];omega)];refine VP Y ⟨λU X=>∃m',m'<m+1/\W m' U X,λU' X z=>z,?_⟩;have lxL:=o.length;have lxF:=R7.length;rw[ZA]at lxL lxF;refine⟨.inl ⟨Y,_,Z3 R8⟩,.inl ⟨Y,_,Z3 M⟩,le,_,Y,.inl<|Z3 M,p,_,rfl,c,by omega,by omega,λki F2 k0 k1 D0 st13=>?_⟩;obtain⟨k,rfl⟩:=qu k0;have kl:k<S.length:=by omega
  have F9:=D0.sb _ _ nle M;have eF13:=D0.sb _ _ nfo R8;have F7:=Jk D0.sb (.inl c) o;have hF13:=Jk D0.sb (.inl c) R7;have b813:=N.trans D0.sb;obtain⟨y,i',ix',q1,q2,q3,q4⟩:=EN F7 kl;obtain⟨k',w1,w2,_⟩:=W7<|VC q1
  have ek:k'=k:=by
   have h:=PySem.StrLaws.seqIndex_nonneg (i:=(k:Int)) (n:=M2.length) (by omega) (by omega);rw[w1]at h;have:=ZT h;omega
  subst ek;exists le,M2,_,k',y,Y,Y,F9,by omega,by omega,w1,w2;refine fld_in le _ λO G3 F1=>?_;have ha:Vz F2 le \/ ∃(ys:px)(ix:List Nat),F2 le=some (.lst ys)/\HasL F2 ys (ix.map<|rwD R L):=.inr ⟨_,_,F9,F7⟩;have hL14:=Jk G3 ha q3;have hy14:=R9 G3 ha q2;have F8:=Jk G3 ha hF13;have I1:=G3 _ _ nfl eF13;have b814:=Xq fle b813 G3;refine⟨fo,_,_,Y,Y,I1,Yv<|by omega,?_⟩;refine fld_in fo _ λH15 G2 g15=>?_;have hb:Vz O fo \/ ∃(ys:px)(ix:List Nat),O fo=some (.lst ys)/\HasL O ys (ix.map<|rwD R L):=.inr ⟨_,_,I1,F8⟩;have l':=q4.length_eq;rw[Zf]at l';exists m,vi m,ix',O1++[i'],_,_,Y,by omega,?_,Xq I9 b814 G2,Ur (Ur st13 G3 nle) G2 nfo,G2 _ _ nfl.symm F1,Jk G2 hb hL14,g15
  .rw [qc]
   exact(List.Perm.append_left O1 q4).trans pm
  .rw [ZK]
   exact Z7 (Jk G2 hb F8)<|Z5<|R9 G2 hb hy14
 |zero=>
  obtain rfl:S=[]:=List.length_eq_zero_iff.mp lm;rw[j0]at pm;refine Y6 (by rw[jh,Dat.pq_self];decide) ?_;have F5:H12 rl=some (.lst xs):=N _ _ nrp R6;have F6:=Jk N (.inl T) R1;have F3:=T.tkB N;have bi12:=bi8.st N T;have lb12:=lb8.tk nb N F3;have sH12:Same Hi H12:=(sH8.sb.trans N).same f6;clear M o b11 N F4 c F3 sH8 bi8 lb8 R1 R6 b g9 g10 T st9;refine⟨1,Y,rl,_,Y,Y,Z3 F5,λrv hrv=>?_⟩;refine up_in hrv _ λF2 s13 g13=>⟨sl 3,λl6 h6=>?_⟩;refine up_in h6 _ λO s14 F1=>⟨⟨_,Z3 F1⟩,?_⟩;have J:=s13.trans s14;have bi14:=bi12.mono J
  have three:∀v∈ [V.ref rl,V.ref rv,V.ref fo],∃(t:Addr)(ys:px)(ix:List Nat),v=.ref t/\O t=some (.lst ys)/\HasL O ys (ix.map<|rwD R L)/\ix.Perm (List.range<|nR R+1):=λv hv=>by
   rcases Zd.mp hv with rfl|hv
   .exact ⟨_,_,_,rfl,J _ _ F5,F6.mono J,List.Perm.refl _⟩
   rcases Zd.mp hv with rfl|hv
   .exact ⟨_,_,(List.range<|nR R+1).reverse,rfl,s14 _ _ g13,by rw[List.map_reverse];exact(F6.mono J).rev,List.reverse_perm _⟩
   .rw [ZQ.mp hv]
    exact⟨_,_,_,Y,J _ _ R8,R7.mono J,pm⟩
  have ra:∀{X gv},Same O X->X gv=some (.tup [])->RgA X C CK bk gv (ks1 R) d (rdR R) (d0R R) []:=λs g=>⟨bi14.mono s,CS R,g,rfl,by show 0<=3;decide,jM,λi p u h=>by simp[d0R]at h⟩
  let I2:pB:=λi U X=>Same O X/\∃z,U=SW z
  refine MZ (xs:=[V.ref rl,V.ref rv,V.ref fo]) I2 ⟨Z8 _,_,Y⟩ (λi U Hi _ z=>Z3<|z.1 _ _ F1) ?_ ?_
  .rintro BB RR i y U H15 hy ⟨s15,z,rfl⟩
   obtain⟨t,ys,ix,rfl,t1,t2,t3⟩:=three y<|ZJ hy;refine⟨sl 0,λgv I8=>?_⟩;refine up_in I8 _ λH16 I7 S2=>?_;have G:=s15.trans I7;refine⟨bk,gv,t,ks1 R,d,rdR R,R,L,j,ix,full,ys,K0,ht,ra G S2,G _ _ t1,t2.mono G,t3,λH17 I6=>⟨false,false,Y,Y,_,Y,Y6 (by decide) ⟨G.trans I6,_,Y⟩⟩⟩
  .rintro U H15 ⟨s15,z,rfl⟩
   obtain⟨j1,gs⟩:=SX (gs:=[]) (mo:=500) K0 (by decide);refine⟨sl 0,λgv I8=>?_⟩;refine up_in I8 _ λH16 I7 S2=>?_;have G:=s15.trans I7;refine⟨bk,gv,ks1 R,d,rdR R,d0R R,[],500,full,j1,_,ra G S2,by decide,by decide,gs,λH17 I6=>⟨Y,_,Y,Y6 (by decide) ?_⟩⟩;refine⟨sl 0,λgw hgw=>?_⟩;refine up_in hgw _ λH18 s18 g18=>?_;have D:=G.trans<|I6.trans s18;refine⟨bk,gw,ks1 R,d,rdR R,d0R R,[],500,full,j1,_,ra D g18,by decide,by decide,gs,λt r l Hm H19 sm s19 ht' hr2 hl'=>?_⟩;obtain⟨tr,pr,vr,rfl,hr3,_,hr4,hr5⟩:=hr2;obtain⟨bx,eb1,eb2⟩:=(lb12.mono<|J.trans<|D.trans s19).ex;refine⟨sl 2,λt2 ht2=>?_⟩;refine up_in ht2 _ λH20 s20 g20=>⟨sl 0,λt3 ht3=>?_⟩;refine up_in ht3 _ λH21 s21 g21=>⟨sl 2,λt4 ht4=>?_⟩;refine up_in ht4 _ λH22 I5 g22=>?_;have Z:=s20.trans<|s21.trans I5;have hA:Has H22 (.ref t) (.tup [.tup [.str "ring",.lst (btL R)],.lst []]):=Yx (Z _ _ ht')<|Z4 (Yx (Z _ _ hr3)<|Z4 VA<|Z5<|UQ (Z _ _ hr4)<|hr5.mono Z)<|Z5<|UQ (Z _ _ hl') Z6;have hB:Has H22 (.ref t4) (.tup [.tup [.str "ring",.lst (btL R)],.lst []]):=Yx g22<|Z4 (Yx (I5 _ _<|s21 _ _ g20)<|Z4 VA<|Z5<|UQ (Z _ _ eb1)<|eb2.mono Z)<|Z5<|UQ (I5 _ _ g21) Z6;refine⟨_,_,hA,hB,?_,_,Y,Y6 (by rw[Dat.pq_self];decide) ?_⟩
   .refine Zb (U8 (n:=12) λd hd=>?_) (by omega)
    rcases Zd.mp hd with rfl|hd
    .refine U8 (n:=11) λd hd=>?_
     rcases Zd.mp hd with rfl|hd
     .simp [Dat.dep]
     .rw [ZQ.mp hd]
      refine MK (n:=10) λd hd=>?_;obtain⟨k,hk,rfl⟩:=ZW.mp hd;have:=vt.mp hk;exact Zb (Ml R _)<|by omega
    .rw [ZQ.mp hd]
     simp[Dat.dep,Dat.deps]
   .refine ⟨?_,_,_,_,_,_,_,_,_,_,_,rfl⟩
    exact si.trans<|sH12.trans<|J.trans<|D.trans<|s19.trans Z
end
def At(K:W.Frag)(f:Addr)(x q:Str)(st:Stmt):Prop:=∃(L:Value)(G:ph)(kV M J:Value)(O:ph)(Z N:Value)(sl:Array (Option Value)),K.lookup f=some ⟨L,G,.func<|W.fnOf x q (JO st) (Vw st) (Ye st) .none kV M J O Z N,sl⟩/\W.codeIn K Z q=true/\W.keepIn K (.ref f)=true
def At.of{K:W.Frag}{f:Addr}{x q:Str}{Z:Stmt}{M:Value}{L:ph}{kV N G:Value}{R:ph}{J O:Value}{sl:Array (Option Value)}(l:K.lookup f=some ⟨M,L,.func<|W.fnOf x q (JO Z) (Vw Z) (Ye Z) .none kV N G R J O,sl⟩)(d:W.codeIn K J q=true)(k:W.keepIn K (.ref f)=true):At K f x q Z:=⟨M,L,kV,N,G,R,J,O,sl,l,d,k⟩
section
variable{K:W.Frag}{x q:Str}{st:Stmt}{f:Addr}{fd:FuncData}{ps:kZ}
def BA1(x q:Str)(st:Stmt)(ps:kZ)(us:kX):Prop:=∀(kV Z G:Value)(M:ph)(J L:Value),bindArgs (W.fnOf x q (JO st) (Vw st) (Ye st) .none kV Z G M J L) ⟨us,[]⟩=pure (ps.zip us)
def L4:Nat->(List Value->Prop)->Prop
 |0,R=>R []
 |n+1,R=>∀a,L4 n λus=>R (a::us)
theorem L4.at:∀{n:Nat}{R:List Value->Prop}{Z:kX},L4 n R->Z.length=n->R Z
 |0,_,[],h,_=>h
 |_+1,R,a::_,h,e=>L4.at (R:=λZ=>R (a::Z)) (h a)<|Nat.succ.inj e
def _root_.L2.Fun.bn(F:Fun K x q st f fd)(ps:kZ)(h:L4 ps.length (BA1 x q st ps)):Binds K fd ps []:=F.binds λ_ _ _ _ _ _ _ e=>h.at e _ _ _ _ _ _
def _root_.L2.Fun.b1(F:Fun K x q st f fd)(p:Str)(h:∀a,BA1 x q st [p] [a]:=by exact λ_ _ _ _ _ _ _=>Y):Binds K fd [p] []:=F.bn [p] h
def _root_.L2.Fun.b2(F:Fun K x q st f fd)(p Z:Str)(h:∀a b,BA1 x q st [p,Z] [a,b]:=by exact λ_ _ _ _ _ _ _ _=>Y):Binds K fd [p,Z] []:=F.bn [p,Z] h
def _root_.L2.Fun.b3(F:Fun K x q st f fd)(p J Z:Str)(h:∀a b c,BA1 x q st [p,J,Z] [a,b,c]:=by exact λ_ _ _ _ _ _ _ _ _=>Y):Binds K fd [p,J,Z] []:=F.bn [p,J,Z] h
def _root_.L2.Fun.b4(F:Fun K x q st f fd)(p G J Z:Str)(h:∀a b c d,BA1 x q st [p,G,J,Z] [a,b,c,d]:=by exact λ_ _ _ _ _ _ _ _ _ _=>Y):Binds K fd [p,G,J,Z] []:=F.bn [p,G,J,Z] h
def _root_.L2.Fun.b5(F:Fun K x q st f fd)(p L G J Z:Str)(h:∀a b c d i,BA1 x q st [p,L,G,J,Z] [a,b,c,d,i]:=by exact λ_ _ _ _ _ _ _ _ _ _ _=>Y):Binds K fd [p,L,G,J,Z] []:=F.bn [p,L,G,J,Z] h
end
def At.fn{K:W.Frag}{f:Addr}{x q:Str}{st:Stmt}(h:At K f x q st):∃Z,Fun K x q st f Z:=by
 obtain⟨_,_,_,_,_,_,_,_,_,l,d,k⟩:=h;exact⟨_,LT (st:=st) l d k⟩
def GA(K:W.Frag)(x:Str)(f:Addr)(st:Stmt):Prop:=W.nsIn K mainGlobals x=some (some<|.ref f)/\At K f x x st
def GR(K:W.Frag)(a:Addr)(y x:Str)(f:Addr)(st:Stmt):Prop:=W.nsIn K a y=some (some<|.ref f)/\At K f x x st
def GM(K:W.Frag)(C:Addr)(x q:Str)(f:Addr)(st:Stmt):Prop:=(W.findIn K (.ref C) x=some (some<|.ref f)/\W.isFn K (.ref f)=true)/\At K f x q st
def GN(K:W.Frag)(x:Str):Prop:=W.nsIn K mainGlobals x=some none
def GC(K:W.Frag)(x:Str)(f:Addr):Prop:=W.nsIn K mainGlobals x=some (some<|.ref f)
def GV(K:W.Frag)(x:Str)(v:V)(u:Value):Prop:=W.nsIn K mainGlobals x=some (some u)/\RelV v u
def GF(K:W.Frag)(C:Addr)(x:Str):Prop:=W.findIn K (.ref C) x=some none
def GA.go{K:W.Frag}{h:Heap}{L:Str->Option Value}{x:Str}{f:Addr}{J:Stmt}(X:K.In h)(G:h.Ns mainGlobals L)(a:GA K x f J):∃Z,Fun K x x J f Z/\W.keepIn K (.ref f)=true/\L x=some (.ref f):=
 let⟨Z,F⟩:=a.2.fn
 ⟨Z,F,F.kp,W.mg_of X G a.1⟩
def GR.go{K:W.Frag}{c:Addr}{y x:Str}{f:Addr}{J:Stmt}(a:GR K c y x f J):∃Z,Fun K x x J f Z/\W.keepIn K (.ref f)=true/\W.nsIn K c y=some (some<|.ref f):=
 let⟨Z,F⟩:=a.2.fn
 ⟨Z,F,F.kp,a.1⟩
def GM.go{K:W.Frag}{c:Addr}{x q:Str}{f:Addr}{J:Stmt}(a:GM K c x q f J):∃Z,Fun K x q J f Z/\VN K c x f:=
 let⟨Z,F⟩:=a.2.fn
 ⟨Z,F,a.1.1,a.1.2,F.kp⟩
def GV.go{K:W.Frag}{h:Heap}{Z:Str->Option Value}{x:Str}{v:V}{u:Value}(X:K.In h)(G:h.Ns mainGlobals Z)(a:GV K x v u):Z x=some u/\RelV v u:=⟨W.mg_of X G a.1,a.2⟩
structure CA(K:W.Frag)(C:Addr):Prop where
 pg:W.plainGet K C Str.empty=true
 hd:W.hasDictIn K C=true
 po:W.plainOver K C=true
 sa:W.findIn K (.ref C) "__setattr__"=some (some (.builtin "object.__setattr__"))
 ma:W.makesIn K C=true
 kc:W.keepIn K (.ref C)=true
def AtD(K:W.Frag)(f:Addr)(x q:Str)(st:Stmt):Prop:=∃(R:Value)(O:ph)(kV B N:Value)(E:ph)(Z D:Value)(sl:Array (Option Value))(T:Addr)(M:Value)(L:ph)(J:Nat)(G:Array (Option Value)),K.lookup f=some ⟨R,O,.func<|W.fnOf x q (JO st) (Vw st) (Ye st) (.ref T) kV B N E Z D,sl⟩/\W.codeIn K Z q=true/\W.keepIn K (.ref f)=true/\K.lookup T=some ⟨M,L,.seq #[.bool false] J,G⟩
def AtD.of{K:W.Frag}{f T:Addr}{x q:Str}{Z:Stmt}{B N:Value}{R M:ph}{kV D O:Value}{F:ph}{J E:Value}{sl L:Array (Option Value)}{G:Nat}(l:K.lookup f=some ⟨B,R,.func<|W.fnOf x q (JO Z) (Vw Z) (Ye Z) (.ref T) kV D O F J E,sl⟩)(d:W.codeIn K J q=true)(k:W.keepIn K (.ref f)=true)(t:K.lookup T=some ⟨N,M,.seq #[.bool false] G,L⟩):AtD K f x q Z:=⟨B,R,kV,D,O,F,J,E,sl,T,N,M,G,L,l,d,k,t⟩
def GAD(K:W.Frag)(x:Str)(f:Addr)(st:Stmt):Prop:=W.nsIn K mainGlobals x=some (some<|.ref f)/\AtD K f x x st
def GAD.go{K:W.Frag}{h:Heap}{J:Str->Option Value}{x:Str}{f:Addr}{Z:Stmt}(X:K.In h)(G:h.Ns mainGlobals J)(a:GAD K x f Z):∃F,Nz K x x Z f F/\W.keepIn K (.ref f)=true/\J x=some (.ref f):=by
 obtain⟨E,D,B,kV,A,R,U,S,I,sl,T,O,N,L,M,l,d,k,t⟩:=a;exact⟨_,⟨⟨D,B,kV,A,R,U,S,I,sl,T,O,N,L,M,Y,l,d,t⟩,k⟩,k,W.mg_of X G E⟩
def all_at{l:W.OpenLaw}{w:World}{K:W.Frag}{h:Heap}{mg:Str->Option Value}{fa CK C CG CO CW CD aR fA fI fY f1 f2 f3 f4 f5 f6 f7 f8 f9 f10 f11 f12 f13 f14 f15 f16 f17 f18 f19 f20 f21 f22 f23 f24 f25 f26 f27 f28 f29 f30 f31 f32 f33 f34 f35 f36 f37 f38 f39 f40 f41 f42 f43 f44 f45 f46 f47 f48 f49 f50 f51 f52 f53 f54 f55 f56 f57 f58 f59 f60 f61 f62 f63 f64 f65 f66 f67 f68 f69 f70 f71 f72 f73:Addr}{es:Array DictEntry}{nR:Nat}{u1v u2v u3v u4v u5v u6v u7v u8v u9v u10v u11v u12v:Value}(X:K.In h)(G:h.Ns mainGlobals mg)(hfa:mg "law"=some (.ref fa))(aC:GC K "Kinds" CK)(aB:GC K "Book" C)(aG':GC K "Ground" CG)(aO':GC K "Going" CO)(aW':GC K "Walk" CW)(aD':GC K "Doing" CD)(aU:GC K "RULES" aR)(lR:K.lookup aR=some ⟨.type "dict",none,.dict es nR,#[]⟩)(kR:W.KeysLit w.params es.toList)(aA:GAD K "asked" fA Bm)(aI:GAD K "is_way" fI N3)(aY:GAD K "way_of" fY N2)(a1:GA K "parts" f1 BX)(a2:GA K "part_at" f2 Ge)(a3:GA K "kind_or_place" f3 sKP)(a4:GA K "is_name" f4 R0)(a5:GA K "is_tag" f5 Be)(a6:GA K "is_spelt" f6 BV)(a7:GA K "are_parameters" f7 Bn)(a8:GA K "row_count" f8 WQ)(a9:GA K "rows_over" f9 WP)(a10:GA K "is_row_over" f10 XY)(a11:GA K "is_asking" f11 WR)(a12:GA K "check_asking" f12 UY)(a13:GA K "named" f13 BZ)(a14:GA K "check_most" f14 XZ)(a15:GA K "walk_of" f15 Rx)(a16:GA K "_law_mixed" f16 Ba)(a17:GA K "_law_stream" f17 Ry)(a18:GA K "_law_take" f18 Ic)(a19:GA K "_law_words" f19 BU)(a20:GA K "_law_small" f20 BW)(a21:GA K "are_gone" f21 W8)(a22:GA K "is_gone" f22 RU)(a23:GA K "_law_same_tag" f23 Gz)(a24:GA K "_law_round" f24 DF)(a25:GA K "law" f25 DH)(a26:GR K aR "tag" "kind_of_tag_body" f26 Ie)(a27:GR K aR "name" "kind_of_name_body" f27 Bc)(a28:GR K aR "choose" "kind_of_choose_body" f28 Gg)(a29:GR K aR "ask" "kind_of_ask_body" f29 Ih)(a30:GR K aR "let" "kind_of_let_body" f30 Ig)(a31:GM K CK "__init__" "Kinds.__init__" f31 Ii)(a32:GM K CK "take" "Kinds.take" f32 Bb)(a33:GM K CK "take_tags" "Kinds.take_tags" f33 Id)(a34:GM K CK "names" "Kinds.names" f34 BY)(a35:GM K CK "worths_of" "Kinds.worths_of" f35 WO)(a36:GM K CK "shape_of" "Kinds.shape_of" f36 Gd)(a37:GM K CK "kind_of_tag" "Kinds.kind_of_tag" f37 Rz)(a38:GM K CK "kind_of_pair" "Kinds.kind_of_pair" f38 Gf)(a39:GM K CK "is_worth" "Kinds.is_worth" f39 Xn)(a40:GM K C "__init__" "Book.__init__" f40 Bj)(a41:GM K C "take_heads" "Book.take_heads" f41 Bg)(a42:GM K C "is_head" "Book.is_head" f42 Bk)(a43:GM K C "check_bodies" "Book.check_bodies" f43 R5)(a44:GM K C "kinds" "Book.kinds" f44 R4)(a45:GM K C "names" "Book.names" f45 R3)(a46:GM K C "parameters" "Book.parameters" f46 Bh)(a47:GM K C "kind_of" "Book.kind_of" f47 Bi)(a48:GM K C "body_of" "Book.body_of" f48 Bl)(a49:GM K C "told_of" "Book.told_of" f49 Bf)(a50:GM K CG "__init__" "Ground.__init__" f50 LS)(a51:GM K CG "number_at" "Ground.number_at" f51 Da)(a52:GM K CG "number_of" "Ground.number_of" f52 DZ)(a53:GM K CG "head_kept" "Ground.head_kept" f53 Wd)(a54:GM K CO "__init__" "Going.__init__" f54 Kl)(a55:GM K CO "begin" "Going.begin" f55 B4)(a56:GM K CO "take_head" "Going.take_head" f56 WV)(a57:GM K CO "go_on" "Going.go_on" f57 Km)(a58:GM K CO "from_body" "Going.from_body" f58 WX)(a59:GM K CO "from_thing" "Going.from_thing" f59 Xd)(a60:GM K CO "from_head" "Going.from_head" f60 WW)(a61:GM K CO "with_let" "Going.with_let" f61 Gu)(a62:GM K CO "thing_at" "Going.thing_at" f62 Xr)(a63:GM K CO "make_cell" "Going.make_cell" f63 XH)(a64:GM K CW "__init__" "Walk.__init__" f64 Ft)(a65:GM K CW "birth_of" "Walk.birth_of" f65 GD)(a66:GM K CW "done" "Walk.done" f66 Fu)(a67:GM K CW "want" "Walk.want" f67 Fs)(a68:GM K CW "ring_from" "Walk.ring_from" f68 X7)(a69:GM K CW "outcome" "Doing.outcome" f69 TV)(a70:GM K CW "head_of_cell" "Doing.head_of_cell" f70 We)(a71:GM K CW "go_into" "Doing.go_into" f71 Md)(a72:GM K CW "going_of" "Doing.going_of" f72 TX)(a73:GM K CD "__init__" "Doing.__init__" f73 Li)(z1:GN K "len")(z2:GN K "isinstance")(z3:GN K "bool")(z4:GN K "str")(z5:GN K "int")(z6:GN K "tuple")(z7:GN K "list")(z8:GN K "dict")(z9:GN K "all")(z10:GN K "zip")(z11:GN K "max")(z12:GN K "range")(z13:GN K "sorted")(z14:GN K "min")(z15:GN K "sum")(z16:GN K "enumerate")(z17:GN K "any")(z18:GN K "ValueError")(z19:GN K "reversed")(g1:GV K "SMALL" (.str<|Str.ofString "abcdefghijklmnopqrstuvwxyz") u1v)(g2:GV K "GREAT" (.str<|Str.ofString "ABCDEFGHIJKLMNOPQRSTUVWXYZ") u2v)(g3:GV K "LONGEST" (.int 8) u3v)(g4:GV K "MOST_KINDS" (.int 6) u4v)(g5:GV K "MOST_TAGS" (.int 4) u5v)(g6:GV K "MOST_WORTHS" (.int 30) u6v)(g7:GV K "MOST_PAIRS_DEEP" (.int 2) u7v)(g8:GV K "MOST_DEFINITIONS" (.int 8) u8v)(g9:GV K "MOST_PARAMETERS" (.int 3) u9v)(g10:GV K "MOST_ROWS" (.int 200) u10v)(g11:GV K "MOST_ROWS_IN_ALL" (.int 400) u11v)(g12:GV K "MOST_CELLS" (.int 500) u12v)(caCK:CA K CK)(caC:CA K C)(caCG:CA K CG)(caCO:CA K CO)(caCW:CA K CW)(caCD:CA K CD)(nk1:GF K CK "shapes")(nk2:GF K CK "worths")(nk3:GF K CK "heights")(nk4:GF K CK "pairs_deep")(nk5:GF K CK "tag_kinds")(nk6:GF K CK "pair_kinds")(nb1:GF K C "sorts")(nb2:GF K C "told")(nb3:GF K C "rows")(nb4:GF K C "turns")(ng1:GF K CG "book")(ng2:GF K CG "given")(ng3:GF K CG "births")(ng4:GF K CG "numbers")(ng5:GF K CG "starts")(no1:GF K CO "ground")(no2:GF K CO "number")(no3:GF K CO "f")(no4:GF K CO "place")(no5:GF K CO "known")(no6:GF K CO "body")(no7:GF K CO "waiting")(nw1:GF K CW "ground")(nw2:GF K CW "most")(nw3:GF K CW "begun")(nw4:GF K CW "under_way")(nw5:GF K CW "wanters")(nw6:GF K CW "wants")(nw7:GF K CW "heads")(y1:W.specialIn K (.ref CD) "__getattribute__"=some (some<|.builtin "type.__getattribute__"))(y2:W.readsIn K CD (.type "type")=true)(y3:W.findCls K (.ref CD) (.type "type") "__init__"=some (.val<|.ref f73)):∃fd:FuncData,(∀(s:Shared)(v:Value),BindsTo s fd ⟨[v],[]⟩ [("script",v)])/\∀base:Heap,K.In base->base.Ns mainGlobals mg->Yf l.prog w K mg base CX0 50 fa fd ["script"] (EA K):=by
 have e:=hfa.symm.trans<|W.mg_of X G a25.1;cases e;obtain⟨d1,F1,k1,m1⟩:=a1.go X G;obtain⟨d2,F2,k2,m2⟩:=a2.go X G;obtain⟨d3,F3,k3,m3⟩:=a3.go X G;obtain⟨d4,F4,k4,m4⟩:=a4.go X G;obtain⟨d5,F5,k5,m5⟩:=a5.go X G;obtain⟨d6,F6,k6,m6⟩:=a6.go X G;obtain⟨d7,F7,k7,m7⟩:=a7.go X G;obtain⟨d8,F8,k8,m8⟩:=a8.go X G;obtain⟨d9,F9,k9,m9⟩:=a9.go X G;obtain⟨d10,F10,k10,m10⟩:=a10.go X G;obtain⟨d11,F11,k11,m11⟩:=a11.go X G;obtain⟨d12,F12,k12,m12⟩:=a12.go X G;obtain⟨d13,F13,k13,m13⟩:=a13.go X G;obtain⟨d14,F14,k14,m14⟩:=a14.go X G;obtain⟨d15,F15,k15,m15⟩:=a15.go X G;obtain⟨d16,F16,k16,m16⟩:=a16.go X G;obtain⟨d17,F17,k17,m17⟩:=a17.go X G;obtain⟨d18,F18,k18,m18⟩:=a18.go X G;obtain⟨d19,F19,k19,m19⟩:=a19.go X G;obtain⟨d20,F20,k20,m20⟩:=a20.go X G;obtain⟨d21,F21,k21,m21⟩:=a21.go X G;obtain⟨d22,F22,k22,m22⟩:=a22.go X G;obtain⟨d23,F23,k23,m23⟩:=a23.go X G;obtain⟨d24,F24,k24,m24⟩:=a24.go X G;obtain⟨_,_,kV,dc,pm,an,cd,ct,_,l',d',k25⟩:=a25.2;have F25:=LT (st:=DH) l' d' k25;obtain⟨d26,F26,k26,a26⟩:=a26.go;obtain⟨d27,F27,k27,a27⟩:=a27.go;obtain⟨d28,F28,k28,a28⟩:=a28.go;obtain⟨d29,F29,k29,a29⟩:=a29.go;obtain⟨d30,F30,k30,a30⟩:=a30.go;obtain⟨d31,F31,w31⟩:=a31.go;obtain⟨d32,F32,w32⟩:=a32.go;obtain⟨d33,F33,w33⟩:=a33.go;obtain⟨d34,F34,w34⟩:=a34.go;obtain⟨d35,F35,w35⟩:=a35.go;obtain⟨d36,F36,w36⟩:=a36.go;obtain⟨d37,F37,w37⟩:=a37.go;obtain⟨d38,F38,w38⟩:=a38.go;obtain⟨d39,F39,w39⟩:=a39.go;obtain⟨d40,F40,w40⟩:=a40.go;obtain⟨d41,F41,w41⟩:=a41.go;obtain⟨d42,F42,w42⟩:=a42.go;obtain⟨d43,F43,w43⟩:=a43.go;obtain⟨d44,F44,w44⟩:=a44.go;obtain⟨d45,F45,w45⟩:=a45.go;obtain⟨d46,F46,w46⟩:=a46.go;obtain⟨d47,F47,w47⟩:=a47.go;obtain⟨d48,F48,w48⟩:=a48.go;obtain⟨d49,F49,w49⟩:=a49.go;obtain⟨d50,F50,w50⟩:=a50.go;obtain⟨d51,F51,w51⟩:=a51.go;obtain⟨d52,F52,w52⟩:=a52.go;obtain⟨d53,F53,w53⟩:=a53.go;obtain⟨d54,F54,w54⟩:=a54.go;obtain⟨d55,F55,w55⟩:=a55.go;obtain⟨d56,F56,w56⟩:=a56.go;obtain⟨d57,F57,w57⟩:=a57.go;obtain⟨d58,F58,w58⟩:=a58.go;obtain⟨d59,F59,w59⟩:=a59.go;obtain⟨d60,F60,w60⟩:=a60.go;obtain⟨d61,F61,w61⟩:=a61.go;obtain⟨d62,F62,w62⟩:=a62.go;obtain⟨d63,F63,w63⟩:=a63.go;obtain⟨d64,F64,w64⟩:=a64.go;obtain⟨d65,F65,w65⟩:=a65.go;obtain⟨d66,F66,w66⟩:=a66.go;obtain⟨d67,F67,w67⟩:=a67.go;obtain⟨d68,F68,w68⟩:=a68.go;obtain⟨d69,F69,w69⟩:=a69.go;obtain⟨d70,F70,w70⟩:=a70.go;obtain⟨d71,F71,w71⟩:=a71.go;obtain⟨d72,F72,w72⟩:=a72.go;obtain⟨d73,F73,w73⟩:=a73.go;obtain⟨dA,FA,kA,mA⟩:=aA.go X G;obtain⟨dI,FI,kI,mI⟩:=aI.go X G;obtain⟨dY,FY,kY,mY⟩:=aY.go X G;have mC:=W.mg_of X G aC;have mB:=W.mg_of X G aB;have mG:=W.mg_of X G aG';have mO:=W.mg_of X G aO';have mW:=W.mg_of X G aW';have mD:=W.mg_of X G aD';have mU:=W.mg_of X G aU;have B:Blt mg:=⟨vz X G z1,vz X G z2,vz X G z3,vz X G z4,vz X G z5,vz X G z6,vz X G z7,vz X G z8,vz X G z9,vz X G z10,vz X G z11,vz X G z12,vz X G z13⟩;have nmin:=vz X G z14;have nsum:=vz X G z15;have nenumerate:=vz X G z16;have nany:=vz X G z17;have nValueError:=vz X G z18;have nreversed:=vz X G z19;obtain⟨q1,r1⟩:=g1.go X G;obtain⟨q2,r2⟩:=g2.go X G;obtain⟨q3,r3⟩:=g3.go X G;obtain⟨q4,r4⟩:=g4.go X G;obtain⟨q5,r5⟩:=g5.go X G;obtain⟨q6,r6⟩:=g6.go X G;obtain⟨q7,r7⟩:=g7.go X G;obtain⟨q8,r8⟩:=g8.go X G;obtain⟨q9,r9⟩:=g9.go X G;obtain⟨q10,r10⟩:=g10.go X G;obtain⟨q11,r11⟩:=g11.go X G;obtain⟨q12,r12⟩:=g12.go X G;have T:KCl K CK:=⟨⟨caCK.pg,caCK.hd,caCK.po,caCK.sa⟩,nk1,nk2,nk3,nk4,nk5,nk6⟩;have TB:BCl K C:=⟨⟨caC.pg,caC.hd,caC.po,caC.sa⟩,nb1,nb2,nb3,nb4⟩;have TG:GCl K CG:=⟨⟨caCG.pg,caCG.hd,caCG.po,caCG.sa⟩,ng1,ng2,ng3,ng4,ng5⟩;have TO:OCl K CO:=⟨⟨caCO.pg,caCO.hd,caCO.po,caCO.sa⟩,no1,no2,no3,no4,no5,no6,no7⟩;have TW:WCl K CW:=⟨⟨⟨caCW.pg,caCW.hd,caCW.po,caCW.sa⟩,nw1,nw2,nw3,nw4⟩,nw5,nw6,nw7⟩;refine⟨W.fnOf "law" "law" (JO DH) (Vw DH) (Ye DH) .none kV dc pm an cd ct,λs v=>.of_eq Y,λbase hIn _=>?_⟩;have tk:∀n,Yf l.prog w K mg base CX0 (n+2) f18 _ ["stream","many"] WG:=λn=>Oz F18 (KY (n:=n) F16) (F16.b2 _ _) k16 m16;have wo:∀n,Yf l.prog w K mg base CX0 (n+3) f19 _ ["stream","many","letters","ways"] Wv:=λn=>KP B F19 (tk n) (F18.b2 _ _) k18 m18;have sm:∀n,Yf l.prog w K mg base CX0 (n+4) f20 _ ["stream","many"] Ri:=λn=>KU F20 (wo n) (F19.b4 _ _ _ _) k19 m19;have pA:Yf l.prog w K mg base CX0 1 f1 _ _ Xk:=ok_parts (n:=0) B F1;have sp:Yf l.prog w K mg base CX0 1 f6 _ _ Ww:=KS (n:=0) B F6 q3 r3;have na:Yf l.prog w K mg base CX0 2 f4 _ _ (Us 97):=FL (n:=1) F4 sp (F6.b2 _ _) k6 m6 q1 r1;have ta:Yf l.prog w K mg base CX0 2 f5 _ _ (Us 65):=Kc (n:=1) F5 sp (F6.b2 _ _) k6 m6 q2 r2;have tt:Yf l.prog w K mg base CX0 3 f33 _ _ (BH CK):=O0 (n:=2) B T F33 q5 r5 ta (F5.b1 _) k5 m5;have kt:Yf l.prog w K mg base CX0 4 f32 _ _ (Rl CK):=KZ (n:=3) B T F32 (na.mono<|by decide) (F4.b1 _) k4 m4 tt (F33.b3 _ _ _) w33;have ini:Yf l.prog w K mg base CX0 5 f31 _ _ (BJ CK):=O7 (n:=4) B T F31 q4 r4 kt (F32.b3 _ _ _) w32;have knm:Yf l.prog w K mg base CX0 1 f34 _ _ (XA CK):=KW (n:=0) B T F34;have kwo:Yf l.prog w K mg base CX0 1 f35 _ _ (Jz CK):=NG (n:=0) B T F35;have ksh:Yf l.prog w K mg base CX0 1 f36 _ _ (WH CK):=B0 (n:=0) T F36;have kto:Yf l.prog w K mg base CX0 1 f37 _ _ (GU CK):=FK (n:=0) T F37;have kpo:Yf l.prog w K mg base CX0 1 f38 _ _ (Ts CK):=B3 (n:=0) T F38;have bki:Yf l.prog w K mg base CX0 1 f44 _ _ (J0 C CK):=FO (n:=0) TB F44;have bnm:Yf l.prog w K mg base CX0 1 f45 _ _ (Ut C CK):=FN (n:=0) B TB F45;have to:Yf l.prog w K mg base CX0 1 f49 _ _ (GP C CK):=Oy (n:=0) B TB F49;have cP:Yf l.prog w K mg base CX0 2 f46 _ _ (GS C CK):=O2 (n:=1) TB F46 w49 to<|F49.b2 _ _;have cK:Yf l.prog w K mg base CX0 2 f47 _ _ (Rk C CK):=Kb (n:=1) TB F47 w49 to<|F49.b2 _ _;have cY:Yf l.prog w K mg base CX0 2 f48 _ _ (Rn C CK):=Kg (n:=1) TB F48 w49 to<|F49.b2 _ _;have R1:RA l.prog w K mg base C CK (λk=>findBy JH es k) "tag" _:=⟨f26,_,Gx lR a26,O4 (n:=2) TB T F26 w44 ((bki.mono<|by decide)) (F44.b1 _) w37 ((kto.mono<|by decide))<|F37.b2 _ _,k26,F26.b4 _ _ _ _⟩;have R2:RA l.prog w K mg base C CK (λk=>findBy JH es k) "name" _:=⟨f27,_,Gx lR a27,Ka (n:=2) F27,k27,F27.b4 _ _ _ _⟩;have R6:RA l.prog w K mg base C CK (λk=>findBy JH es k) "choose" _:=⟨f28,_,Gx lR a28,B2 (n:=0) B nany TB T F28 w44 ((bki.mono<|by decide)) (F44.b1 _) w36 ((ksh.mono<|by decide))<|F36.b2 _ _,k28,F28.b4 _ _ _ _⟩;have R7:RA l.prog w K mg base C CK (λk=>findBy JH es k) "ask" _:=⟨f29,_,Gx lR a29,O6 (n:=0) TB F29 w45 ((bnm.mono<|by decide)) (F45.b1 _) w46 (cP) (F46.b2 _ _) w47 (cK)<|F47.b2 _ _,k29,F29.b4 _ _ _ _⟩;have R8:RA l.prog w K mg base C CK (λk=>findBy JH es k) "let" _:=⟨f30,_,Gx lR a30,O5 (n:=2) F30,k30,F30.b4 _ _ _ _⟩;have kp:Yf l.prog w K mg base CX0 16 f3 _ _ (Tr C CK 13):=Kz B nenumerate TB T F3 (F3.b3 _ _ _) m3 w44 (bki.mono<|by decide) (F44.b1 _) w34 (knm.mono<|by decide) (F34.b1 _) ⟨f1,_,m1,k1,F1.b1 _,pA.mono<|by decide⟩ mU (PN hIn lR kR) (λL=>SV L R1 R2 R6 R7 R8) 13;have ap:Yf l.prog w K mg base CX0 3 f7 _ _ (Rt CK):=Ki (n:=2) B T F7 q9 r9 ⟨f4,_,m4,k4,F4.b1 _,na⟩ w34 ((knm.mono<|by decide))<|F34.b1 _;have rc:Yf l.prog w K mg base CX0 2 f8 _ _ (XW CK):=NI (n:=1) B T F8 w35 (kwo)<|F35.b2 _ _;have ro:Yf l.prog w K mg base CX0 2 f9 _ _ (XU CK):=NH (n:=1) B T F9 w35 (kwo)<|F35.b2 _ _;have ih:Yf l.prog w K mg base CX0 4 f42 _ _ (Rq C CK):=Kh (n:=3) TB T F42 ⟨f4,_,m4,k4,F4.b1 _,na.mono<|by decide⟩ ⟨f7,_,m7,k7,F7.b2 _ _,ap⟩ w34 ((knm.mono<|by decide))<|F34.b1 _;have th:Yf l.prog w K mg base CX0 5 f41 _ _ (IR C CK):=Kf (n:=4) B nenumerate TB F41 q8 r8 q10 r10 q11 r11 w42 ih (F42.b4 _ _ _ _) ⟨f8,_,m8,k8,F8.b2 _ _,rc.mono<|by decide⟩ ⟨f9,_,m9,k9,F9.b2 _ _,ro.mono<|by decide⟩;have cb:Yf l.prog w K mg base CX0 17 f43 _ _ (SB C CK):=AC (n:=16) B nenumerate TB F43 w45 (bnm.mono<|by decide) (F45.b1 _) ⟨f3,_,m3,k3,F3.b3 _ _ _,kp⟩;have bi:Yf l.prog w K mg base CX0 18 f40 _ _ (SA C CK):=AB (n:=17) (m:=5) (by decide) TB F40 ⟨caCK.ma,w31.1,w31.2,caCK.kc⟩ mC ini (F31.b2 _ _) w41 (th.mono<|by decide) (F41.b2 _ _) w43 cb<|F43.b1 _;have pat:Yf l.prog w K mg base CX0 2 f2 _ _ Jw:=B1 (n:=1) F2 ⟨f1,_,m1,k1,F1.b1 _,pA⟩;have iw:Yf l.prog w K mg base CX0 4 f39 _ _ (M5 CK 3):=K6 B T F39 (F39.b3 _ _ _) w39 3;have iro:Yf l.prog w K mg base CX0 5 f10 _ _ (Q2 CK):=Cg (n:=4) B T F10 w39 iw<|F39.b3 _ _ _;have ia:Yf l.prog w K mg base CX0 6 f11 _ _ (BK C CK<|.bl true):=Cr (n:=5) TB F11 w45 (bnm.mono<|by decide) (F45.b1 _) w44 (bki.mono<|by decide) (F44.b1 _) w46 (cP.mono<|by decide) (F46.b2 _ _) ⟨f10,_,m10,k10,F10.b3 _ _ _,iro⟩;have cka:Yf l.prog w K mg base CX0 7 f12 _ _ (BK C CK .non):=Cv (n:=6) F12 ⟨f11,_,m11,k11,F11.b3 _ _ _,ia⟩;have ckm:Yf l.prog w K mg base CX0 1 f14 _ _ Q9:=Cu (n:=0) F14;have nam:Yf l.prog w K mg base CX0 3 f13 _ _ (IM C CK):=Cm (n:=2) B TB F13 w46 (cP)<|F46.b2 _ _;have na:Yf l.prog w K mg base CX0 1 f51 _ _ (E5 l.prog w CG):=Co (n:=0) B TG F51;have gi:Yf l.prog w K mg base CX0 4 f50 _ _ (EC l.prog w C CK CG):=S7 (n:=3) B TG F50 ⟨f13,_,m13,k13,F13.b3 _ _ _,nam⟩;have oi':Yf l.prog w K mg base CX0 3 f54 _ _ (D8 l.prog w C CK CG CO):=Sz (L:=2) TB TG TO F54 w48 (cY)<|F48.b2 _ _;have tf:=QE (P:=l.prog) (w:=w) (C:=C) (CK:=CK) (base:=base) (L:=3) B TG TO F62 F63 ⟨f2,_,m2,k2,F2.b2 _ _,pat.mono<|by decide⟩ ⟨f13,_,m13,k13,F13.b3 _ _ _,nam⟩ w51 (na.mono<|by decide) (F51.b3 _ _ _) w62 (F62.b3 _ _ _) w63<|F63.b4 _ _ _ _;have wl:Yf l.prog w K mg base CX0 21 f61 _ _ (Qy l.prog w C CK CG CO 8):=Cc (L:=20) B TG TO F61 w51 (na.mono<|by decide) (F51.b3 _ _ _) w63 ((tf 8).2)<|F63.b4 _ _ _ _;have fb:Yf l.prog w K mg base CX0 22 f58 _ _ (IQ l.prog w C CK CG CO 8):=AA (L:=21) TO F58 ⟨f2,_,m2,k2,F2.b2 _ _,pat.mono<|by decide⟩ w62 ((tf 9).1) (F62.b3 _ _ _) w61 (wl)<|F61.b4 _ _ _ _;have ft:Yf l.prog w K mg base CX0 4 f59 _ _ (IO CO):=S8 (n:=3) F59;have fh:Yf l.prog w K mg base CX0 4 f60 _ _ (IP CO):=S9 (n:=0) nenumerate TO F60;have go:Yf l.prog w K mg base CX0 23 f57 _ _ (EB l.prog w C CK CG CO 8):=S6 (L:=22) B TO F57 w58 (fb) (F58.b3 _ _ _) w59 (ft.mono<|by decide) (F59.b2 _ _) w60 (fh.mono<|by decide)<|F60.b2 _ _;have beg:Yf l.prog w K mg base CX0 24 f55 _ _ (Rp l.prog w C CK CG CO 8):=PD (L:=23) TO F55 w57 (go)<|F57.b2 _ _;have thd:Yf l.prog w K mg base CX0 24 f56 _ _ (IL l.prog w C CK CG CO 8):=Sy (L:=23) TO F56 w57 (go)<|F57.b2 _ _;have bir:Yf l.prog w K mg base CX0 1 f65 _ _ (Ro l.prog w CG CW):=PB (n:=0) TW TG F65;have rf:Yf l.prog w K mg base CX0 2 f68 _ _ (Q3 l.prog w C CK CG CO CW):=Ci (n:=1) TW TO F68 w65 (bir)<|F65.b2 _ _;have gof:Yf l.prog w K mg base CX0 5 f72 _ _ (BL true l.prog w C CK CG CO CW):=O8 (n:=3) TW.toDCl F72 mO ⟨caCO.ma,w54.1,w54.2,caCO.kc⟩ oi'<|F54.b3 _ _ _;have gin:Yf l.prog w K mg base CX0 25 f71 _ _ (BM true l.prog w C CK CG CO CW 8):=O9 (L:=24) TW.toDCl TO F71 w72 (gof.mono<|by decide) (F72.b2 _ _) w55 (beg)<|F55.b1 _;have wan:Yf l.prog w K mg base CX0 26 f67 _ _ (Rh l.prog w C CK CG CO CW 8):=KQ (L:=25) B TW TO F67 w71 (gin) (F71.b2 _ _) w68 (rf.mono<|by decide)<|F68.b2 _ _;have hoc:Yf l.prog w K mg base CX0 27 f70 _ _ (IN l.prog w C CK CG CO CW 8):=S5 (L:=26) TW.toDCl F70 w67 (wan)<|F67.b2 _ _;have out:Yf l.prog w K mg base CX0 28 f69 _ _ (Rj l.prog w C CK CG CO CW 8):=O3 (L:=27) TW.toDCl F69 w70 (hoc)<|F70.b2 _ _;have don:Yf l.prog w K mg base CX0 2 f66 _ _ (Rm l.prog w C CK CG CO CW):=Ke (L:=1) TW F66 w65 (bir)<|F65.b2 _ _;have din:Yf l.prog w K mg base CX0 1 f73 _ _ (Q8 CW):=Ct (n:=0) TW.toDCl F73;have win:Yf l.prog w K mg base CX0 2 f64 _ _ (Qz CW):=Cd (n:=1) TW F64 mD ⟨y1,y2,y3,w73.kp⟩ din<|F73.b3 _ _ _;have wao:Yf l.prog w K mg base CX0 9 f15 _ _ (D7 l.prog w C CK CG CO CW):=Sx (n:=7) F15 ⟨f12,_,m12,k12,F12.b3 _ _ _,cka.mono<|by decide⟩ ⟨f14,_,m14,k14,F14.b2 _ _,ckm.mono<|by decide⟩ q12 r12 mW ⟨caCW.ma,w64.1,w64.2,caCW.kc⟩ (win.mono<|by decide) (F64.b3 _ _ _) mG ⟨caCG.ma,w50.1,w50.2,caCG.kc⟩ (gi.mono<|by decide)<|F50.b4 _ _ _ _;have ask:Yf l.prog w K mg base CX0 29 fA _ _ (BN l.prog w C CK 8):=PF (L:=28) TW FA ⟨f15,_,m15,k15,F15.b4 _ _ _ _,wao.mono<|by decide⟩ w69 (out) (F69.b2 _ _) w66 (don.mono<|by decide)<|F66.b1 _;have nof:Yf l.prog w K mg base CX0 2 f52 _ _ (Q4 l.prog w CG):=Ck (L:=1) B nreversed TG F52 w51 (na)<|F51.b3 _ _ _;have hke:Yf l.prog w K mg base CX0 1 f53 _ _ Q7:=Cs (L:=0) F53;have igo:Yf l.prog w K mg base CX0 42 f22 _ _ (Q6 l.prog w C CK CG CO):=Cq (n:=0) B TO F22 mO ⟨caCO.ma,w54.1,w54.2,caCO.kc⟩ (oi'.mono<|by decide) (F54.b3 _ _ _) w55 (beg.mono<|by decide) (F55.b1 _) w56 (thd.mono<|by decide)<|F56.b2 _ _;have ago:Yf l.prog w K mg base CX0 43 f21 _ _ (SD l.prog w C CK CG CO):=Cw (n:=42) B nenumerate TG F21 ⟨f22,_,m22,k22,F22.b5 _ _ _ _ _,igo⟩;have isw:Yf l.prog w K mg base CX0 44 fI _ _ (Q5 l.prog w C CK CG):=Cp (n:=42) B TG FI ⟨f12,_,m12,k12,F12.b3 _ _ _,cka.mono<|by decide⟩ mG ⟨caCG.ma,w50.1,w50.2,caCG.kc⟩ (gi.mono<|by decide) (F50.b4 _ _ _ _) w52 (nof.mono<|by decide) (F52.b2 _ _) w53 (hke.mono<|by decide) (F53.b2 _ _) ⟨f21,_,m21,k21,F21.b3 _ _ _,ago⟩;have wyo:Yf l.prog w K mg base CX0 29 fY _ _ (Qx l.prog w C CK):=Cb (n:=27) TW FY ⟨f15,_,m15,k15,F15.b4 _ _ _ _,wao.mono<|by decide⟩ w69 (out)<|F69.b2 _ _;have sam:Yf l.prog w K mg base CX0 3 f23 _ _ Q0:=Cf (n:=2) B F23 ⟨f18,_,m18,k18,F18.b2 _ _,tk 0⟩;have rd:Yf l.prog w K mg base CX0 49 f24 _ _ (Q1 C CK):=Cj (n:=46) B F24 ⟨f18,_,m18,k18,F18.b2 _ _,tk 46⟩ ⟨f19,_,m19,k19,F19.b4 _ _ _ _,wo 45⟩ ⟨f20,_,m20,k20,F20.b2 _ _,sm 44⟩ ⟨f23,_,m23,k23,F23.b3 _ _ _,sam.mono<|by decide⟩ mB ⟨caC.ma,w40.1,w40.2,caC.kc⟩ (bi.mono<|by decide)<|F40.b3 _ _ _;exact S1 (n:=0) (C:=C) (CK:=CK) B F25 ⟨f17,_,m17,k17,F17.b1 _,FJ (n:=48) F17⟩ ⟨f18,_,m18,k18,F18.b2 _ _,tk 47⟩ ⟨f24,_,m24,k24,F24.b1 _,rd⟩ mI kI (isw.mono<|by decide) (FI.b5 _ _ _ _ _) mY kY (wyo.mono<|by decide) (FY.b5 _ _ _ _ _) mA kA (ask.mono<|by decide)<|FA.b5 _ _ _ _ _
def goes{l:W.OpenLaw}{q:Program}{loose:kZ}{XP:(Str->Option Value)->Heap->Prop}{YP:World->Heap->Prop}{d:DefRec}{K:Params->W.Frag}(hn:l.most=some 63)(hdf:d.params.defaults=[])(hY:∀(w:World)(h:Heap),YP w h->(K w.params).In h)(F:∀(w:World)(mg:Str->Option Value)(fa:Addr)(h:Heap),(K w.params).In h->h.Ns mainGlobals mg->mg d.name=some (.ref fa)->
   ∃fd:FuncData,(∀(s:Shared)(u:Value),BindsTo s fd ⟨[u],[]⟩ [("script",u)])/\∀base:Heap,(K w.params).In base->base.Ns mainGlobals mg->Yf l.prog w (K w.params) mg base CX0 50 fa fd ["script"] (EA<|K w.params)):
  W.WalkO q loose XP YP l.row.toRowW d [] (λf vs=>PySem.call f vs):=
 L2.walk_of (n:=63) (k:=50) (x:="script") (CX:=λ_=>CX0) (sp:=λw=>EA<|K w.params) hn (by decide) hdf ⟨rfl,by decide,by decide⟩ hY F (λ_ _ a ns hl _ hS=>⟨a,ns,hS,hl,λ_=>rfl⟩) λ_ _ _ _ _ z=>z
end K4
end
namespace PySem.W.Fast
def tw16520997726890621267:=()
def tw17708123200377315833:=()
def tw2713592389885419587:=()
def tw8251436081820221743:=()
def tw2190627010141225018:=()
def tw12090185222038312436:=()
def tw11026115399590510460:=()
def tw18426627141510648800:=()
def tw17469811903465080306:=()
def tw16293468768302641844:=()
def tw15533192116540227666:=()
def tw6912461533023690363:=()
def tw4444355283690115904:=()
def tw1617163416650502074:=()
def tw13254307453577767726:=()
def tw11429328009268369908:=()
def tw7262918293551592517:=()
def tw14810604008766473040:=()
def tw8925451100630111177:=()
def tw15729878999549290688:=()
def tw9080895500981481472:=()
def tw6944007359804153043:=()
def tw14452050678600693371:=()
def tw963829401271670840:=()
def tw5835079585102188816:=()
def tw10838029868050871554:=()
def tw10875781361135254787:=()
def tw14127698456705507377:=()
def tw436290241634340473:=()
def tw8009497176110741411:=()
def tw2957105386364663743:=()
def tw15688775298004839024:=()
def tw2598237666172851007:=()
def tw3767058697712150473:=()
def tw13812298728633304454:=()
def tw9982341965068563097:=()
def tw1362344369273339135:=()
def tw12876264881162752652:=()
def tw12307426299397464954:=()
def tw14710807662441078114:=()
def tw3927653946822672484:=()
def tw4576188700124415537:=()
def tw14289364147515220148:=()
def tw2918241925358221110:=()
def tw913409300711316444:=()
def tw9698477144146704883:=()
def tw6169621621756094111:=()
def tw4042185523908906186:=()
def tw12196960700040050597:=()
def tw4534510355619511835:=()
def tw10031455357501597812:=()
def tw7826180892713747713:=()
def tw16049806349758190826:=()
def tw9036866650279685057:=()
def tw4408696358614349043:=()
def tw16147081824906891594:=()
def tw16361913702806153800:=()
def tw1350631506762448304:=()
def tw6010686466808826532:=()
def tw10970924246034249174:=()
def tw15937380462209083840:=()
def tw7464806128571745832:=()
def tw9846681383469468612:=()
def tw16115548956703484956:=()
def tw5170181871550845439:=()
def tw4785552408735968336:=()
def tw15314719263659630903:=()
def tw18014553831900908497:=()
def tw8578023636898179472:=()
def tw5099358766238159690:=()
def tw5196931839564182611:=()
def tw5469873438228130406:=()
def tw16265059145260962026:=()
def tw556610730909320534:=()
def tw9626285993049089006:=()
def tw3479491861456104346:=()
def tw11594717173457168532:=()
def tw16077951153363373451:=()
def tw13956772838141835783:=()
def tw12902935829308718230:=()
def tw8477099397272573672:=()
def tw16584150420506825241:=()
def tw15662177780894013199:=()
def tw3957432223439262980:=()
def tw5840931707222931938:=()
def tw12108522231792665809:=()
def tw3108425315837011117:=()
def tw517483698537063640:=()
def tw8077176901052676784:=()
def tw276880940166772200:=()
def tw13313804055910394429:=()
def tw4882717517497873247:=()
def tw16771732410155930604:=()
def tw17620128974246324266:=()
def tw8060583372287114965:=()
def tw14480572243384646979:=()
def tw7323800171088130325:=()
def tw167119266893980538:=()
def tw13301476464548413828:=()
def tw3594202761640975689:=()
def tw3462289665070956165:=()
def tw1717738332992029177:=()
def tw14781685544756379402:=()
def tw6201262422731153130:=()
def tw6044918598357105252:=()
def tw14359121983964811051:=()
def tw904348635780529444:=()
def tw17727099751152960376:=()
def tw15254772742876934834:=()
def tw16229837166320514306:=()
def tw10147475815333234219:=()
def tw14986078134770071615:=()
def tw2542660198067616203:=()
def tw8477143691699100716:=()
def tw11361081957929353466:=()
def tw6827744930603976995:=()
def tw3729078376837584189:=()
def tw17534190878119463594:=()
def tw9227208597120479558:=()
def tw18382359596704434367:=()
def tw10053588727332362131:=()
def tw533807414682193088:=()
def tw4246371696406045641:=()
def tw11379039831816637350:=()
def tw12683441182304383930:=()
def tw14396581132870770116:=()
def tw2414152979289989316:=()
def tw1046008977682148299:=()
def tw17123930450862281426:=()
def tw16140271705608756869:=()
def tw2734251450779975604:=()
def tw8300062734803278530:=()
def tw4196605898785799032:=()
def tw2970427074978612046:=()
def tw16499412123514032839:=()
def tw4460663951099500435:=()
def tw17026837686264791951:=()
def tw8384509184861257408:=()
def tw5817635952540682664:=()
def tw1222186841028637516:=()
def tw7919686081383247924:=()
def tw18248292426329486912:=()
def tw13628345818598237914:=()
def tw5464433654208805161:=()
def tw17651140426248038533:=()
def tw10147721327963517544:=()
def tw15026687640451358429:=()
def tw6230067375703300073:=()
def tw13768325609275506150:=()
def tw13068916690671732691:=()
def tw8899948271781593081:=()
def tw9250468408210866404:=()
def tw1153740181681918268:=()
def tw16424902968974996309:=()
def tw16882213175595822613:=()
def tw2225454424473646561:=()
def tw17890232249731622894:=()
def tw4721283994680188797:=()
def tw275811847018877574:=()
def tw5040241385010942030:=()
def tw295929635752566190:=()
def tw13830790919627851336:=()
def tw2136433894255251260:=()
def tw17260743672954021788:=()
def tw1483127969112229403:=()
def tw5535357286638967028:=()
def tw10889664586574211429:=()
def tw12973756056547803602:=()
def tw10766235444293663717:=()
def tw1251943610759873881:=()
def tw14571401757110899063:=()
def tw13239671755079239087:=()
def tw15525684883700632117:=()
def tw8556779344660809188:=()
def tw13661680251387212203:=()
def tw10133573375373839916:=()
def tw3337253925573482805:=()
def tw4977531965838790241:=()
def tw12752075436273540072:=()
def tw13237141553313527044:=()
def tw448882840176715722:=()
def tw1878297993386290470:=()
def tw11723249107886575195:=()
def tw11658560232194429137:=()
def tw2152389595847944144:=()
def tw16824953004574992563:=()
def tw143116580387855531:=()
def tw419936072920861326:=()
def tw5646035048786654097:=()
def tw7586486591812086738:=()
def tw15992736944804350662:=()
def tw5725478348693208734:=()
def tw12896521157596307580:=()
def tw101614633486914535:=()
def tw13631799669036203018:=()
def tw4955676397403646394:=()
def tw5152602175477032207:=()
def tw11632477616814038367:=()
def tw10931301480953311120:=()
def tw7800022027797159231:=()
def tw4896081000905540473:=()
def tw9233747480079442919:=()
def tw7677590876560226543:=()
def tw7945312118191889435:=()
def tw8882085699110387346:=()
def tw344836741189652879:=()
def tw8302460894539475478:=()
def tw10209019067384555364:=()
def tw5641508579560484239:=()
def tw14611328573163295011:=()
def tw14984496187606047722:=()
def tw14249798802582533069:=()
def tw12258602534177526405:=()
def tw12434719583407639982:=()
def tw12575857900634837287:=()
def tw11732730740681209128:=()
def tw3872257649720555362:=()
def tw5304614794148606728:=()
def tw15073362867947485079:=()
def tw13710987489901012627:=()
def tw14876517005931632994:=()
def tw16544336967815171126:=()
def tw14168816665737861883:=()
def tw11939293303575583109:=()
def tw17189410739371043638:=()
def tw7512081811677130861:=()
def tw14350713040354336742:=()
def tw15342521455547298369:=()
def tw9935829238269483565:=()
def tw18020942101605121811:=()
def tw7080945621313305056:=()
def tw15296766529961113636:=()
def tw3437626500198929707:=()
def tw4145666076047384435:=()
def tw12774142569163465698:=()
def tw13066081580486084833:=()
def tw5477518965061903268:=()
def tw3609922259878109936:=()
def tw10499187243748850309:=()
def tw8332753547601417801:=()
def tw12867802585533974127:=()
def tw13415165974895260297:=()
def tw3146851957228483862:=()
def tw2981304965185666222:=()
def tw2294259975970824470:=()
def tw3155978972675900926:=()
def tw3081631147850879847:=()
def tw16754115329839744922:=()
def tw11174543990254394715:=()
def tw5841223760963828592:=()
def tw8227877117666469515:=()
def tw9449944422646279740:=()
def tw13592850359053413993:=()
def tw14350238395513352062:=()
def tw5699901653505722839:=()
def tw3109606843506167077:=()
def tw17506981995516429270:=()
def tw7566228005992021403:=()
def tw2616901428200981017:=()
def tw873706717205999670:=()
def tw12368192620203881197:=()
def tw5772795130064762959:=()
def tw18273007165198225307:=()
def tw5386319055791249241:=()
def tw6715893169969422197:=()
def tw1310596528553484236:=()
def tw4294095869593345602:=()
def tw10300175425148622383:=()
def tw10615380454397773882:=()
def tw9607028104062583166:=()
def tw4092830804032296817:=()
def tw13616182811961390901:=()
def tw13290759881417720638:=()
def tw16043137014191059938:=()
def tw5445904673032982874:=()
def tw7655850245172485532:=()
def tw284180869284690549:=()
def tw17979207928304075790:=()
def tw10662804523695837500:=()
def tw10539689464199313764:=()
def tw15886733669446778795:=()
def tw13308982206722131013:=()
def tw7807064042583912771:=()
def tw9391437179243702721:=()
def tw16394905290865964245:=()
def tw16990301471231408475:=()
def tw3476470521587787102:=()
def tw12312271085232282739:=()
def tw10566213890246951780:=()
def tw9025542418675191740:=()
def tw1143596979320410211:=()
def tw5007985404773199546:=()
def tw8418481619336091959:=()
def tw13850212790507054928:=()
def tw13875642568279112180:=()
def tw7207763735311558236:=()
def tw13352085744553345558:=()
def tw6719725427697006845:=()
def tw7943042150275728858:=()
def tw14320134134694203636:=()
def tw9191947883793165034:=()
def tw3251335069346378748:=()
def tw6642760908332724240:=()
def tw4849198191772873585:=()
def tw14924793939121305799:=()
def tw290650077481267313:=()
def tw15947522883896540624:=()
def tw16750887238088428394:=()
def tw5607590710737622628:=()
def tw4006297965037727609:=()
def tw16431945319892208848:=()
def tw12126212274235789609:=()
def tw11506427691896362658:=()
def tw18350936688597988764:=()
def tw874116176916396199:=()
def tw323988576785132059:=()
def tw7793943870109924197:=()
def tw10723333120638783004:=()
def tw17742190885020397288:=()
def tw5323573791917537721:=()
def tw10813876404061231402:=()
def tw3312756185631192816:=()
def tw9886430012532273721:=()
def tw13758980385623508803:=()
def tw4165433551200489396:=()
def tw2308327055288722630:=()
def tw10363301142825300505:=()
def tw9378684846709698066:=()
def tw4551806582446540725:=()
def tw13713723742733026847:=()
def tw17479755382886972749:=()
def tw5050004300662391691:=()
def tw16231522461705889457:=()
def tw13782341341790112789:=()
def tw91851314875000542:=()
def tw14123111356156238446:=()
def tw11296469142892566279:=()
def tw14013068703295405421:=()
def tw8178380087998518124:=()
def tw1170463735720184025:=()
def tw14265164827834174466:=()
def tw13797741340149011909:=()
def tw17224609129120619800:=()
def tw10872650710714895368:=()
def tw1571056752588069018:=()
def tw17477485561733526491:=()
def tw5033565416489686872:=()
def tw2560648162636553343:=()
def tw7087642342171692669:=()
def tw7446874443419584939:=()
def tw15394267466287955706:=()
def tw16985623111524642554:=()
def tw15204365196463639480:=()
def tw6415646408115672409:=()
def tw7055695437028461042:=()
def tw5472152322002848690:=()
def tw12022695846924869029:=()
def tw17227548448652430729:=()
def tw7788540064497863775:=()
def tw4515180236975795378:=()
def tw9179414973002278916:=()
def tw1520088876246148476:=()
def tw1427000467164194262:=()
def tw17901682612844298105:=()
def tw7878770285209696957:=()
def tw13776772983142447773:=()
def tw11624998275686209272:=()
def tw7748580587568012700:=()
def tw18183495256534498666:=()
def tw15154308719082063928:=()
def tw13110129828326737114:=()
def tw9315464143244989074:=()
def tw10054933763444396740:=()
def tw12465294932220497612:=()
def tw12623689595650215338:=()
def tw16310285729449057108:=()
def tw11064962326511464791:=()
def tw11976533089051076045:=()
def tw12316497773160965801:=()
def tw10467014413547882023:=()
def tw15214510814206020645:=()
def tw4705223257484161476:=()
def tw7145140187332961115:=()
def tw640751125291125476:=()
def tw10720360536248310786:=()
def tw3586076122956864674:=()
def tw16393631954052832831:=()
def tw14355800258305342331:=()
def tw5766297088864731477:=()
def tw15798783576224180444:=()
def tw15934601918980329177:=()
def tw9194951721769322137:=()
def tw5569970969512515027:=()
def tw7269033315229251024:=()
def tw6482345354166741017:=()
def tw7437755980239698753:=()
def tw219730654097034401:=()
def tw7266150323678280270:=()
def tw12192953386473087990:=()
def tw12998230490902286718:=()
def tw6909734296278399400:=()
def tw7788923385245349111:=()
def tw8255341685960364152:=()
def tw7738814798052697083:=()
def tw2164619652117913999:=()
def tw1706651097890323229:=()
def tw5334774369154104754:=()
def tw13463790633981532358:=()
def tw16010316279883683129:=()
def tw2927542792143122916:=()
def tw5674748479694180610:=()
def tw14875564997875335881:=()
def tw799794876821350150:=()
def tw14048303499793001542:=()
def tw12852963417451038198:=()
def tw12525522407291204814:=()
def tw205319867981095669:=()
def tw7651142783786670393:=()
def tw12596528756467920454:=()
def tw2752450384266117338:=()
def tw10867491068224361217:=()
def tw17326443261857626886:=()
def tw15529645429601817549:=()
def tw12080799812220015735:=()
def tw7636635258883782826:=()
def tw8727805230089539869:=()
def tw15396448925923822053:=()
def tw3450463339729762318:=()
def tw17303608535410121477:=()
def tw9977955165466011120:=()
def tw10535441498560028359:=()
def tw77949414649415129:=()
def tw15259440383939158511:=()
def tw18205337168700599567:=()
def tw681717122433092137:=()
def tw1236412679762309515:=()
def tw16776607389713274305:=()
def tw2326127918312337475:=()
def tw8734175362971773317:=()
def tw16324152247019826391:=()
def tw8472228615928893279:=()
def tw6040064303977559077:=()
def tw14328291723580010752:=()
def tw18236277448082497834:=()
def tw2938828055108569749:=()
def tw7060245619644388255:=()
def tw10774691287559811399:=()
def tw12694303787498814561:=()
def tw1521624361876930739:=()
def tw10665612720620375234:=()
def tw15019702850923374932:=()
def tw9650376709532831897:=()
def tw14621375492637388220:=()
def tw7624581534438766242:=()
def tw11283133786254701466:=()
def tw14720525039097508189:=()
def tw12022782549354179131:=()
def tw9138681345229635587:=()
def tw9129624607102654132:=()
def tw14483415884556838244:=()
def tw14360805125998321464:=()
def tw12321560799230568486:=()
def tw14271516079824750544:=()
def tw8923545792901194015:=()
def tw8883206650857641688:=()
def tw14411000413239961075:=()
def tw13473041010749003498:=()
def tw14904280338641387626:=()
def tw3954788154398469649:=()
def tw7914890223822315445:=()
def tw9972253095457954901:=()
def tw9939002671980371413:=()
def tw17923403916482055739:=()
def tw16781902244723001252:=()
def tw1368516491849817511:=()
def tw15097944413989847907:=()
def tw14473362334710954542:=()
def tw16815324343739299421:=()
def tw8068766507272053538:=()
def tw12306159393407923949:=()
end PySem.W.Fast
set_option tactic.hygienic true
open PySem PySem.W PyProof.Rows
set_option maxRecDepth 100000 in
set_option maxHeartbeats 0 in
theorem PySem.Challenge.cw_wantway_k90_rounds_are_no_ways_holds : PySem.Challenge.rw_wantway_k90_rounds_are_no_ways.Holds := by
  w_on; o_law; k_head; (case hw => w_witness2)
  k_fill
  refine K4.goes (l := PySem.Challenge.rw_wantway_k90_rounds_are_no_ways) rfl rfl (fun w h Y => PySem.W.kIn_of Y) ?F
  case F =>
    intro w mg fa h KX G hmg
    refine' K4.all_at KX G hmg ?_ ?_ ?_ ?_ ?_ ?_ ?_ ?_ ?_ ?_ ?_ ?_ ?_ ?_ ?_ ?_ ?_ ?_ ?_ ?_ ?_ ?_ ?_ ?_ ?_ ?_ ?_ ?_ ?_ ?_ ?_ ?_ ?_ ?_ ?_ ?_ ?_ ?_ ?_ ?_ ?_ ?_ ?_ ?_ ?_ ?_ ?_ ?_ ?_ ?_ ?_ ?_ ?_ ?_ ?_ ?_ ?_ ?_ ?_ ?_ ?_ ?_ ?_ ?_ ?_ ?_ ?_ ?_ ?_ ?_ ?_ ?_ ?_ ?_ ?_ ?_ ?_ ?_ ?_ ?_ ?_ ?_ ?_ ?_ ?_ ?_ ?_ ?_ ?_ ?_ ?_ ?_ ?_ ?_ ?_ ?_ ?_ ?_ ?_ ?_ ?_ ?_ ?_ ?_ ?_ ?_ ?_ ?_ ?_ ?_ ?_ ?_ ?_ ?_ ?_ ?_ ?_ ?_ ?_ ?_ ?_ ?_ ?_ ?_ ?_ ?_ ?_ ?_ ?_ ?_ ?_ ?_ ?_ ?_ ?_ ?_ ?_ ?_ ?_ ?_ ?_ ?_ ?_ ?_ ?_ ?_ ?_ ?_ ?_ ?_ ?_ ?_ ?_ ?_
    any_goals first | k_is | (refine' And.intro ?zz0 (K4.At.of ?zz1 ?zz2 ?zz3); (case zz0 => first | k_is | (constructor <;> k_is)); (case zz1 => k_is); (case zz2 => k_is); (case zz3 => k_is)) | (refine' And.intro ?zz0 (K4.AtD.of ?zz1 ?zz2 ?zz3 ?zz4); (case zz0 => k_is); (case zz1 => k_is); (case zz2 => k_is); (case zz3 => k_is); (case zz4 => k_is)) | (unfold K4.GN; k_is) | (unfold K4.GC; k_is) | (unfold K4.GF; k_is) | (refine' And.intro ?zz0 ?zz1; (case zz0 => k_is); (case zz1 => exact ⟨_, rfl⟩)) | kit_is | k_exc | (refine K4.CA.mk ?_ ?_ ?_ ?_ ?_ ?_ <;> k_is) | (refine And.intro ⟨_, _, rfl, rfl⟩ ?_; k_keys) | kernel_rfl
